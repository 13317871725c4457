/- HeapShows. -/
import Derived.Test.YtljofkfnmlhicaaDoorHDone
import Derived.Test.YtljofkfnmlhicaaDoorHShowMath
import Derived.Deep.DeepCutAuto
namespace Go.Proofs.YtljofkfnmlhicaaDoor
open Go.RowKit Go.Shelf

theorem beq_nil_str (l : List UInt8) : ((strB l) == (⟨#[]⟩ : ByteArray)) = decide (l = []) := by
  cases l with
  | nil => rfl
  | cons a t => rfl

set_option maxRecDepth 100000 in
set_option maxHeartbeats 8000000 in
theorem heapShows_out (base : Option Addr) (len cap : Nat) (v : Vl) (n : Int) (w : World) (ht : TabsP w) (hl : 60 < len) (hl2 : len ≤ 1048576) :
    Calls Tryd.prog 7 #[.slice base len cap, vlV v, .int .i64 n] w fun e w' => e = .returned (.bool true) ∧ Below w.heap.size w w' := by
  have hb1 : Below w.heap.size w (w.alloc (.cells #[.int .i64 v.k, .int .i64 v.n, .string (strB v.s)] 25)) := (Below.refl _ w).alloc (Nat.le_refl _) _
  have cl := lives06_any _ (ht.below hb1 (Nat.le_refl _))
  have HB1 : Hid (Below w.heap.size w (w.alloc (.cells #[.int .i64 v.k, .int .i64 v.n, .string (strB v.s)] 25))) := hb1
  obtain ⟨k, m, s⟩ := v
  have hli : (60 : Int) < (len : Int) := by omega
  clear ht hb1
  go_enter Tryd.func7, Tryd.ntmps7
  go_wp2_with fail
  refine cl.mono ?_
  clear cl
  rintro e w' ⟨rfl, hb⟩
  have HB : Hid (Below w.heap.size w w') := HB1.out.trans (hb.mono (by simp))
  clear hb
  go_wp2
  go_ret
  exact ⟨rfl, HB.out⟩

theorem strB_cat (a b : List UInt8) : strB a ++ strB b = strB (a ++ b) := by apply ByteArray.ext; simp [strB]

theorem str_addB (W : World) (a b : List UInt8) (h : a.length + b.length ≤ 9223372036854775807) : (Op.stringOp .add (strB a) (strB b)).run Tryd.prog W = .ok (.string (strB (a ++ b))) W := by
  rw [run_string_add_sum W _ _ (by rw [strB_size, strB_size]; exact h), strB_cat]

set_option maxRecDepth 100000 in
set_option maxHeartbeats 8000000 in
theorem heapShows_in (base : Option Addr) (cap : Nat) (l : List Ac) (v : Vl) (n : Int) (w : World) (hin : actsIn w base l) (hs : ∀ a ∈ l, smallA a) (hl : l.length ≤ 60) (hv : smallV v) (hn : -9223372036854775808 ≤ n ∧ n ≤ 9223372036854775807) (ht : TabsP w) :
    Calls Tryd.prog 7 #[.slice base l.length cap, vlV v, .int .i64 n] w fun e w' => e = .returned (.bool true) ∧ Below w.heap.size w w' := by
  have HT : Hid (TabsP w) := ht
  have HN : Hid (-9223372036854775808 ≤ n ∧ n ≤ 9223372036854775807) := hn
  clear hn
  obtain ⟨w1, hw1⟩ : ∃ w1, w1 = w.alloc (.cells #[.int .i64 v.k, .int .i64 v.n, .string (strB v.s)] 25) := ⟨_, rfl⟩
  have hs1 : w1.heap.size = w.heap.size + 1 := by rw [hw1]; simp
  have hb1 : Below w.heap.size w w1 := by rw [hw1]; exact (Below.refl _ _).alloc (Nat.le_refl _) _
  have hbx : w1.heap[w.heap.size]? = some (.cells #[.int .i64 v.k, .int .i64 v.n, .string (strB v.s)] 25 (0, 0)) := by rw [hw1]; exact World.alloc_heap_new _ _
  have cd := done_any base cap l w1 (actsIn_below hin hb1) hs hl (ht.below hb1 (Nat.le_refl _))
  obtain ⟨OS, hOS⟩ : ∃ OS, OS = doneR l := ⟨_, rfl⟩
  rw [← hOS] at cd
  obtain ⟨N, hN⟩ : ∃ N, N = w1.heap.size := ⟨_, rfl⟩
  rw [← hN] at cd
  have HNE : Hid (N = w1.heap.size) := hN
  have hNw : w.heap.size < N := by omega
  clear hs1 hN
  have HB1 : Hid (Below w.heap.size w w1) := hb1
  have HBX : Hid (w1.heap[w.heap.size]? = some (.cells #[.int .i64 v.k, .int .i64 v.n, .string (strB v.s)] 25 (0, 0))) := hbx
  have hli : ¬ (60 : Int) < (l.length : Int) := by omega
  have hw1' := hw1.symm
  have HV : Hid (smallV v) := hv
  have HSL : Hid ((showB OS v).length ≤ 200) := showB_len OS v
  have HSN : Hid (showB OS v = [] ↔ rightV v OS.length = false) := showB_ne
  obtain ⟨k, m, s⟩ := v
  clear hw1 hb1 hbx ht hin hs hOS hv
  go_enter Tryd.func7, Tryd.ntmps7
  go_wp2_with fail
  refine cd.mono ?_
  clear cd
  rintro e w2 ⟨rfl, ⟨vo2, vc2, H2⟩, hb2⟩
  have hs2 : N ≤ w2.heap.size := by have := hb2.size; have := HNE.out; omega
  have hB2 : Below w.heap.size w w2 := HB1.out.trans (hb2.mono (by omega))
  have bx2 := (hb2.block w.heap.size (by omega)).trans HBX.out
  obtain ⟨p0, p1, p2, -⟩ := cellsH3 bx2
  have H2' := H2.low
  have csh := show_any ⟨k, m, s⟩ w2 H2 HV.out (HT.out.below hB2 (Nat.le_refl _))
  have HH2 : Hid (HpIn (fun q => N ≤ q ∧ q < w2.heap.size) w2 4096 OS N vo2 vc2) := H2'
  have HB2 : Hid (Below w.heap.size w w2) := hB2
  have HBX2 : Hid (w2.heap[w.heap.size]? = some (.cells #[.int .i64 k, .int .i64 m, .string (strB s)] 25 (0, 0))) := bx2
  obtain ⟨SB, hSB⟩ : ∃ SB, SB = showB OS ⟨k, m, s⟩ := ⟨_, rfl⟩
  rw [← hSB] at csh HSL HSN
  clear hb2 hB2 bx2 H2 H2' hSB
  go_wp2_with fail
  refine csh.mono ?_
  clear csh p0 p1 p2
  rintro e w3 ⟨rfl, hb3⟩
  have hs3 := hb3.size
  have hSL := HSL.out
  have HB3 : Hid (Below w2.heap.size w2 w3) := hb3
  obtain ⟨p0, p1, p2, -⟩ := cellsH3 ((hb3.block w.heap.size (by omega)).trans HBX2.out)
  have hlen : ¬ (200 : Int) < (SB.length : Int) := by omega
  have dlen : decide ((200 : Int) < (SB.length : Int)) = false := decide_eq_false hlen
  have dlen2 : decide (200 < SB.length) = false := decide_eq_false (by omega)
  have hsz : (strB SB).size = SB.length := rfl
  have ca : ∀ W, Below w3.heap.size w3 W → Calls Tryd.prog 14 #[.pointer (some ⟨N, 0, none⟩)] W fun e w4 => ∃ b4 c4, e = .returned (.slice b4 OS.length c4) ∧ w4.cell? ⟨w.heap.size, 0, none⟩ = some (.int .i64 k) ∧ w4.cell? ⟨w.heap.size, 1, none⟩ = some (.int .i64 m) ∧ w4.cell? ⟨w.heap.size, 2, none⟩ = some (.string (strB s)) ∧ Hid (Below w3.heap.size w3 w4) := fun W hW => by
    have h2W : Below w2.heap.size w2 W := HB3.out.trans (hW.mono (by omega))
    refine (hall_any W (HH2.out.below h2W)).mono ?_
    rintro e w4 ⟨v4, rfl, ⟨vs4, ho4⟩, hb4⟩
    have h34 : Below w3.heap.size w3 w4 := hW.trans (hb4.mono hW.size)
    obtain ⟨b4, c4, rfl, -, -⟩ := own_val ho4.row
    obtain ⟨q0, q1, q2, -⟩ := cellsH3 ((h34.block w.heap.size (by omega)).trans ((HB3.out.block w.heap.size (by omega)).trans HBX2.out))
    exact ⟨b4, c4, rfl, q0, q1, q2, h34⟩
  have ck : ∀ W, Below w3.heap.size w3 W → Calls Tryd.prog 10 #[.agg #[.int .i64 k, .int .i64 m, .string (strB s)], .int .i64 (OS.length : Int)] W fun e w5 => e = .returned (.int .i64 (errR (rightV ⟨k, m, s⟩ OS.length))) ∧ Hid (Below w3.heap.size w3 w5) := fun W hW => by
    have hBW : Below w.heap.size w W := (HB2.out.trans (HB3.out.mono (by omega))).trans (hW.mono (by omega))
    exact (check_any ⟨k, m, s⟩ OS.length W HV.out (HT.out.below hBW (Nat.le_refl _))).mono fun e w5 ⟨he, hb⟩ => ⟨he, hW.trans (hb.mono hW.size)⟩
  have hBd : Below w3.heap.size w3 w3.drew := (Below.refl _ _).drew
  have HEQ : Hid (rightV ⟨k, m, s⟩ OS.length = true ∧ (∃ a t, SB = a :: t) ∨ rightV ⟨k, m, s⟩ OS.length = false ∧ SB = []) := by
    show _ ∨ _
    cases hr : rightV ⟨k, m, s⟩ OS.length with
    | true =>
      left
      refine ⟨rfl, ?_⟩
      cases SB with
      | nil => have := HSN.out.1 rfl; rw [hr] at this; cases this
      | cons a t => exact ⟨a, t, rfl⟩
    | false => exact .inr ⟨rfl, HSN.out.2 hr⟩
  clear hb3 HSL HSN
  go_upto_region 7 with fail
  go_cut [36] (fun t wx => t = .bool false ∧ Below w3.heap.size w3 wx)
  case first =>
    rcases HEQ.out with ⟨hr, a9, t9, hsb⟩ | ⟨hr, hsb⟩
    · rw [hr] at ck
      rw [show errR true = 0 from rfl] at ck
      have hne : SB ≠ [] := by rw [hsb]; simp
      have f1 : (SB == []) = false := by rw [beq_eq_false_iff_ne]; exact hne
      have f3 : (strB SB == (⟨#[]⟩ : ByteArray)) = false := by rw [hsb]; rfl
      have f2 : decide (SB = []) = false := decide_eq_false hne
      clear hsb hne hSL
      go_region_with (first
        | (go_at_call 14; refine (ca _ hBd).mono ?_; rintro e w4 ⟨b4, c4, rfl, t0, t1, t2, HB4⟩)
        | (go_at_call 10; refine (ck _ HB4.out).mono ?_; rintro e w5 ⟨rfl, HB5⟩))
      all_goals (go_wp2_with fail; go_meet)
      all_goals exact ⟨rfl, HB5.out⟩
    · rw [hr] at ck
      rw [show errR false = 2 from rfl] at ck
      clear hlen dlen dlen2 hsz hSL
      subst hsb
      go_region_with (first
        | (go_at_call 14; refine (ca _ hBd).mono ?_; rintro e w4 ⟨b4, c4, rfl, t0, t1, t2, HB4⟩)
        | (go_at_call 10; refine (ck _ HB4.out).mono ?_; rintro e w5 ⟨rfl, HB5⟩))
      all_goals (go_wp2_with fail; go_meet)
      all_goals exact ⟨rfl, HB5.out⟩
  case rest =>
    obtain ⟨rfl, hbc⟩ := hcut
    have hsc := hbc.size
    have h2c : Below w2.heap.size w2 wc := HB3.out.trans (hbc.mono (by omega))
    have H2C : Hid (Below w2.heap.size w2 wc) := h2c
    clear ca ck hBd HEQ hbc h2c p0 p1 p2
    have c4 := hnum_any n wc
    go_wp2_with fail
    refine c4.mono ?_
    clear c4
    rintro e w4 ⟨rfl, hb4⟩
    have c5 := hnum_any n w4
    go_wp2_with fail
    refine c5.mono ?_
    clear c5
    rintro e w5 ⟨rfl, hb5⟩
    have hs4 := hb4.size
    have hs5 := hb5.size
    have h25 : Below w2.heap.size w2 w5 := (H2C.out.trans (hb4.mono (by omega))).trans (hb5.mono (by omega))
    obtain ⟨w6, hw6⟩ : ∃ w6, w6 = w5.alloc (.cells #[.int .i64 1, .int .i64 n, .string ⟨#[]⟩, .int .i64 1, .int .i64 n, .string ⟨#[]⟩] 25) := ⟨_, rfl⟩
    have hs6 : w6.heap.size = w5.heap.size + 1 := by rw [hw6]; simp
    have h26 : Below w2.heap.size w2 w6 := by rw [hw6]; exact h25.alloc h25.size _
    have hB6 : Below w.heap.size w w6 := HB2.out.trans (h26.mono HB2.out.size)
    have c7 := alloc_any (T := fun q => q = w5.heap.size) ([], [⟨1, n, []⟩, ⟨1, n, []⟩]) (.slice (some ⟨w5.heap.size, 0, none⟩) 2 2) w6 (HH2.out.below h26) (by rw [hw6]; exact valsIn_two w5 ⟨1, n, []⟩ ⟨1, n, []⟩) ⟨by simp, fun u hu => by simp at hu; subst hu; exact ⟨HN.out, by simp⟩⟩ (by simp) (HT.out.below hB6 (Nat.le_refl _))
    have HB6 : Hid (Below w.heap.size w w6) := hB6
    have HW6 : Hid (w6 = w5.alloc (.cells #[.int .i64 1, .int .i64 n, .string ⟨#[]⟩, .int .i64 1, .int .i64 n, .string ⟨#[]⟩] 25)) := hw6
    have hOl : OS.length ≤ 4096 := by have := HH2.out.use; omega
    obtain ⟨T9, hT9⟩ : ∃ T9, T9 = Lib.itoa n := ⟨_, rfl⟩
    have HT9 : Hid (T9 = Lib.itoa n) := hT9
    have hTl : T9.length ≤ 30 := by rw [hT9]; exact itoa_len n HN.out.1 HN.out.2
    obtain ⟨c0, t0, hct, hc45⟩ := itoa_cons n
    rw [← hT9] at hct
    have f1 : (T9 == []) = false := by rw [hct]; rfl
    have f2 : decide (T9 = []) = false := decide_eq_false (by rw [hct]; simp)
    have f3 : (strB T9 == (⟨#[]⟩ : ByteArray)) = false := by rw [hct]; rfl
    have HCT : Hid (T9 = c0 :: t0) := hct
    clear hT9 hct
    obtain ⟨L1, hL1⟩ : ∃ L1, L1 = [91] ++ T9 := ⟨_, rfl⟩
    obtain ⟨L2, hL2⟩ : ∃ L2, L2 = L1 ++ [44, 32] := ⟨_, rfl⟩
    obtain ⟨L3, hL3⟩ : ∃ L3, L3 = L2 ++ T9 := ⟨_, rfl⟩
    obtain ⟨L4, hL4⟩ : ∃ L4, L4 = L3 ++ [93] := ⟨_, rfl⟩
    have l1 : L1.length = 1 + T9.length := by rw [hL1]; simp; omega
    have l2 : L2.length = 3 + T9.length := by rw [hL2]; simp; omega
    have l3 : L3.length = 3 + 2 * T9.length := by rw [hL3]; simp; omega
    have a1 : ∀ W : World, (Op.stringOp .add ⟨#[91]⟩ (strB T9)).run Tryd.prog W = .ok (.string (strB L1)) W := fun W => by
      rw [hL1]; exact str_addB W [91] T9 (by simp; omega)
    have a2 : ∀ W : World, (Op.stringOp .add (strB L1) ⟨#[44, 32]⟩).run Tryd.prog W = .ok (.string (strB L2)) W := fun W => by
      rw [hL2]; exact str_addB W L1 [44, 32] (by simp; omega)
    have a3 : ∀ W : World, (Op.stringOp .add (strB L2) (strB T9)).run Tryd.prog W = .ok (.string (strB L3)) W := fun W => by
      rw [hL3]; exact str_addB W L2 T9 (by omega)
    have a4 : ∀ W : World, (Op.stringOp .add (strB L3) ⟨#[93]⟩).run Tryd.prog W = .ok (.string (strB L4)) W := fun W => by
      rw [hL4]; exact str_addB W L3 [93] (by simp; omega)
    have HL4 : Hid (L4 = [91] ++ T9 ++ [44, 32] ++ T9 ++ [93]) := by show _ = _; rw [hL4, hL3, hL2, hL1]
    have hTz : (strB T9).size = T9.length := rfl
    clear hL1 hL2 hL3 hL4 l1 l2 l3
    have HAL : Hid (allocR 4096 OS ([], [⟨1, n, []⟩, ⟨1, n, []⟩]) = if 4096 < OS.length + (allV OS).length + 3 then (⟨0, 0, []⟩, 12, OS) else (⟨4, (OS.length : Int), []⟩, 0, OS ++ [([], [⟨1, n, []⟩, ⟨1, n, []⟩])])) := by
      show _ = _
      unfold allocR
      rw [if_neg (by simp [obB, cellV, rightV, tagB])]
      rfl
    rw [HAL.out] at c7
    clear hw6 h26 h25 hB6 hb4 hb5 HAL
    by_cases hfit : 4096 < OS.length + (allV OS).length + 3
    · rw [if_pos hfit] at c7
      go_wp2_with fail
      rw [← HW6.out]
      refine c7.mono ?_
      clear c7
      by_cases hneg : n < 0
      · have hc9 : c0 = 45 := hc45.2 hneg
        subst hc9
        clear hc45
        have hto : ∀ W : World, (Instr.slice 9 (.string (strB T9)) none (some (.int .i64 1)) none).run Tryd.prog W = .ok (.string ⟨#[45]⟩) W := fun W => by have := str_to W T9 1 (by rw [HCT.out]; simp); rw [HCT.out] at this ⊢; exact this
        rintro e w7 ⟨rfl, hk7, vo7, vc7, H7⟩
        have hs7 := hk7.size
        have hB7 : Below w.heap.size w w7 := HB6.out.trans (hk7.below HB6.out.size (fun q hq => by omega))
        obtain ⟨w8, hw8⟩ : ∃ w8, w8 = w7.alloc (.cells #[.int .i64 0, .int .i64 0, .string ⟨#[]⟩] 25) := ⟨_, rfl⟩
        have hs8 : w8.heap.size = w7.heap.size + 1 := by rw [hw8]; simp
        have h78 : Below w7.heap.size w7 w8 := by rw [hw8]; exact (Below.refl _ _).alloc (Nat.le_refl _) _
        have ba8 : w8.heap[w7.heap.size]? = some (.cells #[.int .i64 0, .int .i64 0, .string ⟨#[]⟩] 25 (0, 0)) := by rw [hw8]; exact World.alloc_heap_new _ _
        have HH7 : Hid (HpIn (fun q => (N ≤ q ∧ q < w2.heap.size) ∨ w6.heap.size ≤ q) w7 4096 (OS) N vo7 vc7) := H7
        have HB7 : Hid (Below w.heap.size w w7) := hB7
        have H78 : Hid (Below w7.heap.size w7 w8) := h78
        have HBA8 : Hid (w8.heap[w7.heap.size]? = some (.cells #[.int .i64 0, .int .i64 0, .string ⟨#[]⟩] 25 (0, 0))) := ba8
        have HW8 : Hid (w8 = w7.alloc (.cells #[.int .i64 0, .int .i64 0, .string ⟨#[]⟩] 25)) := hw8
        have c9 := hnum_any n w8
        clear hw8 h78 ba8 hB7 hk7 H7
        go_wp2_with fail
        rw [← HW8.out]
        refine c9.mono ?_
        clear c9
        rintro e w9 ⟨rfl, hb9⟩
        have hs9 := hb9.size
        have h79 : Below w7.heap.size w7 w9 := H78.out.trans (hb9.mono (by omega))
        have H79 : Hid (Below w7.heap.size w7 w9) := h79
        have hB9 : Below w.heap.size w w9 := HB7.out.trans (h79.mono HB7.out.size)
        have HBA9 : Hid (w9.heap[w7.heap.size]? = some (.cells #[.int .i64 0, .int .i64 0, .string ⟨#[]⟩] 25 (0, 0))) := (hb9.block _ (by omega)).trans HBA8.out
        have c10 := show_any ⟨1, n, []⟩ w9 (HH7.out.below h79) ⟨HN.out, by simp⟩ (HT.out.below hB9 (Nat.le_refl _))
        rw [showB_num _ n HN.out.1 HN.out.2, ← HT9.out] at c10
        have HB9 : Hid (Below w.heap.size w w9) := hB9
        clear hb9 h79 hB9
        go_wp2_with fail
        refine c10.mono ?_
        clear c10
        rintro e w10 ⟨rfl, hb10⟩
        have hs10 := hb10.size
        have HB10 : Hid (Below w.heap.size w w10) := HB9.out.trans (hb10.mono HB9.out.size)
        have H910 : Hid (Below w9.heap.size w9 w10) := hb10
        obtain ⟨r0, r1, r2, -⟩ := cellsH3 ((hb10.block w7.heap.size (by omega)).trans HBA9.out)
        clear hb10
        have cl := lives06_any w10 (HT.out.below HB10.out (Nat.le_refl _))
        go_wp2_with fail
        refine cl.mono ?_
        clear cl
        rintro e w12 ⟨rfl, hb12⟩
        have HB12 : Hid (Below w.heap.size w w12) := HB10.out.trans (hb12.mono HB10.out.size)
        clear hb12
        go_wp2
        go_ret
        exact ⟨rfl, HB12.out⟩
      · have hc9 : c0 ≠ 45 := fun e => hneg (hc45.1 e)
        clear hc45
        have hto : ∀ W : World, (Instr.slice 9 (.string (strB T9)) none (some (.int .i64 1)) none).run Tryd.prog W = .ok (.string (strB [c0])) W := fun W => by have := str_to W T9 1 (by rw [HCT.out]; simp); rw [HCT.out] at this ⊢; exact this
        have g1 : (c0 == 45) = false := by rw [beq_eq_false_iff_ne]; exact hc9
        have g2 : decide (c0 = 45) = false := decide_eq_false hc9
        have g3 : ([c0] == [45]) = false := by rw [beq_eq_false_iff_ne]; intro e; exact hc9 (by simpa using e)
        rintro e w7 ⟨rfl, hk7, vo7, vc7, H7⟩
        have hs7 := hk7.size
        have hB7 : Below w.heap.size w w7 := HB6.out.trans (hk7.below HB6.out.size (fun q hq => by omega))
        obtain ⟨w8, hw8⟩ : ∃ w8, w8 = w7.alloc (.cells #[.int .i64 0, .int .i64 0, .string ⟨#[]⟩] 25) := ⟨_, rfl⟩
        have hs8 : w8.heap.size = w7.heap.size + 1 := by rw [hw8]; simp
        have h78 : Below w7.heap.size w7 w8 := by rw [hw8]; exact (Below.refl _ _).alloc (Nat.le_refl _) _
        have ba8 : w8.heap[w7.heap.size]? = some (.cells #[.int .i64 0, .int .i64 0, .string ⟨#[]⟩] 25 (0, 0)) := by rw [hw8]; exact World.alloc_heap_new _ _
        have HH7 : Hid (HpIn (fun q => (N ≤ q ∧ q < w2.heap.size) ∨ w6.heap.size ≤ q) w7 4096 (OS) N vo7 vc7) := H7
        have HB7 : Hid (Below w.heap.size w w7) := hB7
        have H78 : Hid (Below w7.heap.size w7 w8) := h78
        have HBA8 : Hid (w8.heap[w7.heap.size]? = some (.cells #[.int .i64 0, .int .i64 0, .string ⟨#[]⟩] 25 (0, 0))) := ba8
        have HW8 : Hid (w8 = w7.alloc (.cells #[.int .i64 0, .int .i64 0, .string ⟨#[]⟩] 25)) := hw8
        have c9 := hnum_any n w8
        clear hw8 h78 ba8 hB7 hk7 H7
        go_wp2_with fail
        rw [← HW8.out]
        refine c9.mono ?_
        clear c9
        rintro e w9 ⟨rfl, hb9⟩
        have hs9 := hb9.size
        have h79 : Below w7.heap.size w7 w9 := H78.out.trans (hb9.mono (by omega))
        have H79 : Hid (Below w7.heap.size w7 w9) := h79
        have hB9 : Below w.heap.size w w9 := HB7.out.trans (h79.mono HB7.out.size)
        have HBA9 : Hid (w9.heap[w7.heap.size]? = some (.cells #[.int .i64 0, .int .i64 0, .string ⟨#[]⟩] 25 (0, 0))) := (hb9.block _ (by omega)).trans HBA8.out
        have c10 := show_any ⟨1, n, []⟩ w9 (HH7.out.below h79) ⟨HN.out, by simp⟩ (HT.out.below hB9 (Nat.le_refl _))
        rw [showB_num _ n HN.out.1 HN.out.2, ← HT9.out] at c10
        have HB9 : Hid (Below w.heap.size w w9) := hB9
        clear hb9 h79 hB9
        go_wp2_with fail
        refine c10.mono ?_
        clear c10
        rintro e w10 ⟨rfl, hb10⟩
        have hs10 := hb10.size
        have HB10 : Hid (Below w.heap.size w w10) := HB9.out.trans (hb10.mono HB9.out.size)
        have H910 : Hid (Below w9.heap.size w9 w10) := hb10
        obtain ⟨r0, r1, r2, -⟩ := cellsH3 ((hb10.block w7.heap.size (by omega)).trans HBA9.out)
        clear hb10
        have cl := lives06_any w10 (HT.out.below HB10.out (Nat.le_refl _))
        go_wp2_with fail
        refine cl.mono ?_
        clear cl
        rintro e w12 ⟨rfl, hb12⟩
        have HB12 : Hid (Below w.heap.size w w12) := HB10.out.trans (hb12.mono HB10.out.size)
        clear hb12
        go_wp2
        go_ret
        exact ⟨by show Ending.returned (Value.bool !decide (n < 0)) = _; rw [decide_eq_false (show ¬ n < 0 by omega)]; rfl, HB12.out⟩
    · rw [if_neg hfit] at c7
      go_wp2_with fail
      rw [← HW6.out]
      refine c7.mono ?_
      clear c7
      by_cases hneg : n < 0
      · have hc9 : c0 = 45 := hc45.2 hneg
        subst hc9
        clear hc45
        have hto : ∀ W : World, (Instr.slice 9 (.string (strB T9)) none (some (.int .i64 1)) none).run Tryd.prog W = .ok (.string ⟨#[45]⟩) W := fun W => by have := str_to W T9 1 (by rw [HCT.out]; simp); rw [HCT.out] at this ⊢; exact this
        rintro e w7 ⟨rfl, hk7, vo7, vc7, H7⟩
        have hs7 := hk7.size
        have hB7 : Below w.heap.size w w7 := HB6.out.trans (hk7.below HB6.out.size (fun q hq => by omega))
        obtain ⟨w8, hw8⟩ : ∃ w8, w8 = w7.alloc (.cells #[.int .i64 4, .int .i64 (OS.length : Int), .string ⟨#[]⟩] 25) := ⟨_, rfl⟩
        have hs8 : w8.heap.size = w7.heap.size + 1 := by rw [hw8]; simp
        have h78 : Below w7.heap.size w7 w8 := by rw [hw8]; exact (Below.refl _ _).alloc (Nat.le_refl _) _
        have ba8 : w8.heap[w7.heap.size]? = some (.cells #[.int .i64 4, .int .i64 (OS.length : Int), .string ⟨#[]⟩] 25 (0, 0)) := by rw [hw8]; exact World.alloc_heap_new _ _
        have HH7 : Hid (HpIn (fun q => (N ≤ q ∧ q < w2.heap.size) ∨ w6.heap.size ≤ q) w7 4096 (OS ++ [([], [⟨1, n, []⟩, ⟨1, n, []⟩])]) N vo7 vc7) := H7
        have HB7 : Hid (Below w.heap.size w w7) := hB7
        have H78 : Hid (Below w7.heap.size w7 w8) := h78
        have HBA8 : Hid (w8.heap[w7.heap.size]? = some (.cells #[.int .i64 4, .int .i64 (OS.length : Int), .string ⟨#[]⟩] 25 (0, 0))) := ba8
        have HW8 : Hid (w8 = w7.alloc (.cells #[.int .i64 4, .int .i64 (OS.length : Int), .string ⟨#[]⟩] 25)) := hw8
        have c9 := hnum_any n w8
        clear hw8 h78 ba8 hB7 hk7 H7
        go_wp2_with fail
        rw [← HW8.out]
        refine c9.mono ?_
        clear c9
        rintro e w9 ⟨rfl, hb9⟩
        have hs9 := hb9.size
        have h79 : Below w7.heap.size w7 w9 := H78.out.trans (hb9.mono (by omega))
        have H79 : Hid (Below w7.heap.size w7 w9) := h79
        have hB9 : Below w.heap.size w w9 := HB7.out.trans (h79.mono HB7.out.size)
        have HBA9 : Hid (w9.heap[w7.heap.size]? = some (.cells #[.int .i64 4, .int .i64 (OS.length : Int), .string ⟨#[]⟩] 25 (0, 0))) := (hb9.block _ (by omega)).trans HBA8.out
        have c10 := show_any ⟨1, n, []⟩ w9 (HH7.out.below h79) ⟨HN.out, by simp⟩ (HT.out.below hB9 (Nat.le_refl _))
        rw [showB_num _ n HN.out.1 HN.out.2, ← HT9.out] at c10
        have HB9 : Hid (Below w.heap.size w w9) := hB9
        clear hb9 h79 hB9
        go_wp2_with fail
        refine c10.mono ?_
        clear c10
        rintro e w10 ⟨rfl, hb10⟩
        have hs10 := hb10.size
        have HB10 : Hid (Below w.heap.size w w10) := HB9.out.trans (hb10.mono HB9.out.size)
        have H910 : Hid (Below w9.heap.size w9 w10) := hb10
        obtain ⟨r0, r1, r2, -⟩ := cellsH3 ((hb10.block w7.heap.size (by omega)).trans HBA9.out)
        clear hb10
        have c11 := show_any ⟨4, (OS.length : Int), []⟩ w10 ((HH7.out.below H79.out).below H910.out) ⟨⟨by simp only; omega, by simp only; omega⟩, by simp⟩ (HT.out.below HB10.out (Nat.le_refl _))
        rw [showB_two OS n HN.out.1 HN.out.2, ← HT9.out, ← HL4.out] at c11
        go_wp2_with fail
        refine c11.mono ?_
        clear c11 r0 r1 r2
        rintro e w11 ⟨rfl, hb11⟩
        have HB11 : Hid (Below w.heap.size w w11) := HB10.out.trans (hb11.mono HB10.out.size)
        clear hb11
        have cl := lives06_any w11 (HT.out.below HB11.out (Nat.le_refl _))
        go_wp2_with fail
        refine cl.mono ?_
        clear cl
        rintro e w12 ⟨rfl, hb12⟩
        have HB12 : Hid (Below w.heap.size w w12) := HB11.out.trans (hb12.mono HB11.out.size)
        clear hb12
        go_wp2
        go_ret
        exact ⟨rfl, HB12.out⟩
      · have hc9 : c0 ≠ 45 := fun e => hneg (hc45.1 e)
        clear hc45
        have hto : ∀ W : World, (Instr.slice 9 (.string (strB T9)) none (some (.int .i64 1)) none).run Tryd.prog W = .ok (.string (strB [c0])) W := fun W => by have := str_to W T9 1 (by rw [HCT.out]; simp); rw [HCT.out] at this ⊢; exact this
        have g1 : (c0 == 45) = false := by rw [beq_eq_false_iff_ne]; exact hc9
        have g2 : decide (c0 = 45) = false := decide_eq_false hc9
        have g3 : ([c0] == [45]) = false := by rw [beq_eq_false_iff_ne]; intro e; exact hc9 (by simpa using e)
        rintro e w7 ⟨rfl, hk7, vo7, vc7, H7⟩
        have hs7 := hk7.size
        have hB7 : Below w.heap.size w w7 := HB6.out.trans (hk7.below HB6.out.size (fun q hq => by omega))
        obtain ⟨w8, hw8⟩ : ∃ w8, w8 = w7.alloc (.cells #[.int .i64 4, .int .i64 (OS.length : Int), .string ⟨#[]⟩] 25) := ⟨_, rfl⟩
        have hs8 : w8.heap.size = w7.heap.size + 1 := by rw [hw8]; simp
        have h78 : Below w7.heap.size w7 w8 := by rw [hw8]; exact (Below.refl _ _).alloc (Nat.le_refl _) _
        have ba8 : w8.heap[w7.heap.size]? = some (.cells #[.int .i64 4, .int .i64 (OS.length : Int), .string ⟨#[]⟩] 25 (0, 0)) := by rw [hw8]; exact World.alloc_heap_new _ _
        have HH7 : Hid (HpIn (fun q => (N ≤ q ∧ q < w2.heap.size) ∨ w6.heap.size ≤ q) w7 4096 (OS ++ [([], [⟨1, n, []⟩, ⟨1, n, []⟩])]) N vo7 vc7) := H7
        have HB7 : Hid (Below w.heap.size w w7) := hB7
        have H78 : Hid (Below w7.heap.size w7 w8) := h78
        have HBA8 : Hid (w8.heap[w7.heap.size]? = some (.cells #[.int .i64 4, .int .i64 (OS.length : Int), .string ⟨#[]⟩] 25 (0, 0))) := ba8
        have HW8 : Hid (w8 = w7.alloc (.cells #[.int .i64 4, .int .i64 (OS.length : Int), .string ⟨#[]⟩] 25)) := hw8
        have c9 := hnum_any n w8
        clear hw8 h78 ba8 hB7 hk7 H7
        go_wp2_with fail
        rw [← HW8.out]
        refine c9.mono ?_
        clear c9
        rintro e w9 ⟨rfl, hb9⟩
        have hs9 := hb9.size
        have h79 : Below w7.heap.size w7 w9 := H78.out.trans (hb9.mono (by omega))
        have H79 : Hid (Below w7.heap.size w7 w9) := h79
        have hB9 : Below w.heap.size w w9 := HB7.out.trans (h79.mono HB7.out.size)
        have HBA9 : Hid (w9.heap[w7.heap.size]? = some (.cells #[.int .i64 4, .int .i64 (OS.length : Int), .string ⟨#[]⟩] 25 (0, 0))) := (hb9.block _ (by omega)).trans HBA8.out
        have c10 := show_any ⟨1, n, []⟩ w9 (HH7.out.below h79) ⟨HN.out, by simp⟩ (HT.out.below hB9 (Nat.le_refl _))
        rw [showB_num _ n HN.out.1 HN.out.2, ← HT9.out] at c10
        have HB9 : Hid (Below w.heap.size w w9) := hB9
        clear hb9 h79 hB9
        go_wp2_with fail
        refine c10.mono ?_
        clear c10
        rintro e w10 ⟨rfl, hb10⟩
        have hs10 := hb10.size
        have HB10 : Hid (Below w.heap.size w w10) := HB9.out.trans (hb10.mono HB9.out.size)
        have H910 : Hid (Below w9.heap.size w9 w10) := hb10
        obtain ⟨r0, r1, r2, -⟩ := cellsH3 ((hb10.block w7.heap.size (by omega)).trans HBA9.out)
        clear hb10
        have c11 := show_any ⟨4, (OS.length : Int), []⟩ w10 ((HH7.out.below H79.out).below H910.out) ⟨⟨by simp only; omega, by simp only; omega⟩, by simp⟩ (HT.out.below HB10.out (Nat.le_refl _))
        rw [showB_two OS n HN.out.1 HN.out.2, ← HT9.out, ← HL4.out] at c11
        go_wp2_with fail
        refine c11.mono ?_
        clear c11 r0 r1 r2
        rintro e w11 ⟨rfl, hb11⟩
        have HB11 : Hid (Below w.heap.size w w11) := HB10.out.trans (hb11.mono HB10.out.size)
        clear hb11
        have cl := lives06_any w11 (HT.out.below HB11.out (Nat.le_refl _))
        go_wp2_with fail
        refine cl.mono ?_
        clear cl
        rintro e w12 ⟨rfl, hb12⟩
        have HB12 : Hid (Below w.heap.size w w12) := HB11.out.trans (hb12.mono HB11.out.size)
        clear hb12
        go_wp2
        go_ret
        exact ⟨by show Ending.returned (Value.bool !decide (n < 0)) = _; rw [decide_eq_false (show ¬ n < 0 by omega)]; rfl, HB12.out⟩
end Go.Proofs.YtljofkfnmlhicaaDoor
