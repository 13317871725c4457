/- HeapSet. -/
import Derived.Test.YtljofkfnmlhicaaDoorHDone
import Derived.Test.YtljofkfnmlhicaaDoorHSame
import Derived.Deep.DeepCutAuto
namespace Go.Proofs.YtljofkfnmlhicaaDoor
open Go.RowKit Go.Shelf

theorem setOs_get (os : List Ob) (j i : Nat) (x : Vl) (k : Nat) (h : k < os.length) : ∃ h' : k < (setOs os j i x).length, ((setOs os j i x)[k]'h').1 = (os[k]).1 ∧ ((setOs os j i x)[k]'h').2 = if k = j then (os[k]).2.set i x else (os[k]).2 := by
  have h' : k < (setOs os j i x).length := by rw [setOs_len]; exact h
  refine ⟨h', ?_⟩
  have e := setOs_at os j i x k
  rw [List.getElem?_eq_getElem h', List.getElem?_eq_getElem h] at e
  split at e
  · rename_i hk
    simp only [Option.map_some, Option.some.injEq] at e
    rw [e, if_pos hk]
    exact ⟨rfl, rfl⟩
  · rename_i hk
    simp only [Option.some.injEq] at e
    rw [e, if_neg hk]
    exact ⟨rfl, rfl⟩

theorem setE_zero {os : List Ob} {n i : Int} {x : Vl} (h : setE os ⟨4, n, []⟩ i x = 0) : ∃ (j q : Nat) (hj : j < os.length), n = j ∧ i = q ∧ q < (os[j]).2.length ∧ setR os ⟨4, n, []⟩ i x = setOs os j q x := by
  have h9 := h
  unfold setE at h
  split at h
  · rename_i hr
    obtain ⟨j, hj, e⟩ := refB_form hr
    simp only [Vl.mk.injEq, true_and, and_true] at e
    subst e
    split at h
    · split at h
      · rename_i hh
        simp only [Int.toNat_natCast, List.getElem?_eq_getElem hj, Option.getD_some] at hh
        have hi : 0 ≤ i ∧ i < (os[j]).2.length := by unfold hasB at hh; exact of_decide_eq_true hh
        refine ⟨j, i.toNat, hj, rfl, by omega, by omega, ?_⟩
        unfold setR
        rw [h9, if_pos rfl]
        simp
      · simp at h
    · simp at h
  · simp at h

set_option maxRecDepth 100000 in
set_option maxHeartbeats 4000000 in
theorem heapSet_out (base : Option Addr) (len cap : Nat) (v : Vl) (n i : Int) (w : World) (ht : TabsP w) (hl : 60 < len) (hl2 : len ≤ 1048576) :
    Calls Tryd.prog 5 #[.slice base len cap, .int .i64 n, .int .i64 i, vlV v] w fun e w' => e = .returned (.bool true) ∧ Below w.heap.size w w' := by
  have hb1 : Below w.heap.size w (w.alloc (.cells #[.int .i64 v.k, .int .i64 v.n, .string (strB v.s)] 25)) := (Below.refl _ w).alloc (Nat.le_refl _) _
  have cl := lives06_any _ (ht.below hb1 (Nat.le_refl _))
  have HB1 : Hid (Below w.heap.size w (w.alloc (.cells #[.int .i64 v.k, .int .i64 v.n, .string (strB v.s)] 25))) := hb1
  obtain ⟨k, m, s⟩ := v
  have hli : (60 : Int) < (len : Int) := by omega
  clear ht hb1
  go_enter Tryd.func5, Tryd.ntmps5
  go_wp2_with fail
  refine cl.mono ?_
  clear cl
  rintro e w' ⟨rfl, hb⟩
  have HB : Hid (Below w.heap.size w w') := HB1.out.trans (hb.mono (by simp))
  clear hb
  go_wp2
  go_ret
  exact ⟨rfl, HB.out⟩

set_option maxRecDepth 100000 in
set_option maxHeartbeats 8000000 in
theorem heapSet_in (base : Option Addr) (cap : Nat) (l : List Ac) (x : Vl) (n i : Int) (w : World) (hin : actsIn w base l) (hs : ∀ a ∈ l, smallA a) (hl : l.length ≤ 60) (hx : smallV x) (hn : -9223372036854775808 ≤ n ∧ n ≤ 9223372036854775807) (ht : TabsP w) :
    Calls Tryd.prog 5 #[.slice base l.length cap, .int .i64 n, .int .i64 i, vlV x] w fun e w' => e = .returned (.bool true) ∧ Below w.heap.size w w' := by
  have HT : Hid (TabsP w) := ht
  have HN : Hid (-9223372036854775808 ≤ n ∧ n ≤ 9223372036854775807) := hn
  clear hn
  obtain ⟨w1, hw1⟩ : ∃ w1, w1 = w.alloc (.cells #[.int .i64 x.k, .int .i64 x.n, .string (strB x.s)] 25) := ⟨_, rfl⟩
  have hs1 : w1.heap.size = w.heap.size + 1 := by rw [hw1]; simp
  have hb1 : Below w.heap.size w w1 := by rw [hw1]; exact (Below.refl _ _).alloc (Nat.le_refl _) _
  have hbx : w1.heap[w.heap.size]? = some (.cells #[.int .i64 x.k, .int .i64 x.n, .string (strB x.s)] 25 (0, 0)) := by rw [hw1]; exact World.alloc_heap_new _ _
  have cd := done_any base cap l w1 (actsIn_below hin hb1) hs hl (ht.below hb1 (Nat.le_refl _))
  obtain ⟨OS, hOS⟩ : ∃ OS, OS = doneR l := ⟨_, rfl⟩
  rw [← hOS] at cd
  obtain ⟨N, hN⟩ : ∃ N, N = w1.heap.size := ⟨_, rfl⟩
  rw [← hN] at cd
  have HNE : Hid (N = w1.heap.size) := hN
  have hNw : w.heap.size < N := by omega
  clear hs1 hN
  have HB1 : Hid (Below w.heap.size w w1) := hb1
  have HBX : Hid (w1.heap[w.heap.size]? = some (.cells #[.int .i64 x.k, .int .i64 x.n, .string (strB x.s)] 25 (0, 0))) := hbx
  have hli : ¬ (60 : Int) < (l.length : Int) := by omega
  have hw1' := hw1.symm
  have HX : Hid (smallV x) := hx
  clear hw1 hb1 hbx ht hin hs hOS hx
  obtain ⟨k, m, s⟩ := x
  go_enter Tryd.func5, Tryd.ntmps5
  go_wp2_with fail
  refine cd.mono ?_
  clear cd
  rintro e w2 ⟨rfl, ⟨vo2, vc2, H2⟩, hb2⟩
  have hs2 : N ≤ w2.heap.size := by have := hb2.size; have := HNE.out; omega
  have hB2 : Below w.heap.size w w2 := HB1.out.trans (hb2.mono (by omega))
  have hOSl : OS.length ≤ 4096 := by have := H2.use; have := H2.may; omega
  have HOK : Hid (∀ o ∈ OS, o.2.length ≤ 4096) := fun o ho => by
    obtain ⟨q, hq, rfl⟩ := List.getElem_of_mem ho
    have h1 := (allV_cut OS q hq).1
    have := H2.use
    have := H2.may
    omega
  have ca := hall_any w2 H2
  have HH2 : Hid (HpIn (fun q => N ≤ q ∧ q < w2.heap.size) w2 4096 OS N vo2 vc2) := H2.low
  have HB2 : Hid (Below w.heap.size w w2) := hB2
  have HBX2 : Hid (w2.heap[w.heap.size]? = some (.cells #[.int .i64 k, .int .i64 m, .string (strB s)] 25 (0, 0))) := (hb2.block w.heap.size (by omega)).trans HBX.out
  clear hb2 hB2 H2
  go_wp2_with fail
  refine ca.mono ?_
  clear ca
  rintro e w3 ⟨vw, rfl, ⟨vsw, how⟩, hb3⟩
  obtain ⟨bw, cw, rfl, hcw1, hcw2⟩ := own_val how.row
  have hs3 := hb3.size
  have HWAS : Hid (objsIn (fun q => w2.heap.size ≤ q ∧ q < w3.heap.size) w3 (.slice bw OS.length cw) OS) := how.read.wide fun q hq hS => ⟨hS, hq⟩
  have HB3 : Hid (Below w2.heap.size w2 w3) := hb3
  have bx3 := (hb3.block w.heap.size (by omega)).trans HBX2.out
  obtain ⟨p0, p1, p2, -⟩ := cellsH3 bx3
  obtain ⟨E, hE⟩ : ∃ E, E = setE OS ⟨4, n, []⟩ i ⟨k, m, s⟩ := ⟨_, rfl⟩
  obtain ⟨OS2, hOS2⟩ : ∃ OS2, OS2 = setR OS ⟨4, n, []⟩ i ⟨k, m, s⟩ := ⟨_, rfl⟩
  have cat : ∀ W, Below w3.heap.size w3 W → Calls Tryd.prog 23 #[.int .i64 n] W fun e w4 => e = .returned (.agg #[.int .i64 4, .int .i64 n, .string ⟨#[]⟩]) ∧ w4.cell? ⟨w.heap.size, 0, none⟩ = some (.int .i64 k) ∧ w4.cell? ⟨w.heap.size, 1, none⟩ = some (.int .i64 m) ∧ w4.cell? ⟨w.heap.size, 2, none⟩ = some (.string (strB s)) ∧ Hid (Below w3.heap.size w3 w4) := fun W hW => (href_any n W).mono fun e w4 ⟨he, hb⟩ => by
    have h34 : Below w3.heap.size w3 w4 := hW.trans (hb.mono hW.size)
    obtain ⟨q0, q1, q2, -⟩ := cellsH3 ((h34.block w.heap.size (by omega)).trans bx3)
    exact ⟨he, q0, q1, q2, h34⟩
  have cst : ∀ W, Below w3.heap.size w3 W → Calls Tryd.prog 22 #[.pointer (some ⟨N, 0, none⟩), .agg #[.int .i64 4, .int .i64 n, .string ⟨#[]⟩], .int .i64 i, .agg #[.int .i64 k, .int .i64 m, .string (strB s)]] W fun e w5 => e = .returned (.int .i64 E) ∧ Hid (KeptS (fun q => N ≤ q ∧ q < w2.heap.size) w3 w5 ∧ HpIn (fun q => N ≤ q ∧ q < w2.heap.size) w5 4096 OS2 N vo2 vc2) := fun W hW => by
    have h2W : Below w2.heap.size w2 W := HB3.out.trans (hW.mono (by omega))
    have hBW : Below w.heap.size w W := HB2.out.trans (h2W.mono (by omega))
    refine (set_any ⟨4, n, []⟩ ⟨k, m, s⟩ i W (HH2.out.below h2W) ⟨HN.out, by simp⟩ HX.out (HT.out.below hBW (Nat.le_refl _))).mono ?_
    rintro e w5 ⟨rfl, hk5, H5⟩
    rw [← hE]
    rw [← hOS2] at H5
    exact ⟨rfl, (KeptS.of hW).trans hk5 fun q _ h => h, H5⟩
  have hBd : Below w3.heap.size w3 w3.drew := (Below.refl _ _).drew
  have HE : Hid (E = setE OS ⟨4, n, []⟩ i ⟨k, m, s⟩) := hE
  have HOS2 : Hid (OS2 = setR OS ⟨4, n, []⟩ i ⟨k, m, s⟩) := hOS2
  have HBX3 : Hid (w3.heap[w.heap.size]? = some (.cells #[.int .i64 k, .int .i64 m, .string (strB s)] 25 (0, 0))) := bx3
  clear hb3 how bx3 hE hOS2
  go_upto_region 7 with fail
  go_cut [32] (fun t wx => t = .bool (decide (E ≠ 0)) ∧ KeptS (fun q => N ≤ q ∧ q < w2.heap.size) w3 wx ∧ HpIn (fun q => N ≤ q ∧ q < w2.heap.size) wx 4096 OS2 N vo2 vc2)
  case first =>
    by_cases h0 : E = 0
    · subst h0
      go_region_with (first
        | (go_at_call 23; refine (cat _ hBd).mono ?_; rintro e w4 ⟨rfl, t0, t1, t2, HB4⟩)
        | (go_at_call 22; refine (cst _ HB4.out).mono ?_; rintro e w5 ⟨rfl, H5⟩))
      all_goals (go_wp2_with fail; go_meet)
      all_goals exact ⟨rfl, H5.out⟩
    · have hEb : (E != 0) = true := by rw [bne_iff_ne]; exact h0
      have hEd : decide (E ≠ 0) = true := decide_eq_true h0
      go_region_with (first
        | (go_at_call 23; refine (cat _ hBd).mono ?_; rintro e w4 ⟨rfl, t0, t1, t2, HB4⟩)
        | (go_at_call 22; refine (cst _ HB4.out).mono ?_; rintro e w5 ⟨rfl, H5⟩))
      all_goals (go_wp2_with fail; go_meet)
      all_goals exact ⟨by rw [hEd], H5.out⟩
  case rest =>
    obtain ⟨rfl, hk5, H5⟩ := hcut
    clear cat cst hBd p0 p1 p2
    have hs5 := hk5.size
    have hB5 : Below w.heap.size w wc := (HB2.out.trans (HB3.out.mono (by omega))).trans (hk5.below (by omega) (fun q hq => by omega))
    have HWAS5 : Hid (objsIn (fun q => w2.heap.size ≤ q ∧ q < w3.heap.size) wc (.slice bw OS.length cw) OS) := HWAS.out.kept hs5 (fun q hq hlt => hk5.block q hlt (fun h => by omega))
    have HBX5 : Hid (wc.heap[w.heap.size]? = some (.cells #[.int .i64 k, .int .i64 m, .string (strB s)] 25 (0, 0))) := (hk5.block w.heap.size (by omega) (fun h => by omega)).trans HBX3.out
    have HB5 : Hid (Below w.heap.size w wc) := hB5
    clear hk5 hB5 HWAS HBX3 HBX2 HB3
    by_cases h0 : E = 0
    · subst h0
      obtain ⟨j, q, hj, rfl, rfl, hq, hR⟩ := setE_zero HE.out.symm
      have hO : OS2 = setOs OS j q ⟨k, m, s⟩ := HOS2.out.trans hR
      have hlen : OS2.length = OS.length := by rw [hO, setOs_len]
      have HG : Hid (∀ y (h : y < OS.length), ∃ h' : y < OS2.length, (OS2[y]'h').1 = (OS[y]).1 ∧ (OS2[y]'h').2 = if y = j then (OS[y]).2.set q ⟨k, m, s⟩ else (OS[y]).2) := fun y h => by
        have := setOs_get OS j q ⟨k, m, s⟩ y h
        rw [← hO] at this
        exact this
      obtain ⟨hj2, -, hg2⟩ := HG.out j hj
      rw [if_pos rfl] at hg2
      have hq2 : q < (OS2[j]).2.length := by rw [hg2, List.length_set]; exact hq
      have hgx : (OS2[j]).2[q] = ⟨k, m, s⟩ := by simp [hg2]
      have HH5 : Hid (HpIn (fun q => N ≤ q ∧ q < w2.heap.size) wc 4096 OS2 N vo2 vc2) := H5
      have c6 := hall_any wc H5
      have hd0 : decide ((0 : Int) ≠ 0) = false := rfl
      clear HE HOS2 hR hO hg2 hcw1 hcw2 H5
      go_wp2_with fail
      refine c6.mono ?_
      clear c6
      rintro e w6 ⟨v6, rfl, ⟨vs6, ho6⟩, hb6⟩
      have hs6 := hb6.size
      have hn6 := ho6.read
      obtain ⟨b6, cp6, rfl, h61, h62, hat6⟩ := hn6.at
      obtain ⟨b7, cp7, e7, h71, h72, hat7⟩ := (HWAS5.out.kept hs6 fun q _ hlt => hb6.block q hlt).at
      simp only [Value.slice.injEq] at e7
      obtain ⟨rfl, -, rfl⟩ := e7
      have HNOW : Hid (∀ y (hy : y < OS.length), ∃ b o u, b6 = some ⟨b, o, none⟩ ∧ b < w6.heap.size ∧ w6.cell? ⟨b, o + y * 2, none⟩ = some (.string (strB (OS[y]).1)) ∧ w6.cell? ⟨b, o + y * 2 + 1, none⟩ = some u ∧ ∃ L : List Vl, (∃ S, valsIn S w6 u L) ∧ L.length = (OS[y]).2.length ∧ ∀ z (h1 : z < L.length) (h2 : z < (OS[y]).2.length), ¬ (y = j ∧ z = q) → L[z] = (OS[y]).2[z]) := fun y hy => by
        obtain ⟨hy2, g1, g2⟩ := HG.out y hy
        obtain ⟨b, o, u, e, -, hlt, r0, r1, r2⟩ := hat6 y hy2
        rw [g1] at r0
        refine ⟨b, o, u, e, hlt, r0, r1, (OS2[y]).2, ⟨_, r2⟩, ?_, ?_⟩
        · rw [g2]; split <;> simp
        · intro z h1 h2 hne
          simp only [g2]
          by_cases hyj : y = j
          · simp only [if_pos hyj]
            rw [List.getElem_set_ne (fun e => hne ⟨hyj, e.symm⟩)]
          · simp only [if_neg hyj]
      have HOLD : Hid (∀ y (hy : y < OS.length), ∃ b o u, bw = some ⟨b, o, none⟩ ∧ b < w6.heap.size ∧ w6.cell? ⟨b, o + y * 2, none⟩ = some (.string (strB (OS[y]).1)) ∧ w6.cell? ⟨b, o + y * 2 + 1, none⟩ = some u ∧ ∃ S, valsIn S w6 u (OS[y]).2) := fun y hy => by
        obtain ⟨b, o, u, e, -, hlt, r0, r1, r2⟩ := hat7 y hy
        exact ⟨b, o, u, e, hlt, r0, r1, _, r2⟩
      have HB6 : Hid (Below wc.heap.size wc w6) := hb6
      clear hat6 hat7 hn6 ho6 HG HWAS5 hb6
      have hsl : (Value.slice b6 OS2.length cp6) = .slice b6 OS.length cp6 := by rw [hlen]
      rw [hsl]
      clear hsl
      have c7 := href_any (j : Int) w6
      go_wp2_with fail
      refine c7.mono ?_
      clear c7
      rintro e w7 ⟨rfl, hb7⟩
      have hs7 := hb7.size
      have hc7 : Below wc.heap.size wc w7 := HB6.out.trans (hb7.mono hs6)
      have c8 := get_ok j hj2 q hq2 w7 (HH5.out.below hc7) (HT.out.below (HB5.out.trans (hc7.mono HB5.out.size)) (Nat.le_refl _))
      rw [hgx] at c8
      have HB67 : Hid (Below w6.heap.size w6 w7) := hb7
      clear hb7 hc7 hgx hq2 hj2
      go_wp2_with fail
      refine c8.mono ?_
      clear c8
      rintro e w8 ⟨rfl, hb8⟩
      have hs8 := hb8.size
      have h68 : Below w6.heap.size w6 w8 := HB67.out.trans (hb8.mono hs7)
      have hc8 : Below wc.heap.size wc w8 := HB6.out.trans (h68.mono hs6)
      obtain ⟨w9, hw9⟩ : ∃ w9, w9 = w8.alloc (.cells #[.int .i64 k, .int .i64 m, .string (strB s)] 25) := ⟨_, rfl⟩
      have h69 : Below w6.heap.size w6 w9 := by rw [hw9]; exact h68.alloc h68.size _
      have hs9 : w9.heap.size = w8.heap.size + 1 := by rw [hw9]; simp
      have bx9 : w9.heap[w8.heap.size]? = some (.cells #[.int .i64 k, .int .i64 m, .string (strB s)] 25 (0, 0)) := by rw [hw9]; exact World.alloc_heap_new _ _
      have hB9 : Below w.heap.size w w9 := HB5.out.trans ((HB6.out.trans (h69.mono hs6)).mono HB5.out.size)
      obtain ⟨p0, p1, p2, -⟩ := cellsH3 (((HB6.out.trans (h69.mono hs6)).block w.heap.size (by omega)).trans HBX5.out)
      obtain ⟨r0, r1, r2, -⟩ := cellsH3 bx9
      have HB9 : Hid (Below w.heap.size w w9) := hB9
      have H69 : Hid (Below w6.heap.size w6 w9) := h69
      have hw9' := hw9.symm
      clear hw9 hb8 h68 hc8 h69 bx9 hB9
      go_wp2_with fail
      clear p0 p1 p2 r0 r1 r2 hw9'
      go_loopw [14] (fun vi wr => ∃ y : Nat, y ≤ OS.length ∧ vi = .int .i64 y ∧ Below w9.heap.size w9 wr) (fun vi _ => OS.length - (intOf vi).toNat)
      case atStart => exact ⟨0, Nat.zero_le _, rfl, Below.refl _ _⟩
      case round =>
        obtain ⟨y, hy, rfl, hby⟩ := hrel
        have hsy := hby.size
        have HY : Hid (Below w9.heap.size w9 wr) := hby
        have h6y : Below w6.heap.size w6 wr := H69.out.trans (hby.mono H69.out.size)
        clear hby
        by_cases hlt : y < OS.length
        · have hi2 : (y : Int) < OS.length := by omega
          obtain ⟨ba, oa, ua, rfl, hla, q0, q1, LA, ⟨SA, hva⟩, hLl, hLe⟩ := HNOW.out y hlt
          obtain ⟨bb, ob, ub, rfl, hlb, s0, s1, SB, hvb⟩ := HOLD.out y hlt
          have hXl := HOK.out OS[y] (List.getElem_mem hlt)
          obtain ⟨X, hX⟩ : ∃ X, X = OS[y] := ⟨_, rfl⟩
          rw [← hX] at q0 s0 hvb hLl hXl
          have hLe2 : ∀ z (h1 : z < LA.length) (h2 : z < X.2.length), ¬ (y = j ∧ z = q) → LA[z] = X.2[z] := by subst hX; exact hLe
          obtain ⟨bu, cu, rfl, z1, z2, hA⟩ := hva.at
          obtain ⟨bv, cv, rfl, z3, z4, hB⟩ := hvb.at
          rw [hLl] at q1 z1
          have t0 := (below_cell h6y hla).trans q0
          have t1 := (below_cell h6y hla).trans q1
          have t2 := (below_cell h6y hlb).trans s0
          have t3 := (below_cell h6y hlb).trans s1
          have Q1 : Hid (w6.cell? ⟨ba, oa + y * 2 + 1, none⟩ = some (.slice bu X.2.length cu)) := q1
          have S1 : Hid (w6.cell? ⟨bb, ob + y * 2 + 1, none⟩ = some (.slice bv X.2.length cv)) := s1
          have HLE : Hid (∀ z (h1 : z < LA.length) (h2 : z < X.2.length), ¬ (y = j ∧ z = q) → LA[z] = X.2[z]) := hLe2
          have HA : Hid (∀ i (hi : i < LA.length), ∃ b o, bu = some ⟨b, o, none⟩ ∧ SA b ∧ b < w6.heap.size ∧ w6.cell? ⟨b, o + i * 3, none⟩ = some (.int .i64 (LA[i]).k) ∧ w6.cell? ⟨b, o + i * 3 + 1, none⟩ = some (.int .i64 (LA[i]).n) ∧ w6.cell? ⟨b, o + i * 3 + 2, none⟩ = some (.string (strB (LA[i]).s))) := hA
          have HBV : Hid (∀ i (hi : i < X.2.length), ∃ b o, bv = some ⟨b, o, none⟩ ∧ SB b ∧ b < w6.heap.size ∧ w6.cell? ⟨b, o + i * 3, none⟩ = some (.int .i64 (X.2[i]).k) ∧ w6.cell? ⟨b, o + i * 3 + 1, none⟩ = some (.int .i64 (X.2[i]).n) ∧ w6.cell? ⟨b, o + i * 3 + 2, none⟩ = some (.string (strB (X.2[i]).s))) := hB
          have HLL : Hid (LA.length = X.2.length) := hLl
          clear q0 q1 s0 s1 hA hB hLe hLe2 hva hvb hX hLl h6y
          go_wp2_with fail
          go_quiet (fail)
          go_wp2
          clear t0 t1 t2 t3
          go_loopw [15] (fun vi wz => ∃ z : Nat, z ≤ X.2.length ∧ vi = .int .i64 z ∧ Below w9.heap.size w9 wz) (fun vi _ => X.2.length - (intOf vi).toNat)
          case atStart => exact ⟨0, Nat.zero_le _, rfl, below_drewH HY.out _⟩
          case round =>
            obtain ⟨z, hz, rfl, hbz⟩ := hrel
            have HZ : Hid (Below w9.heap.size w9 wr) := hbz
            have h6z : Below w6.heap.size w6 wr := H69.out.trans (hbz.mono H69.out.size)
            have t1 := (below_cell h6z hla).trans Q1.out
            have t3 := (below_cell h6z hlb).trans S1.out
            clear hbz
            by_cases hzt : z < X.2.length
            · have hi3 : (z : Int) < X.2.length := by omega
              by_cases hsame : y = j ∧ z = q
              · obtain ⟨rfl, rfl⟩ := hsame
                clear h6z
                go_wp2_with fail
                go_quiet (fail)
                go_wp2
                exact ⟨⟨z + 1, by omega, by go_num, below_drewH HZ.out _⟩, by simp [intOf]; omega⟩
              · obtain ⟨b1, o1, rfl, -, hl1, e0, e1, e2⟩ := HA.out z (by have := HLL.out; omega)
                obtain ⟨b2, o2, rfl, -, hl2, f0, f1, f2⟩ := HBV.out z hzt
                rw [HLE.out z (by have := HLL.out; omega) hzt hsame] at e0 e1 e2
                obtain ⟨x, hx⟩ : ∃ x, x = X.2[z] := ⟨_, rfl⟩
                rw [← hx] at e0 e1 e2 f0 f1 f2
                have d0 := (below_cell h6z hl1).trans e0
                have d1 := (below_cell h6z hl1).trans e1
                have d2 := (below_cell h6z hl1).trans e2
                have d3 := (below_cell h6z hl2).trans f0
                have d4 := (below_cell h6z hl2).trans f1
                have d5 := (below_cell h6z hl2).trans f2
                clear e0 e1 e2 f0 f1 f2 hx h6z
                by_cases hyj : y = j
                · have hzq : ¬ (z : Int) = (q : Int) := fun e => hsame ⟨hyj, by omega⟩
                  have hzq2 : ¬ z = q := fun e => hsame ⟨hyj, e⟩
                  subst hyj
                  clear hsame
                  go_wp2_with fail
                  go_quiet (fail)
                  go_wp2
                  exact ⟨⟨z + 1, by omega, by go_num, below_drewH HZ.out _⟩, by simp [intOf]; omega⟩
                · have hyj1 : ¬ (y : Int) = (j : Int) := fun e => hyj (by omega)
                  clear hsame
                  go_wp2_with fail
                  go_quiet (fail)
                  go_wp2
                  exact ⟨⟨z + 1, by omega, by go_num, below_drewH HZ.out _⟩, by simp [intOf]; omega⟩
            · obtain rfl : z = X.2.length := by omega
              have hi3 : ¬ (X.2.length : Int) < X.2.length := by omega
              clear h6z
              go_wp2
              exact ⟨⟨y + 1, by omega, by go_num, HZ.out⟩, by simp [intOf]; omega⟩
        · obtain rfl : y = OS.length := by omega
          have hi2 : ¬ (OS.length : Int) < OS.length := by omega
          have HBr : Hid (Below w.heap.size w wr) := HB9.out.trans (HY.out.mono HB9.out.size)
          have cl := lives06_any wr (HT.out.below HBr.out (Nat.le_refl _))
          clear h6y
          go_wp2_with fail
          refine cl.mono ?_
          clear cl
          rintro e wl ⟨rfl, hbl⟩
          have HBl : Hid (Below w.heap.size w wl) := HBr.out.trans (hbl.mono HBr.out.size)
          clear hbl
          go_wp2
          go_ret
          exact ⟨rfl, HBl.out⟩
    · have hO : OS2 = OS := by rw [HOS2.out]; unfold setR; rw [← HE.out, if_neg h0]
      rw [hO] at H5
      have hE0 : decide (E ≠ 0) = true := decide_eq_true h0
      have c6 := hall_any wc H5
      clear H5 HE HOS2 hO hcw1 hcw2 hs3
      go_wp2_with fail
      refine c6.mono ?_
      clear c6
      rintro e w6 ⟨v6, rfl, ⟨vs6, ho6⟩, hb6⟩
      have hs6 := hb6.size
      have hn6 := ho6.read
      have cs := same_any06 _ _ OS _ _ w6 hn6 (HWAS5.out.kept hs6 fun q _ hlt => hb6.block q hlt) (by omega) (fun o ho => by have := HOK.out o ho; omega)
      have HB6 : Hid (Below w.heap.size w w6) := HB5.out.trans (hb6.mono HB5.out.size)
      clear hb6 ho6 hn6
      go_wp2_with fail
      refine cs.mono ?_
      clear cs
      rintro e w7 ⟨rfl, hb7⟩
      have HB7 : Hid (Below w.heap.size w w7) := HB6.out.trans (hb7.mono HB6.out.size)
      have cl := lives06_any w7 (HT.out.below HB7.out (Nat.le_refl _))
      clear hb7
      go_wp2_with fail
      refine cl.mono ?_
      clear cl
      rintro e w8 ⟨rfl, hb8⟩
      have HB8 : Hid (Below w.heap.size w w8) := HB7.out.trans (hb8.mono HB7.out.size)
      clear hb8
      go_wp2
      go_ret
      exact ⟨rfl, HB8.out⟩
end Go.Proofs.YtljofkfnmlhicaaDoor
