/- snap: the document's own bytes of a state. -/
import Derived.Test.YtbdgniiafdjmiaaGreatDoorPMay
import Derived.Test.YtbdgniiafdjmiaaGreatDoorWRefPut
import Derived.BigQuiet
namespace Go.Proofs.YtbdgniiafdjmiaaGreatDoor
open Go.RowKit Go.Shelf

theorem pstr_cat (a b : List UInt8) : strB a ++ strB b = strB (a ++ b) := by apply ByteArray.ext; simp [strB]
theorem pstr_add (W : World) (a b : List UInt8) (h : a.length + b.length ≤ 9223372036854775807) : (Op.stringOp .add (strB a) (strB b)).run Tryz.prog W = .ok (.string (strB (a ++ b))) W := by
  rw [run_string_add_sum W _ _ (by rw [strB_size, strB_size]; exact h), pstr_cat]
theorem citoa_len (n : Int) (h0 : -9223372036854775808 ≤ n) (h1 : n ≤ 9223372036854775807) : (Lib.itoa n).length ≤ 1000 := by
  have := wrB_len 2 n [] h0 h1
  rw [show wrB 2 n [] = Lib.itoa n from if_pos rfl] at this
  simp only [List.length_nil] at this
  omega
theorem padd {X Y Z : List UInt8} (hZ : Z = X ++ Y) (h : X.length + Y.length ≤ 140737488355328) : ∀ W, (Op.stringOp .add (strB X) (strB Y)).run Tryz.prog W = .ok (.string (strB Z)) W := fun W => by rw [hZ]; exact pstr_add W X Y (by omega)
theorem pfInt (n : Int) (h : I64 n) (w : World) : Calls Tryz.prog 46 #[.int .i64 n] w fun e w' => e = .returned (.string (strB (numB n))) ∧ Below w.heap.size w w' := refInt_any n h.1 h.2 w
theorem pfText (s : List UInt8) (h : s.length ≤ 1048576) (w : World) : Calls Tryz.prog 47 #[.string (strB s)] w fun e w' => e = .returned (.string (strB (txB s))) ∧ Below w.heap.size w w' := refText_any (strB s) w (by rw [strB_size]; omega)

set_option maxRecDepth 100000 in
set_option maxHeartbeats 8000000 in
theorem pfVal_any (x : Vl) (w : World) (hx : smallV x ∧ I64 x.k) :
    Calls Tryz.prog 82 #[vlV x] w fun e w' => e = .returned (.string (strB (vlB x))) ∧ Below w.heap.size w w' := by
  obtain ⟨w1, hw1, hb1, HZ1, h1⟩ := box1 w (.cells #[.int .i64 x.k, .int .i64 x.n, .string (strB x.s)] 54)
  have HW1 : Hid (w1 = w.alloc (.cells #[.int .i64 x.k, .int .i64 x.n, .string (strB x.s)] 54)) := hw1
  have HB1 : Hid (Below w.heap.size w w1) := hb1
  have HF : Hid (∀ W, Below w1.heap.size w1 W → W.cell? ⟨w.heap.size, 0, none⟩ = some (.int .i64 x.k) ∧ W.cell? ⟨w.heap.size, 1, none⟩ = some (.int .i64 x.n) ∧ W.cell? ⟨w.heap.size, 2, none⟩ = some (.string (strB x.s))) := fun W hW => cells3p ((hW.block _ (heap_lt h1)).trans h1)
  have c1 := pfInt x.k hx.2 w1
  have HBb : Hid ((numB x.k).length ≤ 10 ∧ (numB x.n).length ≤ 10 ∧ (txB x.s).length ≤ 1048600) := ⟨numB_ten hx.2, numB_ten hx.1.1, by have := txB_len x.s hx.1.2; have := hx.1.2; omega⟩
  obtain ⟨A, hA⟩ : ∃ A, A = numB x.k := ⟨_, rfl⟩
  rw [← hA] at c1 HBb
  have HA : Hid (A = numB x.k) := hA
  obtain ⟨R, hR⟩ : ∃ R, R = vlB x := ⟨_, rfl⟩
  rw [← hR]
  have HR : Hid (R = vlB x) := hR
  have CI : Hid (∀ W, Calls Tryz.prog 46 #[.int .i64 x.n] W fun e w' => e = .returned (.string (strB (numB x.n))) ∧ Below W.heap.size W w') := fun W => pfInt x.n hx.1.1 W
  have CT : Hid (∀ W, Calls Tryz.prog 47 #[.string (strB x.s)] W fun e w' => e = .returned (.string (strB (txB x.s))) ∧ Below W.heap.size W w') := fun W => pfText x.s hx.1.2 W
  obtain ⟨f0, f1, f2⟩ := HF.out w1 (Below.refl _ _)
  clear hw1 hb1 HZ1 h1 hA hR hx
  obtain ⟨k, hk⟩ : ∃ k, k = x.k := ⟨_, rfl⟩
  have HK : Hid (k = x.k) := hk
  rw [← hk] at c1 HF f0 HA HW1
  have hkV : vlV x = .agg #[.int .i64 k, .int .i64 x.n, .string (strB x.s)] := by rw [hk]
  rw [hkV]
  clear hk hkV
  by_cases h1 : k = 1
  · subst h1
    have c2 := CI.out
    obtain ⟨B, hB⟩ : ∃ B, B = numB x.n := ⟨_, rfl⟩
    rw [← hB] at c2
    have HZ : Hid (R = A ++ B) := by show _ = _; rw [HR.out, HA.out, hB]; unfold vlB; rw [if_pos (.inl HK.out.symm), ← HK.out]
    have sa := padd HZ.out (by have := HBb.out; rw [hB]; omega)
    clear hB
    go_enter Tryz.func82, Tryz.ntmps82
    go_wp2_with fail
    rw [← HW1.out]
    refine c1.mono ?_
    clear c1 f0 f1 f2
    rintro e w2 ⟨rfl, hb2⟩
    have HB2 : Hid (Below w.heap.size w w2) := HB1.out.trans (hb2.mono HB1.out.size)
    obtain ⟨f0, f1, f2⟩ := HF.out w2 hb2
    replace c2 := c2 w2
    clear hb2
    go_wp2_with fail
    refine c2.mono ?_
    clear c2 f0 f1 f2
    rintro e w3 ⟨rfl, hb3⟩
    have HB3 : Hid (Below w.heap.size w w3) := HB2.out.trans (hb3.mono HB2.out.size)
    clear hb3
    go_wp2
    go_ret
    exact ⟨rfl, HB3.out⟩
  · by_cases h2 : k = 2
    · subst h2
      have c2 := CI.out
      obtain ⟨B, hB⟩ : ∃ B, B = numB x.n := ⟨_, rfl⟩
      rw [← hB] at c2
      have HZ : Hid (R = A ++ B) := by show _ = _; rw [HR.out, HA.out, hB]; unfold vlB; rw [if_pos (.inr (.inl HK.out.symm)), ← HK.out]
      have sa := padd HZ.out (by have := HBb.out; rw [hB]; omega)
      clear hB
      go_enter Tryz.func82, Tryz.ntmps82
      go_wp2_with fail
      rw [← HW1.out]
      refine c1.mono ?_
      clear c1 f0 f1 f2
      rintro e w2 ⟨rfl, hb2⟩
      have HB2 : Hid (Below w.heap.size w w2) := HB1.out.trans (hb2.mono HB1.out.size)
      obtain ⟨f0, f1, f2⟩ := HF.out w2 hb2
      replace c2 := c2 w2
      clear hb2
      go_wp2_with fail
      refine c2.mono ?_
      clear c2 f0 f1 f2
      rintro e w3 ⟨rfl, hb3⟩
      have HB3 : Hid (Below w.heap.size w w3) := HB2.out.trans (hb3.mono HB2.out.size)
      clear hb3
      go_wp2
      go_ret
      exact ⟨rfl, HB3.out⟩
    · by_cases h4 : k = 4
      · subst h4
        have c2 := CI.out
        obtain ⟨B, hB⟩ : ∃ B, B = numB x.n := ⟨_, rfl⟩
        rw [← hB] at c2
        have HZ : Hid (R = A ++ B) := by show _ = _; rw [HR.out, HA.out, hB]; unfold vlB; rw [if_pos (.inr (.inr HK.out.symm)), ← HK.out]
        have sa := padd HZ.out (by have := HBb.out; rw [hB]; omega)
        clear hB
        go_enter Tryz.func82, Tryz.ntmps82
        go_wp2_with fail
        rw [← HW1.out]
        refine c1.mono ?_
        clear c1 f0 f1 f2
        rintro e w2 ⟨rfl, hb2⟩
        have HB2 : Hid (Below w.heap.size w w2) := HB1.out.trans (hb2.mono HB1.out.size)
        obtain ⟨f0, f1, f2⟩ := HF.out w2 hb2
        replace c2 := c2 w2
        clear hb2
        go_wp2_with fail
        refine c2.mono ?_
        clear c2 f0 f1 f2
        rintro e w3 ⟨rfl, hb3⟩
        have HB3 : Hid (Below w.heap.size w w3) := HB2.out.trans (hb3.mono HB2.out.size)
        clear hb3
        go_wp2
        go_ret
        exact ⟨rfl, HB3.out⟩
      · by_cases h3 : k = 3
        · subst h3
          have c2 := CT.out
          obtain ⟨B, hB⟩ : ∃ B, B = txB x.s := ⟨_, rfl⟩
          rw [← hB] at c2
          have HZ : Hid (R = A ++ B) := by show _ = _; rw [HR.out, HA.out, hB]; unfold vlB; rw [if_neg (by have := HK.out; omega), if_pos HK.out.symm, ← HK.out]
          have sa := padd HZ.out (by have := HBb.out; rw [hB]; omega)
          clear hB
          go_enter Tryz.func82, Tryz.ntmps82
          go_wp2_with fail
          rw [← HW1.out]
          refine c1.mono ?_
          clear c1 f0 f1 f2
          rintro e w2 ⟨rfl, hb2⟩
          have HB2 : Hid (Below w.heap.size w w2) := HB1.out.trans (hb2.mono HB1.out.size)
          obtain ⟨f0, f1, f2⟩ := HF.out w2 hb2
          replace c2 := c2 w2
          clear hb2
          go_wp2_with fail
          refine c2.mono ?_
          clear c2 f0 f1 f2
          rintro e w3 ⟨rfl, hb3⟩
          have HB3 : Hid (Below w.heap.size w w3) := HB2.out.trans (hb3.mono HB2.out.size)
          clear hb3
          go_wp2
          go_ret
          exact ⟨rfl, HB3.out⟩
        · have d1 : (k == 1) = false := by rw [beq_eq_false_iff_ne]; exact h1
          have d2 : (k == 2) = false := by rw [beq_eq_false_iff_ne]; exact h2
          have d3 : (k == 3) = false := by rw [beq_eq_false_iff_ne]; exact h3
          have d4 : (k == 4) = false := by rw [beq_eq_false_iff_ne]; exact h4
          have HE : Hid (R = A) := by
            show _ = _
            rw [HR.out, HA.out]
            unfold vlB
            rw [if_neg (by have := HK.out; omega), if_neg (by have := HK.out; omega), List.append_nil, HK.out]
          go_enter Tryz.func82, Tryz.ntmps82
          go_wp2_with fail
          rw [← HW1.out]
          refine c1.mono ?_
          clear c1 f0 f1 f2
          rintro e w2 ⟨rfl, hb2⟩
          have HB2 : Hid (Below w.heap.size w w2) := HB1.out.trans (hb2.mono HB1.out.size)
          obtain ⟨f0, f1, f2⟩ := HF.out w2 hb2
          clear hb2
          go_wp2
          go_ret
          rw [HE.out]
          exact ⟨rfl, HB2.out⟩

set_option maxRecDepth 100000 in
set_option maxHeartbeats 8000000 in
theorem pfAll_any (S : Nat → Prop) (l : List Vl) (v : Value) (w : World) (hin : valsR S w v l) (hl : ∀ x ∈ l, smallV x ∧ I64 x.k) (hb : (allB vlB l).length ≤ 140737488355328) :
    Calls Tryz.prog 48 #[v] w fun e w' => e = .returned (.string (strB (allB vlB l))) ∧ Below w.heap.size w w' := by
  obtain ⟨base, cap, rfl, hc1, hc2, hat⟩ := rowIn.at hin
  have HAT : Hid (∀ i (hi : i < l.length), ∃ b o, base = some ⟨b, o, none⟩ ∧ S b ∧ b < w.heap.size ∧ valE w b (o + i * 3) l[i]) := hat
  have hln : l.length ≤ 9223372036854775807 := by have : maxLen ≤ 9223372036854775807 := by decide
                                                  omega
  have HL : Hid (∀ x ∈ l, smallV x ∧ I64 x.k) := hl
  have c1 := pfInt (l.length : Int) ⟨by omega, by omega⟩ w
  obtain ⟨N, hN⟩ : ∃ N, N = numB (l.length : Int) := ⟨_, rfl⟩
  rw [← hN] at c1
  have HBb : Hid (N.length + (l.map vlB).flatten.length ≤ 140737488355328) := by
    have h1 := hb; unfold allB at h1; rw [List.length_append, ← hN] at h1; exact h1
  have HRES : Hid (allB vlB l = N ++ (l.map vlB).flatten) := by rw [hN]; exact rfl
  obtain ⟨R, hR⟩ : ∃ R, R = allB vlB l := ⟨_, rfl⟩
  rw [← hR] at HRES ⊢
  clear hat hin hl hb hN hR
  go_enter Tryz.func48, Tryz.ntmps48
  go_wp2_with fail
  refine c1.mono ?_
  clear c1
  rintro e w1 ⟨rfl, hb1⟩
  have HB1 : Hid (Below w.heap.size w w1) := hb1
  clear hb1
  go_wp2
  go_loopw [3, 4] (fun s vi wr => ∃ (i : Nat) (X : List UInt8), i ≤ l.length ∧ vi = .int .i64 (i : Int) ∧ s = .string (strB X) ∧ Hid (X = N ++ ((l.take i).map vlB).flatten) ∧ Below w.heap.size w wr) (fun _ vi _ => l.length - (intOf vi).toNat)
  case atStart => exact ⟨0, N, Nat.zero_le _, rfl, rfl, by show _ = _; simp, HB1.out⟩
  case round =>
    obtain ⟨i, X, hi, rfl, rfl, HX, hbr⟩ := hrel
    have HB : Hid (Below w.heap.size w wr) := hbr
    clear hbr
    by_cases hlt : i < l.length
    · have hi2 : (i : Int) < l.length := by omega
      obtain ⟨b, o, rfl, -, hbl, e0, e1, e2⟩ := HAT.out i hlt
      obtain ⟨x, hx⟩ : ∃ x, x = l[i] := ⟨_, rfl⟩
      rw [← hx] at e0 e1 e2
      replace e0 := (below_cell HB.out hbl).trans e0
      replace e1 := (below_cell HB.out hbl).trans e1
      replace e2 := (below_cell HB.out hbl).trans e2
      have ct := pfVal_any x wr (by rw [hx]; exact HL.out _ (List.getElem_mem hlt))
      obtain ⟨Y, hY⟩ : ∃ Y, Y = vlB x := ⟨_, rfl⟩
      rw [← hY] at ct
      obtain ⟨Z, hZ⟩ : ∃ Z, Z = X ++ Y := ⟨_, rfl⟩
      have hXY : X.length + Y.length ≤ 140737488355328 := by
        have h1 := flat_le vlB l (i + 1)
        rw [flat_succ vlB l hlt, List.length_append, ← hx, ← hY] at h1
        have h2 := HBb.out
        rw [HX.out, List.length_append]
        omega
      have sa := padd hZ hXY
      have HZ : Hid (Z = N ++ ((l.take (i + 1)).map vlB).flatten) := by
        show _ = _
        rw [hZ, HX.out, flat_succ vlB l hlt, hY, hx, List.append_assoc]
      clear hx hY hZ hXY
      go_wp2_with fail
      refine ct.mono ?_
      clear ct e0 e1 e2
      rintro e w2 ⟨rfl, hb2⟩
      have HB2 : Hid (Below w.heap.size w w2) := HB.out.trans (hb2.mono HB.out.size)
      clear hb2
      go_wp2
      exact ⟨⟨i + 1, Z, by omega, by go_num, rfl, HZ, HB2.out⟩, by simp [intOf]; omega⟩
    · obtain rfl : i = l.length := by omega
      have hi2 : ¬ (l.length : Int) < l.length := by omega
      have HE : Hid (X = R) := by
        show _ = _
        rw [HX.out, HRES.out, List.take_length]
      go_wp2
      go_ret
      rw [HE.out]
      exact ⟨rfl, HB.out⟩

theorem clsIv {n : Int} {W0 : World} (h : I64 n) {N : List UInt8} (hN : N = numB n) : ∀ W, Below W0.heap.size W0 W → Calls Tryz.prog 46 #[.int .i64 n] W fun e w' => e = .returned (.string (strB N)) ∧ Below W0.heap.size W0 w' := fun W hW => by
  rw [hN]; exact (pfInt n h W).mono fun e w' ⟨he, hb⟩ => ⟨he, hW.trans (hb.mono hW.size)⟩
theorem clsTv {x : List UInt8} {W0 : World} (h : x.length ≤ 1048576) {N : List UInt8} (hN : N = txB x) : ∀ W, Below W0.heap.size W0 W → Calls Tryz.prog 47 #[.string (strB x)] W fun e w' => e = .returned (.string (strB N)) ∧ Below W0.heap.size W0 w' := fun W hW => by
  rw [hN]; exact (pfText x h W).mono fun e w' ⟨he, hb⟩ => ⟨he, hW.trans (hb.mono hW.size)⟩
theorem clsAv {S : Nat → Prop} {l : List Vl} {v : Value} {W0 : World} (hin : valsR S W0 v l) (hl : ∀ x ∈ l, smallV x ∧ I64 x.k) (hb : (allB vlB l).length ≤ 140737488355328) {N : List UInt8} (hN : N = allB vlB l) : ∀ W, Below W0.heap.size W0 W → Calls Tryz.prog 48 #[v] W fun e w' => e = .returned (.string (strB N)) ∧ Below W0.heap.size W0 w' := fun W hW => by
  rw [hN]; exact (pfAll_any S l v W (rowIn.kept hin (valE_keeps S) hW.size fun q _ hq => hW.block q hq) hl hb).mono fun e w' ⟨he, hb⟩ => ⟨he, hW.trans (hb.mono hW.size)⟩

set_option maxRecDepth 100000 in
set_option maxHeartbeats 8000000 in
theorem pfPut_any (S : Nat → Prop) (s : Sn) (bc bh : Option Addr) (nc cc nh ch : Nat) (w : World) (hin : SnIn S w s (.slice bc nc cc) (.slice bh nh ch)) (hsm : SmallS s) (hb : (snB s).length ≤ 140737488355328) :
    Calls Tryz.prog 27 #[snV s (.slice bc nc cc) (.slice bh nh ch)] w fun e w' => e = .returned (.string (strB (snB s))) ∧ Below w.heap.size w w' := by
  obtain ⟨w1, hw1, hb1, HZ1, h1⟩ := box1 w (.cells #[.int .i64 s.pos, .int .i64 s.st, .int .i64 s.ft, .slice bc nc cc, .slice bh nh ch, .string (strB s.out), .int .i64 s.rd] 27)
  have HW1 : Hid (w1 = w.alloc (.cells #[.int .i64 s.pos, .int .i64 s.st, .int .i64 s.ft, .slice bc nc cc, .slice bh nh ch, .string (strB s.out), .int .i64 s.rd] 27)) := hw1
  have HB1 : Hid (Below w.heap.size w w1) := hb1
  have HLT : Hid (w.heap.size < w1.heap.size) := heap_lt h1
  have HF : Hid (∀ W, Below w1.heap.size w1 W → W.cell? ⟨w.heap.size, 0, none⟩ = some (.int .i64 s.pos) ∧ W.cell? ⟨w.heap.size, 1, none⟩ = some (.int .i64 s.st) ∧ W.cell? ⟨w.heap.size, 2, none⟩ = some (.int .i64 s.ft) ∧ W.cell? ⟨w.heap.size, 3, none⟩ = some (.slice bc nc cc) ∧ W.cell? ⟨w.heap.size, 4, none⟩ = some (.slice bh nh ch) ∧ W.cell? ⟨w.heap.size, 5, none⟩ = some (.string (strB s.out)) ∧ W.cell? ⟨w.heap.size, 6, none⟩ = some (.int .i64 s.rd)) := fun W hW => cells7 ((hW.block w.heap.size HLT.out).trans h1)
  obtain ⟨hnc, HCA⟩ : nc = s.calls.length ∧ Hid (∀ i (hi : i < s.calls.length), ∃ b o, bc = some ⟨b, o, none⟩ ∧ S b ∧ b < w.heap.size ∧ calE S w b (o + i * 5) s.calls[i]) := by obtain ⟨b, c, e, _, _, h⟩ := hin.calls.at; cases e; exact ⟨rfl, h⟩
  obtain ⟨hnh, HOB⟩ : nh = s.heap.length ∧ Hid (∀ i (hi : i < s.heap.length), ∃ b o, bh = some ⟨b, o, none⟩ ∧ S b ∧ b < w.heap.size ∧ objE S w b (o + i * 2) s.heap[i]) := by obtain ⟨b, c, e, _, _, h⟩ := hin.heap.at; cases e; exact ⟨rfl, h⟩
  have HNC : Hid (nc = s.calls.length) := hnc
  have HNH : Hid (nh = s.heap.length) := hnh
  have HSM : Hid (SmallS s) := hsm
  have hci : (nc : Int) ≤ 1048576 := by have := hsm.calls.2; omega
  have hhi : (nh : Int) ≤ 1048576 := by have := hsm.heap.2; omega
  obtain ⟨N0, hN0⟩ : ∃ N, N = numB s.pos := ⟨_, rfl⟩
  obtain ⟨N1, hN1⟩ : ∃ N, N = numB s.st := ⟨_, rfl⟩
  obtain ⟨N2, hN2⟩ : ∃ N, N = numB s.ft := ⟨_, rfl⟩
  obtain ⟨N3, hN3⟩ : ∃ N, N = numB s.rd := ⟨_, rfl⟩
  obtain ⟨N4, hN4⟩ : ∃ N, N = txB s.out := ⟨_, rfl⟩
  obtain ⟨N5, hN5⟩ : ∃ N, N = numB (nc : Int) := ⟨_, rfl⟩
  obtain ⟨N6, hN6⟩ : ∃ N, N = numB (nh : Int) := ⟨_, rfl⟩
  have HRES : Hid (snB s = (((((((N0 ++ N1) ++ N2) ++ N3) ++ N4) ++ N5) ++ (s.calls.map calB).flatten) ++ N6) ++ (s.heap.map objB).flatten) := by
    show _ = _
    rw [hN0, hN1, hN2, hN3, hN4, hN5, hN6, hnc, hnh]
    simp only [snB, allB, List.append_assoc]
  have HBb : Hid (N0.length + N1.length + N2.length + N3.length + N4.length + N5.length + (s.calls.map calB).flatten.length + N6.length + (s.heap.map objB).flatten.length ≤ 140737488355328) := by
    have h2 := hb
    rw [HRES.out] at h2
    simp only [List.length_append] at h2
    exact h2
  obtain ⟨R, hR⟩ : ∃ R, R = snB s := ⟨_, rfl⟩
  rw [← hR] at HRES ⊢
  have C0 : Hid (∀ W, Below w1.heap.size w1 W → Calls Tryz.prog 46 #[.int .i64 s.pos] W fun e w' => e = .returned (.string (strB N0)) ∧ Below w1.heap.size w1 w') := clsIv hsm.nums.1 hN0
  have C1 : Hid (∀ W, Below w1.heap.size w1 W → Calls Tryz.prog 46 #[.int .i64 s.st] W fun e w' => e = .returned (.string (strB N1)) ∧ Below w1.heap.size w1 w') := clsIv hsm.nums.2.1 hN1
  have C2 : Hid (∀ W, Below w1.heap.size w1 W → Calls Tryz.prog 46 #[.int .i64 s.ft] W fun e w' => e = .returned (.string (strB N2)) ∧ Below w1.heap.size w1 w') := clsIv hsm.nums.2.2.1 hN2
  have C3 : Hid (∀ W, Below w1.heap.size w1 W → Calls Tryz.prog 46 #[.int .i64 s.rd] W fun e w' => e = .returned (.string (strB N3)) ∧ Below w1.heap.size w1 w') := clsIv hsm.nums.2.2.2 hN3
  have C4 : Hid (∀ W, Below w1.heap.size w1 W → Calls Tryz.prog 47 #[.string (strB s.out)] W fun e w' => e = .returned (.string (strB N4)) ∧ Below w1.heap.size w1 w') := clsTv hsm.out hN4
  have C5 : Hid (∀ W, Below w1.heap.size w1 W → Calls Tryz.prog 46 #[.int .i64 (nc : Int)] W fun e w' => e = .returned (.string (strB N5)) ∧ Below w1.heap.size w1 w') := clsIv ⟨by omega, by omega⟩ hN5
  have C6 : Hid (∀ W, Calls Tryz.prog 46 #[.int .i64 (nh : Int)] W fun e w' => e = .returned (.string (strB N6)) ∧ Below W.heap.size W w') := fun W => by rw [hN6]; exact pfInt _ ⟨by omega, by omega⟩ W
  obtain ⟨A1, hA1⟩ : ∃ A, A = N0 ++ N1 := ⟨_, rfl⟩
  obtain ⟨A2, hA2⟩ : ∃ A, A = A1 ++ N2 := ⟨_, rfl⟩
  obtain ⟨A3, hA3⟩ : ∃ A, A = A2 ++ N3 := ⟨_, rfl⟩
  obtain ⟨A4, hA4⟩ : ∃ A, A = A3 ++ N4 := ⟨_, rfl⟩
  obtain ⟨A5, hA5⟩ : ∃ A, A = A4 ++ N5 := ⟨_, rfl⟩
  have HA5 : Hid (A5 = ((((N0 ++ N1) ++ N2) ++ N3) ++ N4) ++ N5) := by show _ = _; rw [hA5, hA4, hA3, hA2, hA1]
  have sa1 := padd hA1 (by have := HBb.out; omega)
  have sa2 := padd hA2 (by have := HBb.out; rw [hA1, List.length_append]; omega)
  have sa3 := padd hA3 (by have := HBb.out; rw [hA2, hA1]; simp only [List.length_append]; omega)
  have sa4 := padd hA4 (by have := HBb.out; rw [hA3, hA2, hA1]; simp only [List.length_append]; omega)
  have sa5 := padd hA5 (by have := HBb.out; rw [hA4, hA3, hA2, hA1]; simp only [List.length_append]; omega)
  obtain ⟨f0, f1, f2, f3, f4, f5, f6⟩ := HF.out w1 (Below.refl _ _)
  have x0 := cls_cell (n := w1.heap.size) f0 HLT.out
  have x1 := cls_cell (n := w1.heap.size) f1 HLT.out
  have x2 := cls_cell (n := w1.heap.size) f2 HLT.out
  have x3 := cls_cell (n := w1.heap.size) f3 HLT.out
  have x5 := cls_cell (n := w1.heap.size) f5 HLT.out
  have x6 := cls_cell (n := w1.heap.size) f6 HLT.out
  clear hw1 hb1 h1 hin hsm hb hnc hnh hN0 hN1 hN2 hN3 hN4 hN5 hN6 hR hA1 hA2 hA3 hA4 hA5 HZ1 f0 f1 f2 f3 f4 f5 f6
  go_enter Tryz.func27, Tryz.ntmps27
  go_upto_region 1 with fail
  rw [← HW1.out]
  refine wp_region_cls (n := w1.heap.size) (w0 := w1) (Below.refl _ _) (by kernel_rfl) (by kernel_rfl) ?_
  iterate 2 (go_big_quiet_step (fail))
  go_big_quiet_step (exact cls_calls C0.out _)
  iterate 2 (go_big_quiet_step (fail))
  go_big_quiet_step (exact cls_calls C1.out _)
  iterate 3 (go_big_quiet_step (fail))
  go_big_quiet_step (exact cls_calls C2.out _)
  iterate 3 (go_big_quiet_step (fail))
  go_big_quiet_step (exact cls_calls C3.out _)
  iterate 3 (go_big_quiet_step (fail))
  go_big_quiet_step (exact cls_calls C4.out _)
  iterate 4 (go_big_quiet_step (fail))
  go_big_quiet_step (exact cls_calls C5.out _)
  iterate 2 (go_big_quiet_step (fail))
  refine wpQuiet_nil ?_
  rintro _ ⟨cx, rfl⟩
  obtain ⟨w2, hb2⟩ := cx
  dsimp only
  have HB2 : Hid (Below w1.heap.size w1 w2) := hb2
  clear hb2 x0 x1 x2 x3 x5 x6 sa1 sa2 sa3 sa4 sa5
  go_wp2
  go_loopw [3, 4] (fun v vi wr => ∃ (i : Nat) (X : List UInt8), i ≤ nc ∧ vi = .int .i64 (i : Int) ∧ v = .string (strB X) ∧ Hid (X = A5 ++ ((s.calls.take i).map calB).flatten) ∧ Below w1.heap.size w1 wr) (fun _ vi _ => nc - (intOf vi).toNat)
  case atStart => exact ⟨0, A5, Nat.zero_le _, rfl, rfl, by show _ = _; simp, HB2.out⟩
  case round =>
    obtain ⟨i, X, hi, rfl, rfl, HX, hbr⟩ := hrel
    have HB : Hid (Below w1.heap.size w1 wr) := hbr
    have HBw : Hid (Below w.heap.size w wr) := HB1.out.trans (hbr.mono HB1.out.size)
    obtain ⟨f0, f1, f2, f3, f4, f5, f6⟩ := HF.out wr hbr
    clear hbr
    by_cases hlt : i < nc
    · have hi2 : (i : Int) < nc := by omega
      have hil : i < s.calls.length := by have := HNC.out; omega
      obtain ⟨b, o, rfl, -, hbl, hc⟩ := HCA.out i hil
      obtain ⟨e0, e1, e2, ⟨u3, e3, hu3⟩, u4, e4, hu4⟩ := hc
      obtain ⟨p3, q3, rfl, -⟩ := hu3.at
      obtain ⟨p4, q4, rfl, -⟩ := hu4.at
      obtain ⟨x, hx⟩ : ∃ x, x = s.calls[i] := ⟨_, rfl⟩
      simp only [← hx] at e0 e1 e2 e3 e4 hu3 hu4
      have hxm : x ∈ s.calls := hx ▸ List.getElem_mem hil
      have hxs := HSM.out.calls.1 x hxm
      obtain ⟨m3, hm3⟩ : ∃ n, n = x.slots.length := ⟨_, rfl⟩
      obtain ⟨m4, hm4⟩ : ∃ n, n = x.stack.length := ⟨_, rfl⟩
      rw [← hm3] at e3 hu3
      rw [← hm4] at e4 hu4
      have hcc : ∀ q, wr.cell? ⟨b, q, none⟩ = w.cell? ⟨b, q, none⟩ := fun q => below_cell HBw.out hbl
      rw [← hcc] at e0 e1 e2 e3 e4
      obtain ⟨Y0, hY0⟩ : ∃ Y, Y = numB x.unit := ⟨_, rfl⟩
      obtain ⟨Y1, hY1⟩ : ∃ Y, Y = numB x.at0 := ⟨_, rfl⟩
      obtain ⟨Y2, hY2⟩ : ∃ Y, Y = numB x.mark := ⟨_, rfl⟩
      obtain ⟨Y3, hY3⟩ : ∃ Y, Y = allB vlB x.slots := ⟨_, rfl⟩
      obtain ⟨Y4, hY4⟩ : ∃ Y, Y = allB vlB x.stack := ⟨_, rfl⟩
      have hsz : X.length + Y0.length + Y1.length + Y2.length + Y3.length + Y4.length ≤ 140737488355328 := by
        have h1 := flat_le calB s.calls (i + 1)
        rw [flat_succ calB s.calls hil, List.length_append, ← hx] at h1
        have h3 : (calB x).length = Y0.length + Y1.length + Y2.length + Y3.length + Y4.length := by rw [hY0, hY1, hY2, hY3, hY4]; simp only [calB, List.length_append]; omega
        have h2 := HBb.out
        rw [HX.out, HA5.out]
        simp only [List.length_append]
        omega
      obtain ⟨Z0, hZ0⟩ : ∃ Z, Z = X ++ Y0 := ⟨_, rfl⟩
      obtain ⟨Z1, hZ1⟩ : ∃ Z, Z = Z0 ++ Y1 := ⟨_, rfl⟩
      obtain ⟨Z2, hZ2⟩ : ∃ Z, Z = Z1 ++ Y2 := ⟨_, rfl⟩
      obtain ⟨Z3, hZ3⟩ : ∃ Z, Z = Z2 ++ Y3 := ⟨_, rfl⟩
      obtain ⟨Z4, hZ4⟩ : ∃ Z, Z = Z3 ++ Y4 := ⟨_, rfl⟩
      have sa0 := padd hZ0 (by omega)
      have sa1 := padd hZ1 (by rw [hZ0, List.length_append]; omega)
      have sa2 := padd hZ2 (by rw [hZ1, hZ0]; simp only [List.length_append]; omega)
      have sa3 := padd hZ3 (by rw [hZ2, hZ1, hZ0]; simp only [List.length_append]; omega)
      have sa4 := padd hZ4 (by rw [hZ3, hZ2, hZ1, hZ0]; simp only [List.length_append]; omega)
      have HZ4 : Hid (Z4 = A5 ++ ((s.calls.take (i + 1)).map calB).flatten) := by
        show _ = _
        rw [hZ4, hZ3, hZ2, hZ1, hZ0, HX.out, flat_succ calB s.calls hil, ← hx, hY0, hY1, hY2, hY3, hY4]
        simp only [calB, List.append_assoc]
      obtain ⟨w3, hw3, hb3, HZ3, h3⟩ := box1 wr (.cells #[.int .i64 x.unit, .int .i64 x.at0, .int .i64 x.mark, .slice p3 m3 q3, .slice p4 m4 q4] 49)
      have HW3 : Hid (w3 = wr.alloc (.cells #[.int .i64 x.unit, .int .i64 x.at0, .int .i64 x.mark, .slice p3 m3 q3, .slice p4 m4 q4] 49)) := hw3
      have H3 : Hid (Below w1.heap.size w1 w3) := HB.out.trans (hb3.mono HB.out.size)
      have HBw3 : Below w.heap.size w w3 := HBw.out.trans (hb3.mono HBw.out.size)
      have K0 : Hid (∀ W, Below w3.heap.size w3 W → Calls Tryz.prog 46 #[.int .i64 x.unit] W fun e w' => e = .returned (.string (strB Y0)) ∧ Below w3.heap.size w3 w') := clsIv hxs.1.1 hY0
      have K1 : Hid (∀ W, Below w3.heap.size w3 W → Calls Tryz.prog 46 #[.int .i64 x.at0] W fun e w' => e = .returned (.string (strB Y1)) ∧ Below w3.heap.size w3 w') := clsIv hxs.1.2.1 hY1
      have K2 : Hid (∀ W, Below w3.heap.size w3 W → Calls Tryz.prog 46 #[.int .i64 x.mark] W fun e w' => e = .returned (.string (strB Y2)) ∧ Below w3.heap.size w3 w') := clsIv hxs.1.2.2 hY2
      have K3 : Hid (∀ W, Below w3.heap.size w3 W → Calls Tryz.prog 48 #[.slice p3 m3 q3] W fun e w' => e = .returned (.string (strB Y3)) ∧ Below w3.heap.size w3 w') := clsAv (rowIn.kept hu3 (valE_keeps S) HBw3.size fun q _ hq => HBw3.block q hq) hxs.2.1.1 (by rw [← hY3]; omega) hY3
      have K4 : Hid (∀ W, Below w3.heap.size w3 W → Calls Tryz.prog 48 #[.slice p4 m4 q4] W fun e w' => e = .returned (.string (strB Y4)) ∧ Below w3.heap.size w3 w') := clsAv (rowIn.kept hu4 (valE_keeps S) HBw3.size fun q _ hq => HBw3.block q hq) hxs.2.2.1 (by rw [← hY4]; omega) hY4
      have h3l := heap_lt h3
      obtain ⟨g0, g1, g2, g3, g4⟩ := cells5p h3
      have y0 := cls_cell (n := w3.heap.size) g0 h3l
      have y1 := cls_cell (n := w3.heap.size) g1 h3l
      have y2 := cls_cell (n := w3.heap.size) g2 h3l
      have y3 := cls_cell (n := w3.heap.size) g3 h3l
      have y4 := cls_cell (n := w3.heap.size) g4 h3l
      clear hY0 hY1 hY2 hY3 hY4 hZ0 hZ1 hZ2 hZ3 hZ4 hsz hw3 hb3 HZ3 h3 h3l g0 g1 g2 g3 g4 hcc hxs hxm hx hm3 hm4 hu3 hu4 HBw3
      go_upto_region 6 with fail
      rw [← HW3.out]
      refine wp_region_cls (n := w3.heap.size) (w0 := w3) (Below.refl _ _) (by kernel_rfl) (by kernel_rfl) ?_
      iterate 3 (go_big_quiet_step (fail))
      go_big_quiet_step (exact cls_calls K0.out _)
      iterate 3 (go_big_quiet_step (fail))
      go_big_quiet_step (exact cls_calls K1.out _)
      iterate 3 (go_big_quiet_step (fail))
      go_big_quiet_step (exact cls_calls K2.out _)
      iterate 3 (go_big_quiet_step (fail))
      go_big_quiet_step (exact cls_calls K3.out _)
      iterate 3 (go_big_quiet_step (fail))
      go_big_quiet_step (exact cls_calls K4.out _)
      iterate 2 (go_big_quiet_step (fail))
      refine wpQuiet_nil ?_
      rintro _ ⟨cx, rfl⟩
      obtain ⟨w4, hb4⟩ := cx
      dsimp only
      have HB4 : Hid (Below w1.heap.size w1 w4) := H3.out.trans (hb4.mono H3.out.size)
      clear hb4 y0 y1 y2 y3 y4 sa0 sa1 sa2 sa3 sa4 e0 e1 e2 e3 e4 f0 f1 f2 f3 f4 f5 f6
      go_wp2
      exact ⟨⟨i + 1, Z4, by omega, by go_num, rfl, HZ4, HB4.out⟩, by simp [intOf]; omega⟩
    · obtain rfl : i = nc := by omega
      have hi2 : ¬ (i : Int) < i := by omega
      have HXE : Hid (X = A5 ++ (s.calls.map calB).flatten) := by
        show _ = _
        rw [HX.out, HNC.out, List.take_length]
      obtain ⟨A6, hA6⟩ : ∃ A, A = X ++ N6 := ⟨_, rfl⟩
      have HA6 : Hid (A6 = (A5 ++ (s.calls.map calB).flatten) ++ N6) := by show _ = _; rw [hA6, HXE.out]
      have sa := padd hA6 (by have := HBb.out; rw [HXE.out, HA5.out]; simp only [List.length_append]; omega)
      have c6 := C6.out wr
      clear hA6
      go_wp2_with fail
      refine c6.mono ?_
      clear c6 f0 f1 f2 f3 f4 f5 f6
      rintro e w5 ⟨rfl, hb5⟩
      have HB5 : Hid (Below w1.heap.size w1 w5) := HB.out.trans (hb5.mono HB.out.size)
      clear hb5
      go_wp2
      clear sa
      go_loopw [3, 6] (fun v vi wr => ∃ (j : Nat) (X : List UInt8), j ≤ nh ∧ vi = .int .i64 (j : Int) ∧ v = .string (strB X) ∧ Hid (X = A6 ++ ((s.heap.take j).map objB).flatten) ∧ Below w1.heap.size w1 wr) (fun _ vi _ => nh - (intOf vi).toNat)
      case atStart => exact ⟨0, A6, Nat.zero_le _, rfl, rfl, by show _ = _; simp, HB5.out⟩
      case round =>
        obtain ⟨j, V, hj, rfl, rfl, HV, hbr⟩ := hrel
        have HBr : Hid (Below w1.heap.size w1 wr) := hbr
        have HBrw : Hid (Below w.heap.size w wr) := HB1.out.trans (hbr.mono HB1.out.size)
        obtain ⟨f0, f1, f2, f3, f4, f5, f6⟩ := HF.out wr hbr
        have HLr : Hid (w.heap.size < wr.heap.size) := Nat.lt_of_lt_of_le HLT.out hbr.size
        clear hbr
        by_cases hlt2 : j < nh
        · have hj2 : (j : Int) < nh := by omega
          have hjl : j < s.heap.length := by have := HNH.out; omega
          obtain ⟨b, o, rfl, -, hbl, hc⟩ := HOB.out j hjl
          obtain ⟨e0, u1, e1, hu1⟩ := hc
          obtain ⟨p1, q1, rfl, -⟩ := hu1.at
          obtain ⟨x, hx⟩ : ∃ x, x = s.heap[j] := ⟨_, rfl⟩
          simp only [← hx] at e0 e1 hu1
          have hxm : x ∈ s.heap := hx ▸ List.getElem_mem hjl
          have hxs := HSM.out.heap.1 x hxm
          obtain ⟨m1, hm1⟩ : ∃ n, n = x.2.length := ⟨_, rfl⟩
          rw [← hm1] at e1 hu1
          have hcc : ∀ q, wr.cell? ⟨b, q, none⟩ = w.cell? ⟨b, q, none⟩ := fun q => below_cell HBrw.out hbl
          rw [← hcc] at e0 e1
          obtain ⟨Y0, hY0⟩ : ∃ Y, Y = txB x.1 := ⟨_, rfl⟩
          obtain ⟨Y1, hY1⟩ : ∃ Y, Y = allB vlB x.2 := ⟨_, rfl⟩
          have hsz : V.length + Y0.length + Y1.length ≤ 140737488355328 := by
            have h1 := flat_le objB s.heap (j + 1)
            rw [flat_succ objB s.heap hjl, List.length_append, ← hx] at h1
            have h3 : (objB x).length = Y0.length + Y1.length := by rw [hY0, hY1]; simp only [objB, List.length_append]
            have h2 := HBb.out
            rw [HV.out, HA6.out, HA5.out]
            simp only [List.length_append]
            omega
          obtain ⟨Z0, hZ0⟩ : ∃ Z, Z = V ++ Y0 := ⟨_, rfl⟩
          obtain ⟨Z1, hZ1⟩ : ∃ Z, Z = Z0 ++ Y1 := ⟨_, rfl⟩
          have sa0 := padd hZ0 (by omega)
          have sa1 := padd hZ1 (by rw [hZ0, List.length_append]; omega)
          have HZ1 : Hid (Z1 = A6 ++ ((s.heap.take (j + 1)).map objB).flatten) := by
            show _ = _
            rw [hZ1, hZ0, HV.out, flat_succ objB s.heap hjl, ← hx, hY0, hY1]
            simp only [objB, List.append_assoc]
          have K0 : Hid (∀ W, Below wr.heap.size wr W → Calls Tryz.prog 47 #[.string (strB x.1)] W fun e w' => e = .returned (.string (strB Y0)) ∧ Below wr.heap.size wr w') := clsTv hxs.1 hY0
          have K1 : Hid (∀ W, Below wr.heap.size wr W → Calls Tryz.prog 48 #[.slice p1 m1 q1] W fun e w' => e = .returned (.string (strB Y1)) ∧ Below wr.heap.size wr w') := clsAv (rowIn.kept hu1 (valE_keeps S) HBrw.out.size fun q _ hq => HBrw.out.block q hq) hxs.2.1 (by rw [← hY1]; omega) hY1
          have hbr2 : b < wr.heap.size := Nat.lt_of_lt_of_le hbl HBrw.out.size
          have y0 := cls_cell (n := wr.heap.size) e0 hbr2
          have y1 := cls_cell (n := wr.heap.size) e1 hbr2
          have y4 := cls_cell (n := wr.heap.size) f4 HLr.out
          clear hY0 hY1 hZ0 hZ1 hsz hcc hxs hxm hx hm1 hu1 hbr2
          go_upto_region 11 with fail
          refine wp_region_cls (n := wr.heap.size) (w0 := wr) (Below.refl _ _) (by kernel_rfl) (by kernel_rfl) ?_
          iterate 7 (go_big_quiet_step (fail))
          go_big_quiet_step (exact cls_calls K0.out _)
          iterate 7 (go_big_quiet_step (fail))
          go_big_quiet_step (exact cls_calls K1.out _)
          iterate 2 (go_big_quiet_step (fail))
          refine wpQuiet_nil ?_
          rintro _ ⟨cx, rfl⟩
          obtain ⟨w6, hb6⟩ := cx
          dsimp only
          have HB6 : Hid (Below w1.heap.size w1 w6) := HBr.out.trans (hb6.mono HBr.out.size)
          clear hb6 y0 y1 y4 sa0 sa1 e0 e1 f0 f1 f2 f3 f4 f5 f6
          go_wp2
          exact ⟨⟨j + 1, Z1, by omega, by go_num, rfl, HZ1, HB6.out⟩, by simp [intOf]; omega⟩
        · obtain rfl : j = nh := by omega
          have hj2 : ¬ (j : Int) < j := by omega
          have HE : Hid (V = R) := by
            show _ = _
            rw [HV.out, HRES.out, HNH.out, List.take_length, HA6.out, HA5.out]
          go_wp2
          go_ret
          rw [HE.out]
          exact ⟨rfl, HBrw.out⟩
end Go.Proofs.YtbdgniiafdjmiaaGreatDoor
