/- code: the document's own bytes of texts; rows of numbers, and of texts, that are the same. -/
import Derived.Test.YtechkkphbajmoaaGreatDoorCBytes
import Derived.Test.YtechkkphbajmoaaGreatDoorCInsText
import Derived.Test.YtechkkphbajmoaaGreatDoorCHeights
import Derived.Test.YtechkkphbajmoaaGreatDoorWRefPut
import Derived.BigQuiet
namespace Go.Proofs.YtechkkphbajmoaaGreatDoor
open Go.RowKit Go.Shelf

theorem rfInt (n : Int) (h : I64 n) (w : World) : Calls Tryz.prog 82 #[.int .i64 n] w fun e w' => e = .returned (.string (strB (numB n))) ∧ Below w.heap.size w w' := refInt_any n h.1 h.2 w
theorem rfText (s : List UInt8) (h : s.length ≤ 1048576) (w : World) : Calls Tryz.prog 83 #[.string (strB s)] w fun e w' => e = .returned (.string (strB (txB s))) ∧ Below w.heap.size w w' := refText_any (strB s) w (by rw [strB_size]; omega)
theorem rfBool (b : Bool) (w : World) : Calls Tryz.prog 84 #[.bool b] w fun e w' => e = .returned (.string (strB (boolB b))) ∧ Below w.heap.size w w' := (refBool_any b w).mono fun e w' ⟨he, hw⟩ => ⟨he, by rw [← hw]; exact Below.refl _ _⟩

set_option maxRecDepth 100000 in
set_option maxHeartbeats 4000000 in
theorem rfTexts (S : Nat → Prop) (l : List (List UInt8)) (v : Value) (w : World) (hin : strsIn S w v l) (hl : ∀ s ∈ l, s.length ≤ 1048576) (hb : (allB txB l).length ≤ 140737488355328) :
    Calls Tryz.prog 81 #[v] w fun e w' => e = .returned (.string (strB (allB txB l))) ∧ Below w.heap.size w w' := by
  obtain ⟨base, cap, rfl, hc1, hc2, hat⟩ := hin.at
  have HAT : Hid (∀ i (hi : i < l.length), ∃ b o, base = some ⟨b, o, none⟩ ∧ S b ∧ b < w.heap.size ∧ strE w b (o + i * 1) l[i]) := hat
  have hln : l.length ≤ 9223372036854775807 := by have : maxLen ≤ 9223372036854775807 := by decide
                                                  omega
  have HL : Hid (∀ s ∈ l, s.length ≤ 1048576) := hl
  have c1 := rfInt (l.length : Int) ⟨by omega, by omega⟩ w
  obtain ⟨N, hN⟩ : ∃ N, N = numB (l.length : Int) := ⟨_, rfl⟩
  rw [← hN] at c1
  have HBb : Hid (N.length + (l.map txB).flatten.length ≤ 140737488355328) := by
    have h1 := hb; unfold allB at h1; rw [List.length_append, ← hN] at h1; exact h1
  have HRES : Hid (allB txB l = N ++ (l.map txB).flatten) := by rw [hN]; exact rfl
  obtain ⟨R, hR⟩ : ∃ R, R = allB txB l := ⟨_, rfl⟩
  rw [← hR] at HRES ⊢
  clear hat hin hl hb hN hR
  go_enter Tryz.func81, Tryz.ntmps81
  go_wp2_with fail
  refine c1.mono ?_
  clear c1
  rintro e w1 ⟨rfl, hb1⟩
  have HB1 : Hid (Below w.heap.size w w1) := hb1
  clear hb1
  go_wp2
  go_loopw [3, 4] (fun s vi wr => ∃ (i : Nat) (X : List UInt8), i ≤ l.length ∧ vi = .int .i64 (i : Int) ∧ s = .string (strB X) ∧ Hid (X = N ++ ((l.take i).map txB).flatten) ∧ Below w.heap.size w wr) (fun _ vi _ => l.length - (intOf vi).toNat)
  case atStart => exact ⟨0, N, Nat.zero_le _, rfl, rfl, by show _ = _; simp, HB1.out⟩
  case round =>
    obtain ⟨i, X, hi, rfl, rfl, HX, hbr⟩ := hrel
    have HB : Hid (Below w.heap.size w wr) := hbr
    clear hbr
    by_cases hlt : i < l.length
    · have hi2 : (i : Int) < l.length := by omega
      obtain ⟨b, o, rfl, -, hbl, hc⟩ := HAT.out i hlt
      have hcell : wr.cell? ⟨b, o + i, none⟩ = some (.string (strB l[i])) := by
        have := (below_cell (g := b) (j := o + i * 1) HB.out hbl).trans hc
        simpa only [Nat.mul_one] using this
      obtain ⟨s, hs⟩ : ∃ s, s = l[i] := ⟨_, rfl⟩
      rw [← hs] at hcell
      have ct := rfText s (by rw [hs]; exact HL.out _ (List.getElem_mem hlt)) wr
      obtain ⟨Y, hY⟩ : ∃ Y, Y = txB s := ⟨_, rfl⟩
      rw [← hY] at ct
      obtain ⟨Z, hZ⟩ : ∃ Z, Z = X ++ Y := ⟨_, rfl⟩
      have hXY : X.length + Y.length ≤ 140737488355328 := by
        have h1 := flat_le txB l (i + 1)
        rw [flat_succ txB l hlt, List.length_append, ← hs, ← hY] at h1
        have h2 := HBb.out
        rw [HX.out, List.length_append]
        omega
      have sa : ∀ W, (Op.stringOp .add (strB X) (strB Y)).run Tryz.prog W = .ok (.string (strB Z)) W := fun W => by rw [hZ]; exact cstr_add W X Y (by omega)
      have HZ : Hid (Z = N ++ ((l.take (i + 1)).map txB).flatten) := by
        show _ = _
        rw [hZ, HX.out, flat_succ txB l hlt, hY, hs, List.append_assoc]
      clear hc hs hY hZ hXY
      go_wp2_with fail
      refine ct.mono ?_
      clear ct hcell
      rintro e w2 ⟨rfl, hb2⟩
      have HB2 : Hid (Below w.heap.size w w2) := HB.out.trans (hb2.mono HB.out.size)
      clear hb2
      go_wp2
      exact ⟨⟨i + 1, Z, by omega, by go_num, rfl, HZ, HB2.out⟩, by simp [intOf]; omega⟩
    · obtain rfl : i = l.length := by omega
      have hi2 : ¬ (l.length : Int) < l.length := by omega
      have HE : Hid (X = R) := by
        show _ = _
        rw [HX.out, HRES.out, List.take_length]
      go_wp2
      go_ret
      rw [HE.out]
      exact ⟨rfl, HB.out⟩

set_option maxRecDepth 100000 in
set_option maxHeartbeats 4000000 in
theorem rfSameNums (S T : Nat → Prop) (l m : List Int) (v u : Value) (w : World) (hl : rowIn S w v 1 intE l) (hm : rowIn T w u 1 intE m) (hll : l.length ≤ 1048576) :
    Calls Tryz.prog 12 #[v, u] w fun e w' => e = .returned (.bool (decide (l = m))) ∧ Below w.heap.size w w' := by
  obtain ⟨b1, k1, rfl, -, -, h1⟩ := hl.at
  obtain ⟨b2, k2, rfl, -, -, h2⟩ := hm.at
  have H1 : Hid (∀ i (hi : i < l.length), ∃ b o, b1 = some ⟨b, o, none⟩ ∧ S b ∧ b < w.heap.size ∧ intE w b (o + i * 1) l[i]) := h1
  have H2 : Hid (∀ i (hi : i < m.length), ∃ b o, b2 = some ⟨b, o, none⟩ ∧ T b ∧ b < w.heap.size ∧ intE w b (o + i * 1) m[i]) := h2
  have HB0 : Hid (Below w.heap.size w w) := Below.refl _ _
  clear h1 h2 hl hm
  by_cases hlen : l.length = m.length
  · have hb1 : ((l.length : Int) == (m.length : Int)) = true := by rw [hlen]; simp
    have hb2 : (l.length == m.length) = true := by rw [hlen]; simp
    obtain ⟨n, hn⟩ : ∃ n, n = m.length := ⟨_, rfl⟩
    have HLN : Hid (l.length = m.length) := hlen
    rw [hlen]
    rw [hlen] at hll
    have hnI : (m.length : Int) ≤ 1048576 := by omega
    clear hb1 hb2 hn hlen
    go_enter Tryz.func12, Tryz.ntmps12
    go_wp2
    go_loopw [5] (fun vi wr => ∃ i : Nat, i ≤ m.length ∧ vi = .int .i64 (i : Int) ∧ Hid (l.take i = m.take i) ∧ Below w.heap.size w wr) (fun vi _ => m.length - (intOf vi).toNat)
    case atStart => exact ⟨0, Nat.zero_le _, rfl, by show _ = _; simp, HB0.out⟩
    case round =>
      obtain ⟨i, hi, rfl, HT, hbr⟩ := hrel
      have HB : Hid (Below w.heap.size w wr) := hbr
      clear hbr
      by_cases hlt : i < m.length
      · have hi2 : (i : Int) < m.length := by omega
        have hil : i < l.length := by have := HLN.out; omega
        obtain ⟨g1, o1, rfl, -, hg1, hc1⟩ := H1.out i hil
        obtain ⟨g2, o2, rfl, -, hg2, hc2⟩ := H2.out i hlt
        obtain ⟨x, hx⟩ : ∃ x, x = l[i] := ⟨_, rfl⟩
        obtain ⟨y, hy⟩ : ∃ y, y = m[i] := ⟨_, rfl⟩
        have d1 : wr.cell? ⟨g1, o1 + i, none⟩ = some (.int .i64 x) := by
          have := (below_cell (g := g1) (j := o1 + i * 1) HB.out hg1).trans hc1
          rw [hx]
          simpa only [Nat.mul_one] using this
        have d2 : wr.cell? ⟨g2, o2 + i, none⟩ = some (.int .i64 y) := by
          have := (below_cell (g := g2) (j := o2 + i * 1) HB.out hg2).trans hc2
          rw [hy]
          simpa only [Nat.mul_one] using this
        have HX : Hid (x = l[i] ∧ y = m[i]) := ⟨hx, hy⟩
        clear hc1 hc2 hx hy
        by_cases he : x = y
        · subst he
          have HTN : Hid (l.take (i + 1) = m.take (i + 1)) := by
            have e1 : l.take i ++ [l[i]] = l.take (i + 1) := List.take_append_getElem hil
            have e2 : m.take i ++ [m[i]] = m.take (i + 1) := List.take_append_getElem hlt
            show _ = _
            rw [← e1, ← e2, HT.out, ← HX.out.1, ← HX.out.2]
          go_upto_region 6 with fail
          go_quiet (fail)
          go_wp2
          exact ⟨⟨i + 1, by omega, by go_num, HTN, ⟨HB.out.os, HB.out.tape, HB.out.output, HB.out.size, HB.out.block⟩⟩, by simp [intOf]; omega⟩
        · have hxy : (x == y) = false := by rw [beq_eq_false_iff_ne]; exact he
          have HF : Hid (decide (l = m) = false) := decide_eq_false fun e => he (by
            rw [HX.out.1, HX.out.2]
            simp only [e])
          clear he
          go_upto_region 6 with fail
          go_quiet (fail)
          go_wp2
          go_ret
          rw [HF.out]
          exact ⟨rfl, ⟨HB.out.os, HB.out.tape, HB.out.output, HB.out.size, HB.out.block⟩⟩
      · obtain rfl : i = m.length := by omega
        have hi2 : ¬ (m.length : Int) < m.length := by omega
        have HF : Hid (decide (l = m) = true) := decide_eq_true (by
          have h1 := HT.out
          rw [List.take_length, ← HLN.out, List.take_length] at h1
          exact h1)
        go_wp2
        go_ret
        rw [HF.out]
        exact ⟨rfl, HB.out⟩
  · have hb1 : ((l.length : Int) == (m.length : Int)) = false := by rw [beq_eq_false_iff_ne]; omega
    have hb2 : (l.length == m.length) = false := by rw [beq_eq_false_iff_ne]; exact hlen
    have HF : Hid (decide (l = m) = false) := decide_eq_false fun e => hlen (by rw [e])
    clear hlen
    go_enter Tryz.func12, Tryz.ntmps12
    go_wp2
    go_ret
    rw [HF.out]
    exact ⟨rfl, HB0.out⟩
end Go.Proofs.YtechkkphbajmoaaGreatDoor
