/- code: rows of texts that are the same. -/
import Derived.Test.YtechkkphbajmoaaGreatDoorCRefT
namespace Go.Proofs.YtechkkphbajmoaaGreatDoor
open Go.RowKit Go.Shelf

set_option maxRecDepth 100000 in
set_option maxHeartbeats 4000000 in
theorem rfSameTexts (S T : Nat → Prop) (l m : List (List UInt8)) (v u : Value) (w : World) (hl : rowIn S w v 1 strE l) (hm : rowIn T w u 1 strE m) (hll : l.length ≤ 1048576) :
    Calls Tryz.prog 17 #[v, u] w fun e w' => e = .returned (.bool (decide (l = m))) ∧ Below w.heap.size w w' := by
  obtain ⟨b1, k1, rfl, -, -, h1⟩ := hl.at
  obtain ⟨b2, k2, rfl, -, -, h2⟩ := hm.at
  have H1 : Hid (∀ i (hi : i < l.length), ∃ b o, b1 = some ⟨b, o, none⟩ ∧ S b ∧ b < w.heap.size ∧ strE w b (o + i * 1) l[i]) := h1
  have H2 : Hid (∀ i (hi : i < m.length), ∃ b o, b2 = some ⟨b, o, none⟩ ∧ T b ∧ b < w.heap.size ∧ strE w b (o + i * 1) m[i]) := h2
  have HB0 : Hid (Below w.heap.size w w) := Below.refl _ _
  clear h1 h2 hl hm
  by_cases hlen : l.length = m.length
  · have hb1 : ((l.length : Int) == (m.length : Int)) = true := by rw [hlen]; simp
    have hb2 : (l.length == m.length) = true := by rw [hlen]; simp
    obtain ⟨n, hn⟩ : ∃ n, n = m.length := ⟨_, rfl⟩
    have HLN : Hid (l.length = m.length) := hlen
    rw [hlen]
    rw [hlen] at hll
    have hnI : (m.length : Int) ≤ 1048576 := by omega
    clear hb1 hb2 hn hlen
    go_enter Tryz.func17, Tryz.ntmps17
    go_wp2
    go_loopw [5] (fun vi wr => ∃ i : Nat, i ≤ m.length ∧ vi = .int .i64 (i : Int) ∧ Hid (l.take i = m.take i) ∧ Below w.heap.size w wr) (fun vi _ => m.length - (intOf vi).toNat)
    case atStart => exact ⟨0, Nat.zero_le _, rfl, by show _ = _; simp, HB0.out⟩
    case round =>
      obtain ⟨i, hi, rfl, HT, hbr⟩ := hrel
      have HB : Hid (Below w.heap.size w wr) := hbr
      clear hbr
      by_cases hlt : i < m.length
      · have hi2 : (i : Int) < m.length := by omega
        have hil : i < l.length := by have := HLN.out; omega
        obtain ⟨g1, o1, rfl, -, hg1, hc1⟩ := H1.out i hil
        obtain ⟨g2, o2, rfl, -, hg2, hc2⟩ := H2.out i hlt
        obtain ⟨x, hx⟩ : ∃ x, x = l[i] := ⟨_, rfl⟩
        obtain ⟨y, hy⟩ : ∃ y, y = m[i] := ⟨_, rfl⟩
        have d1 : wr.cell? ⟨g1, o1 + i, none⟩ = some (.string (strB x)) := by
          have := (below_cell (g := g1) (j := o1 + i * 1) HB.out hg1).trans hc1
          rw [hx]
          simpa only [Nat.mul_one] using this
        have d2 : wr.cell? ⟨g2, o2 + i, none⟩ = some (.string (strB y)) := by
          have := (below_cell (g := g2) (j := o2 + i * 1) HB.out hg2).trans hc2
          rw [hy]
          simpa only [Nat.mul_one] using this
        have HX : Hid (x = l[i] ∧ y = m[i]) := ⟨hx, hy⟩
        clear hc1 hc2 hx hy
        by_cases he : x = y
        · subst he
          have HTN : Hid (l.take (i + 1) = m.take (i + 1)) := by
            have e1 : l.take i ++ [l[i]] = l.take (i + 1) := List.take_append_getElem hil
            have e2 : m.take i ++ [m[i]] = m.take (i + 1) := List.take_append_getElem hlt
            show _ = _
            rw [← e1, ← e2, HT.out, ← HX.out.1, ← HX.out.2]
          go_upto_region 6 with fail
          go_quiet (fail)
          go_wp2
          exact ⟨⟨i + 1, by omega, by go_num, HTN, ⟨HB.out.os, HB.out.tape, HB.out.output, HB.out.size, HB.out.block⟩⟩, by simp [intOf]; omega⟩
        · have hxy : (x == y) = false := by rw [beqL]; exact decide_eq_false he
          have HF : Hid (decide (l = m) = false) := decide_eq_false fun e => he (by
            rw [HX.out.1, HX.out.2]
            simp only [e])
          clear he
          go_upto_region 6 with fail
          go_quiet (fail)
          go_wp2
          go_ret
          rw [HF.out]
          exact ⟨rfl, ⟨HB.out.os, HB.out.tape, HB.out.output, HB.out.size, HB.out.block⟩⟩
      · obtain rfl : i = m.length := by omega
        have hi2 : ¬ (m.length : Int) < m.length := by omega
        have HF : Hid (decide (l = m) = true) := decide_eq_true (by
          have h1 := HT.out
          rw [List.take_length, ← HLN.out, List.take_length] at h1
          exact h1)
        go_wp2
        go_ret
        rw [HF.out]
        exact ⟨rfl, HB.out⟩
  · have hb1 : ((l.length : Int) == (m.length : Int)) = false := by rw [beq_eq_false_iff_ne]; omega
    have hb2 : (l.length == m.length) = false := by rw [beq_eq_false_iff_ne]; exact hlen
    have HF : Hid (decide (l = m) = false) := decide_eq_false fun e => hlen (by rw [e])
    clear hlen
    go_enter Tryz.func17, Tryz.ntmps17
    go_wp2
    go_ret
    rw [HF.out]
    exact ⟨rfl, HB0.out⟩
end Go.Proofs.YtechkkphbajmoaaGreatDoor
