/- snap: are there at most so many, and each such a one: at hindcast/api.Val. -/
import Derived.Test.YtbdgniiafdjmiaaGreatDoorPModel
namespace Go.Proofs.YtbdgniiafdjmiaaGreatDoor
open Go.RowKit Go.Shelf

theorem pall_true {α : Type} {p : α → Bool} {l : List α} (h : ∀ j (hj : j < l.length), p l[j] = true) : l.all p = true := by
  rw [List.all_eq_true]
  intro x hx
  obtain ⟨j, hj, rfl⟩ := List.getElem_of_mem hx
  exact h j hj
theorem pall_false {α : Type} {p : α → Bool} {l : List α} {i : Nat} (hi : i < l.length) (h : p l[i] = false) : l.all p = false := by
  rw [List.all_eq_false]
  exact ⟨l[i], List.getElem_mem hi, by rw [h]; simp⟩

set_option maxRecDepth 100000 in
set_option maxHeartbeats 4000000 in
theorem pAreVal_any (S : Nat → Prop) (l : List Vl) (v : Value) (m g : Nat) (p : Vl → Bool) (w : World) (hin : valsR S w v l)
    (hk : ∀ i (hi : i < l.length) W, Below w.heap.size w W → Calls Tryz.prog 83 #[vlV l[i], .pointer (some ⟨g, 0, none⟩)] W fun e w' => e = .returned (.bool (p l[i])) ∧ Below w.heap.size w w') :
    Calls Tryz.prog 85 #[v, .int .i64 (m : Int), .func (.func 83) #[] #[.pointer (some ⟨g, 0, none⟩)]] w fun e w' => e = .returned (.bool (decide (l.length ≤ m) && l.all p)) ∧ Below w.heap.size w w' := by
  obtain ⟨base, cap, rfl, hc1, hc2, hat⟩ := hin.at
  have HK : Hid (∀ i (hi : i < l.length) W, Below w.heap.size w W → Calls Tryz.prog 83 #[vlV l[i], .pointer (some ⟨g, 0, none⟩)] W fun e w' => e = .returned (.bool (p l[i])) ∧ Below w.heap.size w w') := hk
  have HAT : Hid (∀ i (hi : i < l.length), ∃ b o, base = some ⟨b, o, none⟩ ∧ S b ∧ b < w.heap.size ∧ valE w b (o + i * 3) l[i]) := hat
  have hln : l.length ≤ 9223372036854775807 := by have : maxLen ≤ 9223372036854775807 := by decide
                                                  omega
  obtain ⟨R, hR⟩ : ∃ R, R = (decide (l.length ≤ m) && l.all p) := ⟨_, rfl⟩
  rw [← hR]
  clear hat hin hk
  by_cases hm : l.length ≤ m
  · have hm2 : ¬ (m : Int) < l.length := by omega
    have HR : Hid (R = l.all p) := by show _ = _; rw [hR, decide_eq_true hm, Bool.true_and]
    clear hR hm
    go_enter Tryz.func85, Tryz.ntmps85
    go_wp2
    go_loopw [15] (fun vi wr => ∃ i : Nat, i ≤ l.length ∧ vi = .int .i64 i ∧ (∀ j (h : j < l.length), j < i → p l[j] = true) ∧ Below w.heap.size w wr) (fun vi _ => l.length - (intOf vi).toNat)
    case atStart => exact ⟨0, Nat.zero_le _, rfl, fun j h hj => by omega, Below.refl _ _⟩
    case round =>
      obtain ⟨i, hi, rfl, hall, hbr⟩ := hrel
      have HA : Hid (∀ j (h : j < l.length), j < i → p l[j] = true) := hall
      have HB : Hid (Below w.heap.size w wr) := hbr
      clear hall hbr
      by_cases hlt : i < l.length
      · have hi2 : (i : Int) < l.length := by omega
        obtain ⟨b, o, rfl, -, hbl, hc⟩ := HAT.out i hlt
        obtain ⟨e0, e1, e2⟩ := hc
        obtain ⟨s, hs⟩ : ∃ s, s = l[i] := ⟨_, rfl⟩
        have HS : Hid (s = l[i]) := hs
        have hcc : ∀ q, wr.cell? ⟨b, q, none⟩ = w.cell? ⟨b, q, none⟩ := fun q => below_cell HB.out hbl
        rw [← hs] at e0 e1 e2
        rw [← hcc] at e0 e1 e2
        obtain ⟨w1, hw1, hb1, HZ1, h1⟩ := box1 wr (.cells #[.int .i64 s.k, .int .i64 s.n, .string (strB s.s)] 54)
        have HW1 : Hid (w1 = wr.alloc (.cells #[.int .i64 s.k, .int .i64 s.n, .string (strB s.s)] 54)) := hw1
        have cis := HK.out i hlt w1 (HB.out.trans (hb1.mono HB.out.size))
        rw [← hs] at cis
        obtain ⟨q, hq⟩ : ∃ q, q = p s := ⟨_, rfl⟩
        rw [← hq] at cis
        have HQ : Hid (q = p s) := hq
        clear hs hq hcc hw1 hb1 HZ1 h1
        go_wp2_with fail
        rw [← HW1.out]
        refine cis.mono ?_
        clear cis
        rintro e w2 ⟨rfl, hb2⟩
        have HB1 : Hid (Below w.heap.size w w2) := hb2
        clear hb2
        cases q with
        | true =>
          go_wp2
          refine ⟨⟨i + 1, by omega, by go_num, fun j h hj => ?_, HB1.out⟩, by simp [intOf]; omega⟩
          by_cases hji : j < i
          · exact HA.out j h hji
          · obtain rfl : j = i := by omega
            rw [← HS.out]
            exact HQ.out.symm
        | false =>
          have HF : Hid (l.all p = false) := pall_false hlt (by rw [← HS.out]; exact HQ.out.symm)
          go_wp2
          go_ret
          rw [HR.out, HF.out]
          exact ⟨rfl, HB1.out⟩
      · obtain rfl : i = l.length := by omega
        have hi2 : ¬ (l.length : Int) < l.length := by omega
        have HF : Hid (l.all p = true) := pall_true fun j hj => HA.out j hj hj
        go_wp2
        go_ret
        rw [HR.out, HF.out]
        exact ⟨rfl, HB.out⟩
  · have hm2 : (m : Int) < l.length := by omega
    have HR : Hid (R = false) := by show _ = _; rw [hR, decide_eq_false hm, Bool.false_and]
    have HB : Hid (Below w.heap.size w w) := Below.refl _ _
    clear hR hm
    go_enter Tryz.func85, Tryz.ntmps85
    go_wp2
    go_ret
    rw [HR.out]
    exact ⟨rfl, HB.out⟩
end Go.Proofs.YtbdgniiafdjmiaaGreatDoor
