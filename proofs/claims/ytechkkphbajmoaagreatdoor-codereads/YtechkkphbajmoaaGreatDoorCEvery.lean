/- code: is every text of a row one that may be written. -/
import Derived.Test.YtechkkphbajmoaaGreatDoorCSmall
import Derived.Test.YtechkkphbajmoaaGreatDoorCModel
namespace Go.Proofs.YtechkkphbajmoaaGreatDoor
open Go.RowKit Go.Shelf

theorem all_true {α : Type} {p : α → Bool} {l : List α} (h : ∀ j (hj : j < l.length), p l[j] = true) : l.all p = true := by
  rw [List.all_eq_true]
  intro x hx
  obtain ⟨j, hj, rfl⟩ := List.getElem_of_mem hx
  exact h j hj
theorem all_false {α : Type} {p : α → Bool} {l : List α} {i : Nat} (hi : i < l.length) (h : p l[i] = false) : l.all p = false := by
  rw [List.all_eq_false]
  exact ⟨l[i], List.getElem_mem hi, by rw [h]; simp⟩

set_option maxRecDepth 100000 in
set_option maxHeartbeats 2000000 in
theorem everyText_any (S : Nat → Prop) (l : List (List UInt8)) (v : Value) (w : World) (hin : strsIn S w v l) (hl : ∀ s ∈ l, s.length ≤ 1048576) (ht : TabsP w) :
    Calls Tryz.prog 101 #[v, .func (.func 102) #[] #[]] w fun e w' => e = .returned (.bool (l.all fun s => decide (backB 3 0 s))) ∧ Below w.heap.size w w' := by
  obtain ⟨base, cap, rfl, hc1, hc2, hat⟩ := hin.at
  obtain ⟨p, hp⟩ : ∃ p : List UInt8 → Bool, p = fun s => decide (backB 3 0 s) := ⟨_, rfl⟩
  rw [← hp]
  have HK : Hid (∀ (s : List UInt8) (W : World), s ∈ l → Below w.heap.size w W → Calls Tryz.prog 102 #[.string (strB s)] W fun e w' => e = .returned (.bool (p s)) ∧ Below w.heap.size w w') := fun s W hs hW => by
    rw [hp]
    exact (cIsText_any s W (hl s hs) (ht.below hW (Nat.le_refl _))).mono fun e w' ⟨he, hb⟩ => ⟨he, hW.trans (hb.mono hW.size)⟩
  have HAT : Hid (∀ i (hi : i < l.length), ∃ b o, base = some ⟨b, o, none⟩ ∧ S b ∧ b < w.heap.size ∧ strE w b (o + i * 1) l[i]) := hat
  have hln : l.length ≤ 9223372036854775807 := by have : maxLen ≤ 9223372036854775807 := by decide
                                                  omega
  clear hat hin hl ht hp
  go_enter Tryz.func101, Tryz.ntmps101
  go_wp2
  go_loopw [9] (fun vi wr => ∃ i : Nat, i ≤ l.length ∧ vi = .int .i64 i ∧ (∀ j (h : j < l.length), j < i → p l[j] = true) ∧ Below w.heap.size w wr) (fun vi _ => l.length - (intOf vi).toNat)
  case atStart => exact ⟨0, Nat.zero_le _, rfl, fun j h hj => by omega, Below.refl _ _⟩
  case round =>
    obtain ⟨i, hi, rfl, hall, hbr⟩ := hrel
    have HA : Hid (∀ j (h : j < l.length), j < i → p l[j] = true) := hall
    have HB : Hid (Below w.heap.size w wr) := hbr
    clear hall hbr
    by_cases hlt : i < l.length
    · have hi2 : (i : Int) < l.length := by omega
      obtain ⟨b, o, rfl, -, hbl, hc⟩ := HAT.out i hlt
      have hcell : wr.cell? ⟨b, o + i, none⟩ = some (.string (strB l[i])) := by
        have := (below_cell (g := b) (j := o + i * 1) HB.out hbl).trans hc
        simpa only [Nat.mul_one] using this
      obtain ⟨s, hs⟩ : ∃ s, s = l[i] := ⟨_, rfl⟩
      have HS : Hid (s = l[i]) := hs
      have cis := HK.out s wr (by rw [hs]; exact List.getElem_mem hlt) HB.out
      rw [← hs] at hcell
      obtain ⟨q, hq⟩ : ∃ q, q = p s := ⟨_, rfl⟩
      rw [← hq] at cis
      have HQ : Hid (q = p s) := hq
      clear hc hs hq
      go_wp2_with fail
      refine cis.mono ?_
      clear cis hcell
      rintro e w1 ⟨rfl, hb1⟩
      have HB1 : Hid (Below w.heap.size w w1) := hb1
      clear hb1
      cases q with
      | true =>
        go_wp2
        refine ⟨⟨i + 1, by omega, by go_num, fun j h hj => ?_, HB1.out⟩, by simp [intOf]; omega⟩
        by_cases hji : j < i
        · exact HA.out j h hji
        · obtain rfl : j = i := by omega
          rw [← HS.out]
          exact HQ.out.symm
      | false =>
        have HF : Hid (l.all p = false) := all_false hlt (by rw [← HS.out]; exact HQ.out.symm)
        go_wp2
        go_ret
        rw [HF.out]
        exact ⟨rfl, HB1.out⟩
    · obtain rfl : i = l.length := by omega
      have hi2 : ¬ (l.length : Int) < l.length := by omega
      have HF : Hid (l.all p = true) := all_true fun j hj => HA.out j hj hj
      go_wp2
      go_ret
      rw [HF.out]
      exact ⟨rfl, HB.out⟩
end Go.Proofs.YtechkkphbajmoaaGreatDoor
