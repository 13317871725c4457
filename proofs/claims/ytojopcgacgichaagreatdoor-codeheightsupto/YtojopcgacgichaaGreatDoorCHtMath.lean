/- code: what is told of the heights of a right code. -/
import Derived.Test.YtojopcgacgichaaGreatDoorCHeights
namespace Go.Proofs.YtojopcgacgichaaGreatDoor
open Go.RowKit Go.Shelf

/-- The heights of a right unit. -/
structure HtOk (u : Un) (L : List Int) : Prop where
  len : L.length = u.ins.length
  one : 1 ≤ L.length
  range : ∀ j (hj : j < L.length), -1 ≤ L[j] ∧ L[j] ≤ u.stack
  first : ∀ (h : 0 < L.length), L[0] = 0
  mark : ∀ j (hj : j < L.length) (hu : j < u.ins.length), u.ins[j].op = 0 → L[j] ≤ 0
  next : ∀ j (hj : j < L.length) (hu : j < u.ins.length), 0 ≤ L[j] → u.ins[j].op ≠ 20 → u.ins[j].op ≠ 23 → ∃ h1 : j + 1 < L.length, 0 ≤ L[j + 1]
  jump : ∀ j (hj : j < L.length) (hu : j < u.ins.length), 0 ≤ L[j] → (u.ins[j].op = 20 ∨ u.ins[j].op = 21) → ∃ n : Nat, u.ins[j].a = (n : Int) ∧ ∃ h1 : n < L.length, 0 ≤ L[n]
  stack : 0 ≤ u.stack ∧ u.stack ≤ 256
  few : u.ins.length ≤ 4096

theorem rch_stack {c : Cd} {u : Un} {i : Nat} {h : Int} (hs : 0 ≤ u.stack) (hr : Rch c u i h) : h ≤ u.stack := by
  cases hr with
  | zero => exact hs
  | step hr hx hl hn =>
    unfold leaveR at hl
    split at hl
    · cases hl
    · rename_i hb
      cases hl
      unfold LeaveBad at hb
      omega

theorem hts_ok {c : Cd} (hc : rightC c = true) {u : Un} (hu : u ∈ c.units) : HtOk u (hts c u) := by
  obtain ⟨hout, hall, hH⟩ := rightC_parts hc
  have hshp : ∀ x ∈ c.shapes, shR x = true := by
    unfold outR at hout
    simp only [Bool.and_eq_true, List.all_eq_true] at hout
    exact hout.2.2.2.1
  have hun := hall u hu
  have hia := insAll_of hun hall hshp
  obtain ⟨-, -, hst, hni, -, -⟩ := unitR_parts hun
  have hR := hH u hu
  have key : ∀ j, htR c u j = -1 ∨ (Rch c u j (htR c u j) ∧ 0 ≤ htR c u j ∧ htR c u j ≤ u.stack) := fun j => by
    by_cases h : ∃ h, Rch c u j h
    · obtain ⟨h, hr⟩ := h
      rw [htR_of hR hr]
      exact .inr ⟨hr, (rch_range hia hst hr).1, rch_stack hst.1 hr⟩
    · exact .inl (htR_no h)
  have reach : ∀ n h, Rch c u n h → ∃ h1 : n < (hts c u).length, 0 ≤ (hts c u)[n] := fun n h hr => by
    obtain ⟨x, hx, -⟩ := hR.1 n h hr
    have hn : n < u.ins.length := by
      rcases Nat.lt_or_ge n u.ins.length with h | h
      · exact h
      · rw [List.getElem?_eq_none h] at hx; cases hx
    have h1 : n < (hts c u).length := by rw [hts_len]; exact hn
    refine ⟨h1, ?_⟩
    rw [hts_at h1, htR_of hR hr]
    exact (rch_range hia hst hr).1
  refine ⟨hts_len c u, by rw [hts_len]; exact hni.1, fun j hj => ?_, fun h => ?_, fun j hj hju h0 => ?_, fun j hj hju hp h20 h23 => ?_, fun j hj hju hp ho => ?_, hst, hni.2⟩
  · rw [hts_at hj]
    rcases key j with h | ⟨-, h⟩
    · omega
    · omega
  · rw [hts_at h, htR_of hR .zero]
  · rw [hts_at hj]
    rcases key j with h | ⟨hr, -, -⟩
    · omega
    · obtain ⟨x, hx, hl⟩ := hR.1 j _ hr
      rw [List.getElem?_eq_getElem hju] at hx
      cases hx
      unfold leaveR at hl
      split at hl
      · cases hl
      · rename_i hb
        unfold LeaveBad at hb
        omega
  · rw [hts_at hj] at hp
    rcases key j with h | ⟨hr, -, -⟩
    · omega
    · obtain ⟨x, hx, hl⟩ := hR.1 j _ hr
      rw [List.getElem?_eq_getElem hju] at hx
      cases hx
      obtain ⟨left, hlr⟩ : ∃ left, leaveR c u.stack u.ins[j] (htR c u j) = (left, true) := ⟨_, Prod.ext rfl hl⟩
      exact reach (j + 1) left (.step hr (List.getElem?_eq_getElem hju) hlr (by
        unfold behindR
        rw [if_neg h20]
        by_cases h21 : u.ins[j].op = 21
        · rw [if_pos h21]; simp
        · rw [if_neg h21, if_neg h23]; simp))
  · rw [hts_at hj] at hp
    rcases key j with h | ⟨hr, -, -⟩
    · omega
    · obtain ⟨x, hx, hl⟩ := hR.1 j _ hr
      rw [List.getElem?_eq_getElem hju] at hx
      cases hx
      obtain ⟨left, hlr⟩ : ∃ left, leaveR c u.stack u.ins[j] (htR c u j) = (left, true) := ⟨_, Prod.ext rfl hl⟩
      have ha := (hia u.ins[j] (List.getElem_mem hju)).2.1 ho
      refine ⟨u.ins[j].a.toNat, by omega, ?_⟩
      refine reach _ left (.step hr (List.getElem?_eq_getElem hju) hlr ?_)
      unfold behindR
      rcases ho with h20 | h21
      · rw [if_pos h20]; simp
      · rw [if_neg (by omega), if_pos h21]; simp
end Go.Proofs.YtojopcgacgichaaGreatDoor
