/- lex: what stands ahead of a token. -/
import Derived.Test.YtchpmnmngeebjaaGreatDoorXWord
namespace Go.Proofs.YtchpmnmngeebjaaGreatDoor
open Go.RowKit

/-- How many of the first bytes are such ones. -/
def rowN (p : Nat → Bool) (l : List UInt8) : Nat := (l.takeWhile fun c => p c.toNat).length
theorem rowN_le (p : Nat → Bool) (l : List UInt8) : rowN p l ≤ l.length := by
  unfold rowN
  exact (List.takeWhile_sublist _).length_le
/-- Do two slashes stand here? -/
def remB (l : List UInt8) : Bool := Lib.hasPrefix l [47, 47]
theorem remB_form {l : List UInt8} (h : remB l = true) : ∃ t, l = 47 :: 47 :: t := by
  unfold remB Lib.hasPrefix at h
  match l, h with
  | [], h => simp at h
  | [a], h => simp at h
  | a :: b :: t, h => simp at h; exact ⟨t, by rw [← h.1, ← h.2]⟩
theorem remB_row {l : List UInt8} (h : remB l = true) : 2 ≤ rowN noEndN l := by
  obtain ⟨t, rfl⟩ := remB_form h
  unfold rowN
  rw [List.takeWhile_cons_of_pos (by decide), List.takeWhile_cons_of_pos (by decide)]
  simp

/-- How many bytes stand ahead of the first token. -/
def gapN (l : List UInt8) : Nat :=
  if _h : remB (l.drop (rowN blankN l)) = true then
    rowN blankN l + (rowN noEndN (l.drop (rowN blankN l)) + gapN ((l.drop (rowN blankN l)).drop (rowN noEndN (l.drop (rowN blankN l)))))
  else rowN blankN l
termination_by l.length
decreasing_by
  have := remB_row ‹_›
  have h3 := rowN_le noEndN (l.drop (rowN blankN l))
  simp only [List.length_drop] at *
  omega

/-- Behind the blanks. -/
def remN (r : List UInt8) : Nat := if remB r = true then rowN noEndN r + gapN (r.drop (rowN noEndN r)) else 0

theorem gapN_eq (l : List UInt8) : gapN l = rowN blankN l + remN (l.drop (rowN blankN l)) := by
  rw [gapN]
  unfold remN
  by_cases h : remB (l.drop (rowN blankN l)) = true
  · rw [dif_pos h, if_pos h]
  · rw [dif_neg h, if_neg h]; rfl

theorem gapN_le : ∀ (n : Nat) (l : List UInt8), l.length ≤ n → gapN l ≤ l.length
  | n, l, hn => by
    rw [gapN]
    have h1 := rowN_le blankN l
    by_cases h : remB (l.drop (rowN blankN l)) = true
    · rw [dif_pos h]
      have h2 := remB_row h
      have h3 := rowN_le noEndN (l.drop (rowN blankN l))
      rw [List.length_drop] at h3
      have h4 := gapN_le (n - 1) ((l.drop (rowN blankN l)).drop (rowN noEndN (l.drop (rowN blankN l)))) (by simp only [List.length_drop]; omega)
      simp only [List.length_drop] at h4
      omega
    · rw [dif_neg h]; exact h1
termination_by _ l => l.length
decreasing_by
  have := remB_row ‹_›
  have h3 := rowN_le noEndN (l.drop (rowN blankN l))
  simp only [List.length_drop] at *
  omega

end Go.Proofs.YtchpmnmngeebjaaGreatDoor
