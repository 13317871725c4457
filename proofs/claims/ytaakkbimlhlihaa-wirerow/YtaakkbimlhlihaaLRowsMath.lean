/- Numbers one behind the other, and where each ends: the plain mathematics. -/
import Derived.Test.YtaakkbimlhlihaaWMath
namespace Go.Proofs.Ytaakkbimlhlihaa
open Go.RowKit

/-- The bytes of the first k numbers. -/
def rowB (ls : List Int) (k : Nat) : List UInt8 := ((ls.take k).map numB).flatten

theorem rowB_zero (ls : List Int) : rowB ls 0 = [] := by simp [rowB]
theorem rowB_succ (ls : List Int) (k : Nat) (h : k < ls.length) : rowB ls (k + 1) = rowB ls k ++ numB ls[k] := by
  unfold rowB
  rw [List.take_succ_eq_append_getElem h, List.map_append, List.flatten_append, List.map_singleton, List.flatten_singleton]
theorem rowB_split (ls : List Int) (k : Nat) : rowB ls ls.length = rowB ls k ++ ((ls.drop k).map numB).flatten := by
  unfold rowB
  rw [List.take_length, ← List.flatten_append, ← List.map_append, List.take_append_drop]
theorem rowB_len_le (ls : List Int) (k : Nat) : (rowB ls k).length ≤ (rowB ls ls.length).length := by
  rw [rowB_split ls k, List.length_append]; omega
theorem rowB_len (ls : List Int) (hl : ∀ z ∈ ls, -9223372036854775808 ≤ z ∧ z ≤ 9223372036854775807) : ∀ k, k ≤ ls.length → (rowB ls k).length ≤ 10 * k
  | 0, _ => by simp [rowB_zero]
  | k + 1, h => by
    have ih := rowB_len ls hl k (by omega)
    have hz := hl ls[k] (List.getElem_mem (by omega))
    have := numB_len hz.1 hz.2
    rw [rowB_succ ls k (by omega), List.length_append]; omega

/-- What stands at the end of the k-th of them, of bytes that are cut off at c. -/
theorem row_at (ls : List Int) (k c : Nat) (h : k < ls.length) (hc : (rowB ls (k + 1)).length ≤ c) :
    ∃ rest, ((rowB ls ls.length).take c).drop (rowB ls k).length = numB ls[k] ++ rest := by
  refine ⟨(((ls.drop (k + 1)).map numB).flatten).take (c - (rowB ls (k + 1)).length), ?_⟩
  rw [rowB_split ls (k + 1), List.take_append, List.take_of_length_le hc, rowB_succ ls k h, List.append_assoc, List.drop_left, ← rowB_succ ls k h]
theorem row_cut (ls : List Int) (k c : Nat) (h : k < ls.length) (h0 : (rowB ls k).length ≤ c) (hc : c < (rowB ls (k + 1)).length) :
    ((rowB ls ls.length).take c).drop (rowB ls k).length = (numB ls[k]).take (c - (rowB ls k).length) ∧ c - (rowB ls k).length < (numB ls[k]).length := by
  have e := rowB_succ ls k h
  rw [e, List.length_append] at hc
  constructor
  · rw [rowB_split ls (k + 1), List.take_append, e, List.take_append, List.take_of_length_le h0, List.append_assoc, List.drop_left]
    have : c - (rowB ls k ++ numB ls[k]).length = 0 := by rw [List.length_append]; omega
    rw [this]; simp
  · omega

theorem row_got {ls : List Int} {k c : Nat} (h : k < ls.length) (hl : ∀ z ∈ ls, -9223372036854775808 ≤ z ∧ z ≤ 9223372036854775807) (hc : (rowB ls (k + 1)).length ≤ c) :
    stepR (0 : Int) (rowB ls k).length 0 (getI (((rowB ls ls.length).take c).drop (rowB ls k).length)) = (ls[k], (rowB ls (k + 1)).length, 0) := by
  obtain ⟨rest, hr⟩ := row_at ls k c h hc
  have hz := hl ls[k] (List.getElem_mem h)
  rw [hr, getI_put hz.1 hz.2, rowB_succ ls k h, List.length_append]
  unfold stepR
  simp
theorem row_short {ls : List Int} {k c : Nat} (h : k < ls.length) (hl : ∀ z ∈ ls, -9223372036854775808 ≤ z ∧ z ≤ 9223372036854775807) (h0 : (rowB ls k).length ≤ c) (hc : c < (rowB ls (k + 1)).length) :
    stepR (0 : Int) (rowB ls k).length 0 (getI (((rowB ls ls.length).take c).drop (rowB ls k).length)) = (0, (rowB ls k).length, 3) := by
  obtain ⟨hr, hlt⟩ := row_cut ls k c h h0 hc
  have hz := hl ls[k] (List.getElem_mem h)
  rw [hr, getI_cut hz.1 hz.2 hlt]
  unfold stepR
  simp

/-- Where the first k of them end, as cells. -/
def endCells (ls : List Int) (k : Nat) : List Value := (List.range k).map (fun j => Value.int .i64 ((rowB ls (j + 1)).length : Int))
theorem endCells_succ (ls : List Int) (k : Nat) : endCells ls (k + 1) = endCells ls k ++ [Value.int .i64 ((rowB ls (k + 1)).length : Int)] := by
  unfold endCells; rw [List.range_succ, List.map_append]; rfl
theorem endCells_at (ls : List Int) (k j : Nat) (h : j < k) : (endCells ls k)[j]? = some (Value.int .i64 ((rowB ls (j + 1)).length : Int)) := by
  unfold endCells; rw [List.getElem?_map, List.getElem?_range h]; rfl
theorem endCells_len (ls : List Int) (k : Nat) : (endCells ls k).length = k := by simp [endCells]
end Go.Proofs.Ytaakkbimlhlihaa
