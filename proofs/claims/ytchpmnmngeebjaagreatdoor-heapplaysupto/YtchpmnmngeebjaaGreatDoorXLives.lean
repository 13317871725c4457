/- the laws' lives, layer 3. -/
import Derived.Test.YtchpmnmngeebjaaGreatDoorXScanAny
import Derived.Test.YtchpmnmngeebjaaGreatDoorXConc
namespace Go.Proofs.YtchpmnmngeebjaaGreatDoor
open Go.RowKit Go.Shelf

theorem row_cells {w : World} {B e sz n : Nat} {v : Value} {xs : List Value} (h : w.ownsRow B e sz v n xs) (hn : 1 ≤ n) : ∃ g cap, v = .slice (some ⟨g, 0, none⟩) n cap ∧ B ≤ g ∧ g < w.heap.size ∧ n ≤ cap ∧ ∀ j u, xs[j]? = some u → w.cell? ⟨g, j, none⟩ = some u := by
  obtain ⟨-, ⟨-, h0⟩ | ⟨g, cap, cur, rfl, hg, hh, hc, -, -, hx⟩⟩ := h
  · omega
  · refine ⟨g, cap, rfl, hg, (Array.getElem?_eq_some_iff.1 hh).1, hc, fun j u hj => ?_⟩
    rw [cell_of_row _ _ _ _ _ _ hh]
    rw [← hx, List.getElem?_take] at hj
    split at hj
    · rw [Array.getElem?_toList] at hj; exact hj
    · cases hj

theorem below_cell {n : Nat} {w w' : World} (h : Below n w w') {g j : Nat} (hg : g < n) : w'.cell? ⟨g, j, none⟩ = w.cell? ⟨g, j, none⟩ := World.cell?_of_block (h.block g hg)

end Go.Proofs.YtchpmnmngeebjaaGreatDoor
