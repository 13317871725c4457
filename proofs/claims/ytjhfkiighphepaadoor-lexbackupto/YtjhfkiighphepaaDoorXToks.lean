/- lex: tokens in memory. -/
import Derived.Test.YtjhfkiighphepaaDoorLXBlanks
namespace Go.Proofs.YtjhfkiighphepaaDoor
open Go.RowKit Go.Shelf

/-- The slice value v reads in the world w as these tokens. -/
def toksAt (w : World) (v : Value) (ts : List Tk) : Prop :=
  (v = .slice none 0 0 ∧ ts = []) ∨ ∃ g cap, v = .slice (some ⟨g, 0, none⟩) ts.length cap ∧ g < w.heap.size ∧ ts.length ≤ cap ∧ ts.length ≤ maxLen ∧ ∀ j u, (tkCells ts)[j]? = some u → w.cell? ⟨g, j, none⟩ = some u

theorem toksAt_own {w : World} {B : Nat} {v : Value} {ts : List Tk} (h : w.ownsRow B 33 5 v ts.length (tkCells ts)) : toksAt w v ts := by
  have hm := row_max h
  obtain ⟨h0, ⟨rfl, h1⟩ | ⟨g, cap, cur, rfl, hg, hh, hc, -, -, hx⟩⟩ := h
  · exact .inl ⟨rfl, List.length_eq_zero_iff.1 h1⟩
  · refine .inr ⟨g, cap, rfl, (Array.getElem?_eq_some_iff.1 hh).1, hc, hm, fun j u hj => ?_⟩
    rw [cell_of_row _ _ _ _ _ _ hh]
    rw [← hx, List.getElem?_take] at hj
    split at hj
    · rw [Array.getElem?_toList] at hj; exact hj
    · cases hj

theorem toksAt_below {w w' : World} {B : Nat} {v : Value} {ts : List Tk} (h : toksAt w v ts) (hb : Below B w w') (hB : w.heap.size ≤ B) : toksAt w' v ts := by
  rcases h with h | ⟨g, cap, hv, hg, hc, hm, hx⟩
  · exact .inl h
  · exact .inr ⟨g, cap, hv, Nat.lt_of_lt_of_le hg hb.size, hc, hm, fun j u hj => by rw [below_cell hb (by omega)]; exact hx j u hj⟩

end Go.Proofs.YtjhfkiighphepaaDoor
