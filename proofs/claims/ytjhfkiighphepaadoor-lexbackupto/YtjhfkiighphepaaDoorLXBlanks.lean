/- LexBlanks. -/
import Derived.Test.YtjhfkiighphepaaDoorXLives
import Derived.Test.YtjhfkiighphepaaDoorXBlank2
namespace Go.Proofs.YtjhfkiighphepaaDoor
open Go.RowKit Go.Shelf

theorem strB_append (a b : List UInt8) : strB a ++ strB b = strB (a ++ b) := by
  apply ByteArray.ext
  rw [ByteArray.data_append]
  unfold strB
  simp

theorem row_max {w : World} {B e sz n : Nat} {v : Value} {xs : List Value} (h : w.ownsRow B e sz v n xs) : n ≤ maxLen := by
  obtain ⟨-, ⟨-, h0⟩ | ⟨g, cap, cur, -, -, -, hc, hm, -⟩⟩ := h
  · omega
  · omega

theorem tkCells_at : ∀ (ts : List Tk) (i : Nat) (h : i < ts.length), (tkCells ts)[i * 5]? = some (.int .i64 (ts[i]).k) ∧ (tkCells ts)[i * 5 + 1]? = some (.string (strB (ts[i]).s)) ∧ (tkCells ts)[i * 5 + 2]? = some (.int .i64 (ts[i]).n) ∧
    (tkCells ts)[i * 5 + 3]? = some (.int .i64 (ts[i]).line) ∧ (tkCells ts)[i * 5 + 4]? = some (.int .i64 (ts[i]).at0)
  | [], _, h => by cases h
  | t :: ts, 0, _ => ⟨rfl, rfl, rfl, rfl, rfl⟩
  | t :: ts, i + 1, h => by
    have ih := tkCells_at ts i (by simpa using h)
    have e : tkCells (t :: ts) = [.int .i64 t.k, .string (strB t.s), .int .i64 t.n, .int .i64 t.line, .int .i64 t.at0] ++ tkCells ts := rfl
    have key : ∀ q, (tkCells (t :: ts))[(i + 1) * 5 + q]? = (tkCells ts)[i * 5 + q]? := fun q => by
      rw [e, List.getElem?_append_right (by simp; omega)]
      congr 1
      simp
      omega
    have k0 := key 0
    simp only [Nat.add_zero] at k0
    rw [k0, key 1, key 2, key 3, key 4]
    exact ih

end Go.Proofs.YtjhfkiighphepaaDoor
