/- getBool, getCount, getText: what they answer, of any bytes. -/
import Derived.Test.YtjhfkiighphepaaDoorWGetInt
import Derived.Lib.MinMax
import Derived.Laws.IdiomStrings
namespace Go.Proofs.YtjhfkiighphepaaDoor
open Go.RowKit

/-- A truth off bytes. -/
def getB (bs : List UInt8) : Bool × Nat × Nat :=
  match bs with
  | [] => (false, 0, 3)
  | x :: _ => if 1 < x.toNat then (false, 0, 4) else (x.toNat == 1, 1, 0)

/-- A count off bytes. -/
def getC (bs : List UInt8) (most : Int) : Int × Nat × Nat :=
  if (getI bs).2.2 ≠ 0 then (0, 0, (getI bs).2.2) else if (getI bs).1 < 0 then (0, 0, 4) else if max most 0 < (getI bs).1 then (0, 0, 5) else getI bs

/-- A text off bytes. -/
def getT (bs : List UInt8) (most : Int) : List UInt8 × Nat × Nat :=
  if (getC bs most).2.2 ≠ 0 then ([], 0, (getC bs most).2.2) else if ((bs.length : Int) - (getC bs most).2.1) < (getC bs most).1 then ([], 0, 3)
  else ((bs.drop (getC bs most).2.1).take (getC bs most).1.toNat, (getC bs most).2.1 + (getC bs most).1.toNat, 0)

theorem ret3b {a b : Bool × Nat × Nat} (h : a = b) : (Ending.returned (.tuple #[.bool b.1, .int .i64 b.2.1, .int .i64 b.2.2]) : Ending) = Ending.returned (.tuple #[.bool a.1, .int .i64 a.2.1, .int .i64 a.2.2]) := by rw [h]
theorem ret3t {a b : List UInt8 × Nat × Nat} (h : a = b) : (Ending.returned (.tuple #[.string ⟨b.1.toArray⟩, .int .i64 b.2.1, .int .i64 b.2.2]) : Ending) = Ending.returned (.tuple #[.string ⟨a.1.toArray⟩, .int .i64 a.2.1, .int .i64 a.2.2]) := by rw [h]

end Go.Proofs.YtjhfkiighphepaaDoor
