/- getInt: what it answers, of any bytes. -/
import Derived.Test.YtjhfkiighphepaaDoorWGet
namespace Go.Proofs.YtjhfkiighphepaaDoor
open Go.RowKit

theorem ret3 {a b : Int × Nat × Nat} (h : a = b) : (Ending.returned (.tuple #[.int .i64 b.1, .int .i64 b.2.1, .int .i64 b.2.2]) : Ending) = Ending.returned (.tuple #[.int .i64 a.1, .int .i64 a.2.1, .int .i64 a.2.2]) := by rw [h]

end Go.Proofs.YtjhfkiighphepaaDoor
