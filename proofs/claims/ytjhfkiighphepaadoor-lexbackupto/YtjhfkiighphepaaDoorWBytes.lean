/- A number as bytes: what intBytes makes, in memory of its own. -/
import Derived.Test.YtjhfkiighphepaaDoorWFold
import Derived.OwnWalk
namespace Go.Proofs.YtjhfkiighphepaaDoor
open Go.RowKit

set_option maxRecDepth 100000 in
theorem info_u8 : (Tryd.prog.info? 5).map (fun i => (i.zero, i.size, i.bytes)) = some (some (.int .u8 0), 1, 1) := by kernel_rfl

/-- The bytes of a number. -/
def numB (n : Int) : List UInt8 := Lib.uvarint (Lib.zigzag n)

end Go.Proofs.YtjhfkiighphepaaDoor
