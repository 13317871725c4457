/- slices.Clone at bytes. -/
import Derived.Test.YtmannoaodgedjaaDoorWBytes
import Derived.Test.YtmannoaodgedjaaDoorWMem
import Derived.Laws.AppendOwnNone
import Derived.Lib.SliceRun
namespace Go.Proofs.YtmannoaodgedjaaDoor
open Go.RowKit

end Go.Proofs.YtmannoaodgedjaaDoor
