/- What read does at a truth, a count and a text. -/
import Derived.Test.YtmannoaodgedjaaDoorWRead
namespace Go.Proofs.YtmannoaodgedjaaDoor
open Go.RowKit

end Go.Proofs.YtmannoaodgedjaaDoor
