/- lex.Scan, for any text. -/
import Derived.Test.YtljofkfnmlhicabDoorXScan
namespace Go.Proofs.YtljofkfnmlhicabDoor
open Go.RowKit Go.Shelf

attribute [local go_sem] Oper.semAt_some

end Go.Proofs.YtljofkfnmlhicabDoor
