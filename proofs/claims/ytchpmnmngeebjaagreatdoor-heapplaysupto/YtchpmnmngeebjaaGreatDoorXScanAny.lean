/- lex.Scan, for any text. -/
import Derived.Test.YtchpmnmngeebjaaGreatDoorXScan
namespace Go.Proofs.YtchpmnmngeebjaaGreatDoor
open Go.RowKit Go.Shelf

attribute [local go_sem] Oper.semAt_some

end Go.Proofs.YtchpmnmngeebjaaGreatDoor
