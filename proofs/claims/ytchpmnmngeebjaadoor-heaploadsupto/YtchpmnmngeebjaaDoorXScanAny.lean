/- lex.Scan, for any text. -/
import Derived.Test.YtchpmnmngeebjaaDoorXScan
namespace Go.Proofs.YtchpmnmngeebjaaDoor
open Go.RowKit Go.Shelf

attribute [local go_sem] Oper.semAt_some

end Go.Proofs.YtchpmnmngeebjaaDoor
