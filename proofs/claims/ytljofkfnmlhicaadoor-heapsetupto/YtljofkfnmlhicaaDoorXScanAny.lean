/- lex.Scan, for any text. -/
import Derived.Test.YtljofkfnmlhicaaDoorXScan
namespace Go.Proofs.YtljofkfnmlhicaaDoor
open Go.RowKit Go.Shelf

attribute [local go_sem] Oper.semAt_some

end Go.Proofs.YtljofkfnmlhicaaDoor
