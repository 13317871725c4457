import Derived.Test.YtbjndgachcdbcaaGreatDoorXTabs
import Derived.Test.YtbjndgachcdbcaaGreatDoorMC6
import Derived.Lib.LaidTab
namespace Go.Proofs.YtbjndgachcdbcaaGreatDoor
open Go.ChangeShapes Go.WideShapes Go.RowKit
set_option maxRecDepth 100000
theorem VX:Tryz.prog.cellsOf 123=1:=by kernel_rfl
theorem VY:Tryz.prog.cellsOf 145=20:=by kernel_rfl
theorem uG:(Rows.laid_internal_strconv_uint64pow10:DataW Unit)=Lib.tabData .u64 Lib.pow10Tab:=rfl
theorem vR {W:World} {laid:List (String × DataW Unit)} (h:laidMet Tryz.prog laid W) (hm:∀x∈laidX,x∈laid):zJ W:=by
 refine ⟨VW h hm,?_⟩;obtain ⟨q,e,-⟩:=h;obtain ⟨g, t, u, fuel, p, m, o, b, c⟩ := ZE (n := "internal/strconv.uint64pow10") (d := Rows.laid_internal_strconv_uint64pow10) e (hm _ (by unfold laidX; simp))
 obtain rfl := Option.some.inj ((show Tryz.prog.globalNamed "internal/strconv.uint64pow10" = some 3 by kernel_rfl).symm.trans m)
 obtain rfl:=Option.some.inj ((show (Tryz.prog.globals[3]?).map (·.type)=some 145 by kernel_rfl).symm.trans o)
 rw [uG] at c
 unfold Lib.TabIs
 rw [b,←Lib.cells_of_tab Tryz.underlying145 Tryz.underlying123 VX VY c]
end Go.Proofs.YtbjndgachcdbcaaGreatDoor
