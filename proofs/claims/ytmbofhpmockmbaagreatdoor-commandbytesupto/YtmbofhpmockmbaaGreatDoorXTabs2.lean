import Derived.Test.YtmbofhpmockmbaaGreatDoorXTabs
import Derived.Test.YtmbofhpmockmbaaGreatDoorMC33
import Derived.Lib.LaidTab
namespace Go.Proofs.YtmbofhpmockmbaaGreatDoor
open Go.ChangeShapes Go.WideShapes Go.RowKit
set_option maxRecDepth 100000
theorem V4:Tryz.prog.cellsOf 106=1:=by kernel_rfl
theorem V5:Tryz.prog.cellsOf 159=20:=by kernel_rfl
theorem uN:(Rows.laid_internal_strconv_uint64pow10:DataW Unit)=Lib.tabData .u64 Lib.pow10Tab:=rfl
theorem vQ {W:World} {laid:List (String × DataW Unit)} (h:laidMet Tryz.prog laid W) (hm:∀x∈laidX,x∈laid):XW W:=by
 refine ⟨V3 h hm,?_⟩;obtain ⟨D,z,-⟩:=h;obtain ⟨g, t, E, fuel, p, A, y, e, o⟩ := ZU (n := "internal/strconv.uint64pow10") (d := Rows.laid_internal_strconv_uint64pow10) z (hm _ (by unfold laidX; simp))
 obtain rfl := Option.some.inj ((show Tryz.prog.globalNamed "internal/strconv.uint64pow10" = some 3 by kernel_rfl).symm.trans A)
 obtain rfl:=Option.some.inj ((show (Tryz.prog.globals[3]?).map (·.type)=some 159 by kernel_rfl).symm.trans y)
 rw [uN] at o
 unfold Lib.TabIs
 rw [e,←Lib.cells_of_tab Tryz.underlying159 Tryz.underlying106 V4 V5 o]
end Go.Proofs.YtmbofhpmockmbaaGreatDoor
