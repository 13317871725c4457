import Derived.Test.YtmbofhpmockmbaaGreatDoorXTabs
import Derived.Test.YtmbofhpmockmbaaGreatDoorXText2
import Derived.Lib.LaidTab
namespace Go.Proofs.YtmbofhpmockmbaaGreatDoor
open Go.ChangeShapes Go.WideShapes Go.RowKit
set_option maxRecDepth 100000
theorem vD:Tryz.prog.cellsOf 106=1:=by kernel_rfl
theorem vE:Tryz.prog.cellsOf 159=20:=by kernel_rfl
theorem Ve:(Rows.laid_internal_strconv_uint64pow10:DataW Unit)=Lib.tabData .u64 Lib.pow10Tab:=rfl
theorem XB {W:World} {laid:List (String × DataW Unit)} (h:laidMet Tryz.prog laid W) (hm:∀x∈laidX,x∈laid):xX W:=by
 refine ⟨vC h hm,?_⟩;obtain ⟨G,z,-⟩:=h;obtain ⟨g, t, E, o, p, A, D, e, y⟩ := ZE (n := "internal/strconv.uint64pow10") (d := Rows.laid_internal_strconv_uint64pow10) z (hm _ (by unfold laidX; simp))
 obtain rfl := Option.some.inj ((show Tryz.prog.globalNamed "internal/strconv.uint64pow10" = some 3 by kernel_rfl).symm.trans A)
 obtain rfl:=Option.some.inj ((show (Tryz.prog.globals[3]?).map (·.type)=some 159 by kernel_rfl).symm.trans D)
 rw [Ve] at y
 unfold Lib.TabIs
 rw [e,←Lib.cells_of_tab Tryz.underlying159 Tryz.underlying106 vD vE y]
end Go.Proofs.YtmbofhpmockmbaaGreatDoor
