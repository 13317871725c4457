import Derived.Test.YtmbofhpmockmbaaGreatDoorXTabs
import Derived.Test.YtmbofhpmockmbaaGreatDoorXText2
import Derived.Lib.LaidTab
namespace Go.Proofs.YtmbofhpmockmbaaGreatDoor
open Go.ChangeShapes Go.WideShapes Go.RowKit
set_option maxRecDepth 100000
theorem VC:Tryz.prog.cellsOf 106=1:=by kernel_rfl
theorem VD:Tryz.prog.cellsOf 159=20:=by kernel_rfl
theorem um:(Rows.laid_internal_strconv_uint64pow10:DataW Unit)=Lib.tabData .u64 Lib.pow10Tab:=rfl
theorem vr {W:World} {laid:List (String × DataW Unit)} (h:laidMet Tryz.prog laid W) (hm:∀x∈laidX,x∈laid):XK W:=by
 refine ⟨VB h hm,?_⟩;obtain ⟨H,A,-⟩:=h;obtain ⟨g, t, G, y, p, D, E, o, z⟩ := ZQ (n := "internal/strconv.uint64pow10") (d := Rows.laid_internal_strconv_uint64pow10) A (hm _ (by unfold laidX; simp))
 obtain rfl := Option.some.inj ((show Tryz.prog.globalNamed "internal/strconv.uint64pow10" = some 3 by kernel_rfl).symm.trans D)
 obtain rfl:=Option.some.inj ((show (Tryz.prog.globals[3]?).map (·.type)=some 159 by kernel_rfl).symm.trans E)
 rw [um] at z
 unfold Lib.TabIs
 rw [o,←Lib.cells_of_tab Tryz.underlying159 Tryz.underlying106 VC VD z]
end Go.Proofs.YtmbofhpmockmbaaGreatDoor
