/- The tables, and Itoa's, out of what the row says of them. -/
import Derived.Test.YtbdgniiafdjmiaaGreatDoorXTabs
import Derived.Test.YtbdgniiafdjmiaaGreatDoorMX
import Derived.Lib.LaidTab
namespace Go.Proofs.YtbdgniiafdjmiaaGreatDoor
open Go.ChangeShapes Go.WideShapes Go.RowKit

set_option maxRecDepth 100000 in
theorem cells_u64 : Tryz.prog.cellsOf 124 = 1 := by kernel_rfl
set_option maxRecDepth 100000 in
theorem cells_pow : Tryz.prog.cellsOf 199 = 20 := by kernel_rfl
theorem pow_data : (Rows.laid_internal_strconv_uint64pow10 : DataW Unit) = Lib.tabData .u64 Lib.pow10Tab := rfl

theorem tabsP_laid {W : World} {laid : List (String × DataW Unit)} (h : laidMet Tryz.prog laid W) (hm : ∀ x ∈ laidX, x ∈ laid) : TabsP W := by
  refine ⟨tabs_laid h hm, ?_⟩
  obtain ⟨ps, hv, -⟩ := h
  obtain ⟨g, t, cs, fuel, p, hg, ht, hvar, hd⟩ := laid_mem (n := "internal/strconv.uint64pow10") (d := Rows.laid_internal_strconv_uint64pow10) hv (hm _ (by unfold laidX; simp))
  obtain rfl := Option.some.inj ((show Tryz.prog.globalNamed "internal/strconv.uint64pow10" = some 3 by kernel_rfl).symm.trans hg)
  obtain rfl := Option.some.inj ((show (Tryz.prog.globals[3]?).map (·.type) = some 199 by kernel_rfl).symm.trans ht)
  rw [pow_data] at hd
  unfold Lib.TabIs
  rw [hvar, ← Lib.cells_of_tab Tryz.underlying199 Tryz.underlying124 cells_u64 cells_pow hd]
end Go.Proofs.YtbdgniiafdjmiaaGreatDoor
