/- heap: the examples, reckoned. -/
import Derived.Test.YtchpmnmngeebjaaGreatDoorHShow2
namespace Go.Proofs.YtchpmnmngeebjaaGreatDoor
open Go.RowKit Go.Shelf

set_option maxRecDepth 100000 in
theorem back_P : backB 1 0 [80] := by unfold backB; decide +kernel
set_option maxRecDepth 100000 in
theorem itoa_1 : Lib.itoa 1 = [49] := by decide +kernel
set_option maxRecDepth 100000 in
theorem itoa_2 : Lib.itoa 2 = [50] := by decide +kernel

def exO1 : Ob := ([], [⟨1, 1, []⟩, ⟨1, 2, []⟩])
def exO2 : Ob := ([80], [⟨4, 0, []⟩, ⟨2, 1, []⟩])
theorem exA1 : allocR 9 [] exO1 = (⟨4, 0, []⟩, 0, [exO1]) := by
  unfold allocR
  rw [if_neg (by simp [obB, exO1, cellV, rightV, tagB]), if_neg (by simp [exO1, allV])]
  rfl
theorem exA2 : allocR 9 [exO1] exO2 = (⟨4, 1, []⟩, 0, [exO1, exO2]) := by
  unfold allocR
  rw [if_neg (by simp [obB, exO2, cellV, rightV, tagB, back_P]), if_neg (by simp [exO2, exO1, allV])]
  rfl
theorem exS1 : showB [exO1, exO2] ⟨4, 1, []⟩ = [80, 40, 91, 49, 44, 32, 50, 93, 44, 32, 116, 114, 117, 101, 41] := by
  have e : txtV [exO1, exO2] 2 ⟨4, 1, []⟩ = [80, 40, 91, 49, 44, 32, 50, 93, 44, 32, 116, 114, 117, 101, 41] := by
    simp [txtV, leafT, obT, exO1, exO2, joinT, itoa_1, itoa_2, trueB]
  unfold showB
  rw [e]
  simp [rightV]
theorem exS2 : showB (setOs [exO1, exO2] 0 1 ⟨4, 1, []⟩) ⟨4, 1, []⟩ = [80, 40, 91, 49, 44, 32, 46, 46, 46, 93, 44, 32, 116, 114, 117, 101, 41] := by
  have e : txtV (setOs [exO1, exO2] 0 1 ⟨4, 1, []⟩) 2 ⟨4, 1, []⟩ = [80, 40, 91, 49, 44, 32, 46, 46, 46, 93, 44, 32, 116, 114, 117, 101, 41] := by
    simp [setOs, txtV, leafT, obT, exO1, exO2, joinT, itoa_1, trueB, dotsB]
  unfold showB
  rw [e, setOs_len]
  simp [rightV]
end Go.Proofs.YtchpmnmngeebjaaGreatDoor
