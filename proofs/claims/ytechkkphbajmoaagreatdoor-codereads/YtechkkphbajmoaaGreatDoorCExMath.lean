/- code: the laws' example, as mathematics. -/
import Derived.Test.YtechkkphbajmoaaGreatDoorCLight
import Derived.Test.YtechkkphbajmoaaGreatDoorCLoad
import Derived.Test.YtechkkphbajmoaaGreatDoorCList
namespace Go.Proofs.YtechkkphbajmoaaGreatDoor
open Go.RowKit Go.Shelf

def cEu : Un := ⟨[109, 97, 105, 110], 0, 0, 1, false, [⟨0, 1⟩, ⟨1, 2⟩, ⟨34, 1⟩, ⟨23, 0⟩], []⟩
def cE : Cd := ⟨[], [], [cEu], 0⟩
def cBu : Un := ⟨[109, 97, 105, 110], 0, 0, 1, false, [⟨0, 1⟩, ⟨1, 2⟩, ⟨6, 1⟩, ⟨23, 0⟩], []⟩
def cB : Cd := ⟨[], [], [cBu], 0⟩

theorem cE_small : SmallC cE := by
  constructor <;> simp [cE, cEu]
theorem cB_small : SmallC cB := by
  constructor <;> simp [cB, cBu]
theorem cE_ints : IntsC cE := by
  constructor <;> simp [cE, cEu, I64]

theorem cE_rch : ∀ i h, Rch cE cEu i h → (i = 0 ∧ h = 0) ∨ (i = 1 ∧ h = 0) ∨ (i = 2 ∧ h = 1) ∨ (i = 3 ∧ h = 0) := by
  intro i h hr
  induction hr with
  | zero => exact .inl ⟨rfl, rfl⟩
  | step hr hx hl hn ih =>
    rcases ih with ⟨rfl, rfl⟩ | ⟨rfl, rfl⟩ | ⟨rfl, rfl⟩ | ⟨rfl, rfl⟩
    · cases hx
      rw [show leaveR cE cEu.stack ⟨0, 1⟩ 0 = (0, true) by decide +kernel] at hl
      cases hl
      simp [behindR] at hn
      subst hn
      exact .inr (.inl ⟨rfl, rfl⟩)
    · cases hx
      rw [show leaveR cE cEu.stack ⟨1, 2⟩ 0 = (1, true) by decide +kernel] at hl
      cases hl
      simp [behindR] at hn
      subst hn
      exact .inr (.inr (.inl ⟨rfl, rfl⟩))
    · cases hx
      rw [show leaveR cE cEu.stack ⟨34, 1⟩ 1 = (0, true) by decide +kernel] at hl
      cases hl
      simp [behindR] at hn
      subst hn
      exact .inr (.inr (.inr ⟨rfl, rfl⟩))
    · cases hx
      simp [behindR] at hn
theorem cE_r1 : Rch cE cEu 1 0 := .step .zero (x := ⟨0, 1⟩) rfl (by decide +kernel) (by simp [behindR])
theorem cE_r2 : Rch cE cEu 2 1 := .step cE_r1 (x := ⟨1, 2⟩) rfl (by decide +kernel) (by simp [behindR])
theorem cE_r3 : Rch cE cEu 3 0 := .step cE_r2 (x := ⟨34, 1⟩) rfl (by decide +kernel) (by simp [behindR])
theorem cE_rightH : RightH cE cEu := by
  refine ⟨fun i h hr => ?_, fun i h h' hr hr' => ?_⟩
  · rcases cE_rch i h hr with ⟨rfl, rfl⟩ | ⟨rfl, rfl⟩ | ⟨rfl, rfl⟩ | ⟨rfl, rfl⟩
    · exact ⟨⟨0, 1⟩, rfl, by decide +kernel⟩
    · exact ⟨⟨1, 2⟩, rfl, by decide +kernel⟩
    · exact ⟨⟨34, 1⟩, rfl, by decide +kernel⟩
    · exact ⟨⟨23, 0⟩, rfl, by decide +kernel⟩
  · rcases cE_rch i h hr with ⟨rfl, rfl⟩ | ⟨rfl, rfl⟩ | ⟨rfl, rfl⟩ | ⟨rfl, rfl⟩ <;> rcases cE_rch _ h' hr' with ⟨h1, h2⟩ | ⟨h1, h2⟩ | ⟨h1, h2⟩ | ⟨h1, h2⟩ <;> first | exact h2.symm | cases h1
theorem cE_hts : hts cE cEu = [0, 0, 1, 0] := by
  show [htR cE cEu 0, htR cE cEu 1, htR cE cEu 2, htR cE cEu 3] = _
  rw [htR_of cE_rightH .zero, htR_of cE_rightH cE_r1, htR_of cE_rightH cE_r2, htR_of cE_rightH cE_r3]
theorem cE_out : outR cE = true := by kernel_rfl
theorem cE_unit : unitR 0 0 1 cEu = true := by kernel_rfl
theorem cB_unit : unitR 0 0 1 cBu = false := by kernel_rfl
theorem cE_right : rightC cE = true := by
  unfold rightC
  rw [cE_out]
  simp [cE, cE_unit, rchR_iff]
  exact cE_rightH
theorem cB_right : rightC cB = false := by
  unfold rightC
  simp [cB, cB_unit]
theorem cE_bytes : (cdB cE).length ≤ 140737488355328 := by
  decide +kernel
theorem cE_list : listT cE = [[102, 110, 32, 109, 97, 105, 110], [48, 32, 109, 97, 114, 107, 32, 49], [49, 32, 105, 110, 116, 32, 50], [50, 32, 112, 114, 105, 110, 116, 32, 49], [51, 32, 114, 101, 116, 117, 114, 110, 32, 48]] := by kernel_rfl
theorem cE_load : rCode (cdB cE) = (cE, (cdB cE).length, 0) := by kernel_rfl
theorem cE_ldE : ldE (cdB cE) = 0 := by kernel_rfl
/-- The example lies in memory. -/
theorem cE_in {N : Nat} {e : Ending} {w' : World} (h : ExAt N e w') : CodeIn (fun q => N ≤ q ∧ q < w'.heap.size) w' cE (.slice none 0 0) (.slice none 0 0) (.slice (some ⟨N + 2, 0, none⟩) 1 1) := by
  obtain ⟨-, h1, h2⟩ := h
  have l1 := heap_lt h1
  have l2 := heap_lt h2
  have ml : (4 : Nat) ≤ maxLen := by decide
  refine ⟨⟨none, 0, rfl, by simp [cE], by omega, .inl rfl⟩, ⟨none, 0, rfl, by simp [cE], by omega, .inl rfl⟩, ⟨_, 1, rfl, by simp [cE], by omega, .inr ⟨N + 2, 0, rfl, ⟨by omega, l2⟩, l2, fun j hj => ?_⟩⟩⟩
  obtain rfl : j = 0 := by simp [cE] at hj; exact hj
  refine ⟨by simp only [World.cell?, h2]; rfl, by simp only [World.cell?, h2]; rfl, by simp only [World.cell?, h2]; rfl, by simp only [World.cell?, h2]; rfl, by simp only [World.cell?, h2]; rfl, ⟨.slice (some ⟨N + 1, 0, none⟩) 4 4, by simp only [World.cell?, h2]; rfl, ?_⟩, ⟨.slice none 0 0, by simp only [World.cell?, h2]; rfl, ⟨none, 0, rfl, by simp [cE, cEu], by omega, .inl rfl⟩⟩⟩
  refine ⟨_, 4, rfl, by simp [cE, cEu], by omega, .inr ⟨N + 1, 0, rfl, ⟨by omega, l1⟩, l1, fun j hj => ?_⟩⟩
  have hj4 : j < 4 := hj
  match j, hj4 with
  | 0, _ => exact ⟨by simp only [World.cell?, h1]; rfl, by simp only [World.cell?, h1]; rfl⟩
  | 1, _ => exact ⟨by simp only [World.cell?, h1]; rfl, by simp only [World.cell?, h1]; rfl⟩
  | 2, _ => exact ⟨by simp only [World.cell?, h1]; rfl, by simp only [World.cell?, h1]; rfl⟩
  | 3, _ => exact ⟨by simp only [World.cell?, h1]; rfl, by simp only [World.cell?, h1]; rfl⟩
end Go.Proofs.YtechkkphbajmoaaGreatDoor
