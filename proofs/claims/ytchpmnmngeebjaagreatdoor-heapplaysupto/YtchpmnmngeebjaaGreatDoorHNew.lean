/- heap: New. -/
import Derived.Test.YtchpmnmngeebjaaGreatDoorHCells
import Derived.Lib.MinMax
namespace Go.Proofs.YtchpmnmngeebjaaGreatDoor
open Go.RowKit Go.Shelf

/-- What a heap may use. -/
def mostN (m : Int) : Nat := (min (max m 0) 4096).toNat
theorem mostN_int (m : Int) : ((mostN m : Nat) : Int) = min (max m 0) 4096 := by unfold mostN; omega
theorem mostN_le (m : Int) : mostN m ≤ 4096 := by unfold mostN; omega

theorem HpIn.made (w : World) (m : Nat) (hm : m ≤ 4096) : HpIn (fun k => w.heap.size ≤ k) (w.alloc (.cells #[.bool true, .int .i64 (m : Int), .slice none 0 0, .slice none 0 0] 45)) m [] w.heap.size (.slice none 0 0) (.slice none 0 0) where
  blk := World.alloc_heap_new _ _
  objs := World.ownsRow_nil _ _ _ _
  cells := World.ownsRow_nil _ _ _ _
  sh := Nat.le_refl _
  so := fun k e => by simp [Value.ownBlock] at e
  sc := fun k e => by simp [Value.ownBlock] at e
  ok := fun o ho => by cases ho
  use := Nat.zero_le _
  may := hm

set_option maxRecDepth 100000 in
set_option maxHeartbeats 1000000 in
theorem new_any (m : Int) (w : World) :
    Calls Tryz.prog 4 #[.int .i64 m] w fun e w' => e = .returned (.pointer (some ⟨w.heap.size, 0, none⟩)) ∧ HpIn (fun k => w.heap.size ≤ k) w' (mostN m) [] w.heap.size (.slice none 0 0) (.slice none 0 0) ∧ Below w.heap.size w w' := by
  have HM := HpIn.made w (mostN m) (mostN_le m)
  rw [mostN_int] at HM
  have HMM : Hid (HpIn (fun k => w.heap.size ≤ k) (w.alloc (.cells #[.bool true, .int .i64 (min (max m 0) 4096), .slice none 0 0, .slice none 0 0] 45)) (mostN m) [] w.heap.size (.slice none 0 0) (.slice none 0 0)) := HM
  clear HM
  go_enter Tryz.func4, Tryz.ntmps4
  go_wp2
  go_ret
  exact ⟨rfl, HMM.out, (Below.refl _ w).alloc (Nat.le_refl _) _⟩
end Go.Proofs.YtchpmnmngeebjaaGreatDoor
