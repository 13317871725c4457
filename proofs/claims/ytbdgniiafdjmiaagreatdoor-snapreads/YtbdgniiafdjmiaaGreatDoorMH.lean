import Derived.Test.YtbdgniiafdjmiaaGreatDoorHAnew
import Derived.Test.YtbdgniiafdjmiaaGreatDoorWAll
import Derived.BigRegion
import Derived.Lib.MinMax
/- heap: New; is one there; what it uses; an object's size. -/
namespace Go.Proofs.YtbdgniiafdjmiaaGreatDoor
open Go.RowKit Go.Shelf

theorem below_drewH {n : Nat} {w w' : World} (h : Below n w w') (k : Nat) : Below n w (w'.drewN k) := h.trans (⟨rfl, rfl, rfl, Nat.le_refl _, fun _ _ => rfl⟩ : Below n w' (w'.drewN k))

set_option maxRecDepth 100000 in
set_option maxHeartbeats 1000000 in
theorem uses_any (tag : ByteArray) (b : Option Addr) (n c : Nat) (hn : n ≤ 9223372036854775000) (w : World) :
    Calls Tryz.prog 105 #[.agg #[.string tag, .slice b n c]] w fun e w' => e = .returned (.int .i64 (1 + (n : Int))) ∧ Below w.heap.size w w' := by
  go_enter Tryz.func105, Tryz.ntmps105
  go_wp2
  go_ret
  exact ⟨rfl, (Below.refl _ w).alloc (Nat.le_refl _) _⟩

/-- Has an object of n cells one at i? -/
def hasB (i : Int) (n : Nat) : Bool := decide (0 ≤ i ∧ i < n)

end Go.Proofs.YtbdgniiafdjmiaaGreatDoor
/- heap: the object to which a value refers. -/
namespace Go.Proofs.YtbdgniiafdjmiaaGreatDoor
open Go.RowKit Go.Shelf

/-- The block of a value, and one for an object that is found. -/
abbrev findW (w : World) (v : Vl) : World := (w.alloc (.cells #[.int .i64 v.k, .int .i64 v.n, .string (strB v.s)] 54)).alloc (.cells #[.string ⟨#[]⟩, .int .i64 0, .int .i64 0] 167)

theorem findW_facts (w : World) (v : Vl) : (findW w v).heap.size = w.heap.size + 2 ∧ Below w.heap.size w (findW w v) ∧ (findW w v).heap[w.heap.size]? = some (.cells #[.int .i64 v.k, .int .i64 v.n, .string (strB v.s)] 54 (0, 0)) ∧ (findW w v).heap[w.heap.size + 1]? = some (.cells #[.string ⟨#[]⟩, .int .i64 0, .int .i64 0] 167 (0, 0)) := by
  refine ⟨by simp, ((Below.refl _ w).alloc (Nat.le_refl _) _).alloc (by simp) _, ?_, ?_⟩
  · rw [Below.heap_alloc _ _ _ (by simp)]; exact World.alloc_heap_new _ _
  · have := World.alloc_heap_new (w.alloc (.cells #[.int .i64 v.k, .int .i64 v.n, .string (strB v.s)] 54)) (.cells #[.string ⟨#[]⟩, .int .i64 0, .int .i64 0] 167)
    simpa using this

/-- No object. -/
abbrev noO : Value := .agg #[.string ⟨#[]⟩, .int .i64 0, .int .i64 0]

theorem set3_below {B N : Nat} {a w : World} (h : Below B a w) (hN : B ≤ N) (x y z : Value) : Below B a (((w.setCell ⟨N, 0, none⟩ x).setCell ⟨N, 1, none⟩ y).setCell ⟨N, 2, none⟩ z) :=
  ((h.setCell (p := ⟨N, 0, none⟩) hN x).setCell (p := ⟨N, 1, none⟩) hN y).setCell (p := ⟨N, 2, none⟩) hN z
theorem set3_cells {w : World} {N : Nat} {x0 x1 x2 : Value} {ty : TypeId} (h : w.heap[N]? = some (.cells #[x0, x1, x2] ty (0, 0))) (x y z : Value) :
    (((w.setCell ⟨N, 0, none⟩ x).setCell ⟨N, 1, none⟩ y).setCell ⟨N, 2, none⟩ z).cell? ⟨N, 0, none⟩ = some x ∧ (((w.setCell ⟨N, 0, none⟩ x).setCell ⟨N, 1, none⟩ y).setCell ⟨N, 2, none⟩ z).cell? ⟨N, 1, none⟩ = some y ∧ (((w.setCell ⟨N, 0, none⟩ x).setCell ⟨N, 1, none⟩ y).setCell ⟨N, 2, none⟩ z).cell? ⟨N, 2, none⟩ = some z := by
  obtain ⟨a, b, c, -⟩ := cellsH3 (x0 := x) (x1 := y) (x2 := z) (setCellH_block (j := 2) z (setCellH_block (j := 1) y (setCellH_block (j := 0) x h)))
  exact ⟨a, b, c⟩

/-- An object where it is found. -/
abbrev foundO (os : List Ob) (i : Nat) (h : i < os.length) : Value := .agg #[.string (strB (os[i]).1), .int .i64 ((fromO os i : Nat) : Int), .int .i64 ((fromO os i + (os[i]).2.length : Nat) : Int)]

end Go.Proofs.YtbdgniiafdjmiaaGreatDoor
/- heap: an object's cells where they stand. -/
namespace Go.Proofs.YtbdgniiafdjmiaaGreatDoor
open Go.RowKit Go.Shelf

end Go.Proofs.YtbdgniiafdjmiaaGreatDoor
/- heap: New. -/
namespace Go.Proofs.YtbdgniiafdjmiaaGreatDoor
open Go.RowKit Go.Shelf

/-- What a heap may use. -/
def mostN (m : Int) : Nat := (min (max m 0) 4096).toNat
theorem mostN_int (m : Int) : ((mostN m : Nat) : Int) = min (max m 0) 4096 := by unfold mostN; omega
theorem mostN_le (m : Int) : mostN m ≤ 4096 := by unfold mostN; omega

theorem HpIn.made (w : World) (m : Nat) (hm : m ≤ 4096) : HpIn (fun k => w.heap.size ≤ k) (w.alloc (.cells #[.bool true, .int .i64 (m : Int), .slice none 0 0, .slice none 0 0] 153)) m [] w.heap.size (.slice none 0 0) (.slice none 0 0) where
  blk := World.alloc_heap_new _ _
  objs := World.ownsRow_nil _ _ _ _
  cells := World.ownsRow_nil _ _ _ _
  sh := Nat.le_refl _
  so := fun k e => by simp [Value.ownBlock] at e
  sc := fun k e => by simp [Value.ownBlock] at e
  ok := fun o ho => by cases ho
  use := Nat.zero_le _
  may := hm

set_option maxRecDepth 100000 in
set_option maxHeartbeats 1000000 in
theorem new_any (m : Int) (w : World) :
    Calls Tryz.prog 106 #[.int .i64 m] w fun e w' => e = .returned (.pointer (some ⟨w.heap.size, 0, none⟩)) ∧ HpIn (fun k => w.heap.size ≤ k) w' (mostN m) [] w.heap.size (.slice none 0 0) (.slice none 0 0) ∧ Below w.heap.size w w' := by
  have HM := HpIn.made w (mostN m) (mostN_le m)
  rw [mostN_int] at HM
  have HMM : Hid (HpIn (fun k => w.heap.size ≤ k) (w.alloc (.cells #[.bool true, .int .i64 (min (max m 0) 4096), .slice none 0 0, .slice none 0 0] 153)) (mostN m) [] w.heap.size (.slice none 0 0) (.slice none 0 0)) := HM
  clear HM
  go_enter Tryz.func106, Tryz.ntmps106
  go_wp2
  go_ret
  exact ⟨rfl, HMM.out, (Below.refl _ w).alloc (Nat.le_refl _) _⟩
end Go.Proofs.YtbdgniiafdjmiaaGreatDoor
