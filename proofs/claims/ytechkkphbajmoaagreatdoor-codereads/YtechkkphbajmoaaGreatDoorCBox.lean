/- code: parameters that are boxed. -/
import Derived.Test.YtechkkphbajmoaaGreatDoorCBounds
namespace Go.Proofs.YtechkkphbajmoaaGreatDoor
open Go.RowKit Go.Shelf

theorem box1 (w : World) (A : Obj) : ∃ w1, w1 = w.alloc A ∧ Below w.heap.size w w1 ∧ Hid (w1.heap.size = w.heap.size + 1) ∧ w1.heap[w.heap.size]? = some A :=
  ⟨_, rfl, (Below.refl _ _).alloc (Nat.le_refl _) _, by show _ = _; simp, World.alloc_heap_new _ _⟩
theorem box2 (w : World) (A B : Obj) : ∃ w1, w1 = (w.alloc A).alloc B ∧ Below w.heap.size w w1 ∧ Hid (w1.heap.size = w.heap.size + 2) ∧ w1.heap[w.heap.size]? = some A ∧ w1.heap[w.heap.size + 1]? = some B :=
  ⟨_, rfl, ((Below.refl _ _).alloc (Nat.le_refl _) _).alloc (by simp) _, by show _ = _; simp, by rw [Below.heap_alloc _ _ _ (by simp)]; exact World.alloc_heap_new _ _, by
    have := World.alloc_heap_new (w.alloc A) B
    simpa using this⟩
theorem box3 (w : World) (A B C : Obj) : ∃ w1, w1 = ((w.alloc A).alloc B).alloc C ∧ Below w.heap.size w w1 ∧ Hid (w1.heap.size = w.heap.size + 3) ∧ w1.heap[w.heap.size]? = some A ∧ w1.heap[w.heap.size + 1]? = some B ∧ w1.heap[w.heap.size + 2]? = some C :=
  ⟨_, rfl, (((Below.refl _ _).alloc (Nat.le_refl _) _).alloc (by simp) _).alloc (by simp; omega) _, by show _ = _; simp,
    by rw [Below.heap_alloc _ _ _ (by simp; omega), Below.heap_alloc _ _ _ (by simp)]; exact World.alloc_heap_new _ _, by
    rw [Below.heap_alloc _ _ _ (by simp)]
    have := World.alloc_heap_new (w.alloc A) B
    simpa using this, by
    have := World.alloc_heap_new ((w.alloc A).alloc B) C
    simpa using this⟩
theorem bcells2 {w : World} {N : Nat} {x0 x1 : Value} {ty : TypeId} (h : w.heap[N]? = some (.cells #[x0, x1] ty (0, 0))) : w.cell? ⟨N, 0, none⟩ = some x0 ∧ w.cell? ⟨N, 1, none⟩ = some x1 := by
  refine ⟨?_, ?_⟩ <;> (simp only [World.cell?, h]; rfl)
theorem bcells4 {w : World} {N : Nat} {x0 x1 x2 x3 : Value} {ty : TypeId} (h : w.heap[N]? = some (.cells #[x0, x1, x2, x3] ty (0, 0))) : w.cell? ⟨N, 0, none⟩ = some x0 ∧ w.cell? ⟨N, 1, none⟩ = some x1 ∧ w.cell? ⟨N, 2, none⟩ = some x2 ∧ w.cell? ⟨N, 3, none⟩ = some x3 := by
  refine ⟨?_, ?_, ?_, ?_⟩ <;> (simp only [World.cell?, h]; rfl)
end Go.Proofs.YtechkkphbajmoaaGreatDoor
