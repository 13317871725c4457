/- heap: rows of objects into whose cells anything was written: the rows stand yet. -/
import Derived.Test.YtchpmnmngeebjaaDoorHSame
namespace Go.Proofs.YtchpmnmngeebjaaDoor
open Go.RowKit Go.Shelf

/-- All but the blocks from A up to C is kept; of these the rows of objects are kept, too, and the rows of values are rows of values, as long. -/
structure Shp (A C : Nat) (w wr : World) : Prop where
  kept : KeptS (fun q => A ≤ q ∧ q < C) w wr
  obj : ∀ (q : Nat) (cur : Array Value), w.heap[q]? = some (.cells cur 47 (0, 0)) → wr.heap[q]? = some (.cells cur 47 (0, 0))
  val : ∀ (q : Nat) (cur : Array Value), w.heap[q]? = some (.cells cur 25 (0, 0)) → ∃ cur', wr.heap[q]? = some (.cells cur' 25 (0, 0)) ∧ cur'.size = cur.size

theorem Shp.refl (A C : Nat) (w : World) : Shp A C w w := ⟨KeptS.refl _ _, fun _ _ h => h, fun _ cur h => ⟨cur, h, rfl⟩⟩
theorem Shp.on {A C : Nat} {w wr wx : World} (h : Shp A C w wr) (hb : Below wr.heap.size wr wx) : Shp A C w wx := by
  have hlt : ∀ {q : Nat} {o : Obj}, wr.heap[q]? = some o → q < wr.heap.size := fun h => (Array.getElem?_eq_some_iff.1 h).1
  refine ⟨h.kept.trans (KeptS.of (S := fun _ => False) hb) (fun _ _ h => h.elim), fun q cur hq => ?_, fun q cur hq => ?_⟩
  · have h1 := h.obj q cur hq
    exact (hb.block q (hlt h1)).trans h1
  · obtain ⟨c', h1, h2⟩ := h.val q cur hq
    exact ⟨c', (hb.block q (hlt h1)).trans h1, h2⟩
theorem Shp.set {A C : Nat} {w wr : World} (h : Shp A C w wr) {g j : Nat} {cur : Array Value} (hg : wr.heap[g]? = some (.cells cur 25 (0, 0))) (hA : A ≤ g) (hC : g < C) (v : Value) : Shp A C w (wr.setCell ⟨g, j, none⟩ v) := by
  refine ⟨h.kept.set v (fun _ => ⟨hA, hC⟩), fun q c hq => ?_, fun q c hq => ?_⟩
  · have h1 := h.obj q c hq
    rw [Below.heap_setCell _ _ _ _ (fun e => ?_)]
    · exact h1
    · simp only at e
      subst e
      rw [hg] at h1
      simp at h1
  · obtain ⟨c', h1, h2⟩ := h.val q c hq
    by_cases e : q = g
    · subst e
      rw [hg] at h1
      simp only [Option.some.injEq, Obj.cells.injEq, and_true] at h1
      subst h1
      exact ⟨_, setCellH_block v hg, by simp [h2]⟩
    · exact ⟨c', (Below.heap_setCell _ _ _ _ (by simpa using e)).trans h1, h2⟩
/-- A value is laid there. -/
theorem Shp.set3 {A C : Nat} {w wr : World} (h : Shp A C w wr) {g j0 j1 j2 : Nat} {cur : Array Value} (hg : wr.heap[g]? = some (.cells cur 25 (0, 0))) (hA : A ≤ g) (hC : g < C) (v0 v1 v2 : Value) : Shp A C w (((wr.setCell ⟨g, j0, none⟩ v0).setCell ⟨g, j1, none⟩ v1).setCell ⟨g, j2, none⟩ v2) := by
  have h0 := setCellH_block (j := j0) v0 hg
  have h1 := setCellH_block (j := j1) v1 h0
  exact (((h.set hg hA hC v0).set h0 hA hC v1).set h1 hA hC v2)
/-- A cell of such a row. -/
theorem val_cell {w : World} {g : Nat} {cur : Array Value} {ty : TypeId} (hg : w.heap[g]? = some (.cells cur ty (0, 0))) : (∀ j, j < cur.size → ∃ u, w.cell? ⟨g, j, none⟩ = some u) ∧ ∀ j, w.frozen? ⟨g, j, none⟩ = false := by
  refine ⟨fun j hj => ?_, fun j => ?_⟩
  · exact ⟨cur[j], by simp only [World.cell?, hg]; simp [hj]⟩
  · simp only [World.frozen?, hg]; simp
/-- The row of an owned row of values, one of which is there. -/
theorem own_block {w : World} {B e sz n : Nat} {v : Value} {xs : List Value} (h : w.ownsRow B e sz v n xs) (hn : 1 ≤ n) : ∃ g cap cur, v = .slice (some ⟨g, 0, none⟩) n cap ∧ B ≤ g ∧ w.heap[g]? = some (.cells cur e (0, 0)) ∧ n * sz ≤ cur.size := by
  rcases h.2 with ⟨-, h0⟩ | ⟨g, cap, cur, rfl, hg, hh, h1, h2, h3, h4⟩
  · omega
  · refine ⟨g, cap, cur, rfl, hg, hh, ?_⟩
    have e1 := h.1
    have e2 := congrArg List.length h4
    rw [List.length_take] at e2
    simp at e2
    omega
end Go.Proofs.YtchpmnmngeebjaaDoor
