/- lex.Scan, for any text. -/
import Derived.Test.YtjhfkiighphepaaDoorXScan
namespace Go.Proofs.YtjhfkiighphepaaDoor
open Go.RowKit Go.Shelf

attribute [local go_sem] Oper.semAt_some

set_option maxRecDepth 100000 in
set_option maxHeartbeats 2000000 in
theorem scan_big (l : List UInt8) (w : World) (hl : 4096 < l.length) :
    Calls Tryd.prog 7 #[.string (strB l)] w fun e w' => e = .returned (.tuple #[.slice none 0 0, .int .i64 0, .int .i64 5]) ∧ Below w.heap.size w w' := by
  have hsz0 : (strB l).size = l.length := rfl
  have hl' : (4096 : Int) < l.length := by omega
  refine (callsIn_wide (n := 7)).1 ?_
  refine callsIn_of_wp_marks Tryd.func7 rfl trivial ?_ rfl
  simp only [Tryd.ntmps7, List.size_toArray, List.length_cons, List.length_nil, Nat.reduceAdd, Nat.reduceSub, Array.replicate_succ, Array.replicate_zero, List.push_toArray, List.append_toArray, List.nil_append, List.cons_append]
  gi_wp2
  have m0 : Boxed (((w.alloc (.cells #[.slice none 0 0] 22)).alloc (.cells #[.int .i64 0] 3)).alloc (.cells #[.int .i64 5] 23)) w.heap.size 22 (.slice none 0 0) := ((Boxed.new w _ _).alloc _).alloc _
  have m1 : Boxed (((w.alloc (.cells #[.slice none 0 0] 22)).alloc (.cells #[.int .i64 0] 3)).alloc (.cells #[.int .i64 5] 23)) (w.heap.size + 1) 3 (.int .i64 0) := by
    have h := (Boxed.new (w.alloc (.cells #[.slice none 0 0] 22)) 3 (.int .i64 0)).alloc (.cells #[.int .i64 5] 23)
    rw [World.size_alloc] at h; exact h
  have m2 : Boxed (((w.alloc (.cells #[.slice none 0 0] 22)).alloc (.cells #[.int .i64 0] 3)).alloc (.cells #[.int .i64 5] 23)) (w.heap.size + 1 + 1) 23 (.int .i64 5) := by
    have h := Boxed.new ((w.alloc (.cells #[.slice none 0 0] 22)).alloc (.cells #[.int .i64 0] 3)) 23 (.int .i64 5)
    rw [World.size_alloc, World.size_alloc] at h; exact h
  have hB : Below w.heap.size w (((w.alloc (.cells #[.slice none 0 0] 22)).alloc (.cells #[.int .i64 0] 3)).alloc (.cells #[.int .i64 5] 23)) := (((Below.refl _ w).alloc (Nat.le_refl _) _).alloc (by simp) _).alloc (by simp; omega) _
  have c0 := m0.cell
  have c1 := m1.cell
  have c2 := m2.cell
  generalize ((w.alloc (.cells #[.slice none 0 0] 22)).alloc (.cells #[.int .i64 0] 3)).alloc (.cells #[.int .i64 5] 23) = W at c0 c1 c2 hB ⊢
  exact ⟨_, results_cell3 rfl _ _ _ rfl rfl rfl (by simp [go_sem, c0]) (by simp [go_sem, c1]) (by simp [go_sem, c2]), rfl, hB⟩

/-- What Scan answers. -/
theorem scan_any (l : List UInt8) (w : World) (ht : Tabs w) :
    Calls Tryd.prog 7 #[.string (strB l)] w fun e w' => ∃ (r : Value), e = .returned (.tuple #[r, .int .i64 (scanB l).2.1, .int .i64 (scanB l).2.2]) ∧
      w'.ownsRow w.heap.size 33 5 r (scanB l).1.length (tkCells (scanB l).1) ∧ Below w.heap.size w w' := by
  by_cases h : 4096 < l.length
  · refine (scan_big l w h).mono ?_
    rintro e w' ⟨rfl, hB⟩
    unfold scanB
    rw [if_pos h]
    exact ⟨_, rfl, World.ownsRow_nil _ _ _ _, hB⟩
  · refine (scan_in l w (by omega) ht).mono ?_
    rintro e w' hx
    unfold scanB
    rw [if_neg h]
    exact hx
end Go.Proofs.YtjhfkiighphepaaDoor
