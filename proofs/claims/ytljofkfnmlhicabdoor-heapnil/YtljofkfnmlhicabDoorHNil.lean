/- heap: each call of no heap. -/
import Derived.Test.YtljofkfnmlhicabDoorHLives
namespace Go.Proofs.YtljofkfnmlhicabDoor
open Go.RowKit Go.Shelf

/-- No heap, or one that nothing made. -/
def NoHp (w : World) (hv : Value) : Prop := hv = .pointer none ∨ ∃ h, hv = .pointer (some ⟨h, 0, none⟩) ∧ h < w.heap.size ∧ w.cell? ⟨h, 0, none⟩ = some (.bool false)
theorem NoHp.below {w w' : World} {hv : Value} (h : NoHp w hv) (hb : Below w.heap.size w w') : NoHp w' hv := by
  rcases h with h | ⟨h, e, hlt, hc⟩
  · exact .inl h
  · exact .inr ⟨h, e, Nat.lt_of_lt_of_le hlt hb.size, (below_cell hb hlt).trans hc⟩
theorem isThere_no (w : World) (hv : Value) (h : NoHp w hv) : Calls Tryd.prog 14 #[hv] w fun e w' => e = .returned (.bool false) ∧ w = w' := by
  rcases h with rfl | ⟨h, rfl, -, hc⟩
  · exact isThere_nil w
  · exact isThere_bare h w hc

set_option maxRecDepth 100000 in
set_option maxHeartbeats 2000000 in
theorem alloc_no (w : World) (hv : Value) (s : ByteArray) (h : NoHp w hv) : Calls Tryd.prog 4 #[hv, .string s, .slice none 0 0] w fun e w' => e = .returned (.tuple #[vlV ⟨0, 0, []⟩, .int .i64 1]) ∧ Below w.heap.size w w' := by
  have hb2 : Below w.heap.size w ((w.alloc (.cells #[.int .i64 0, .int .i64 0, .string ⟨#[]⟩] 24)).alloc (.cells #[.string s, .slice none 0 0] 47)) := ((Below.refl _ w).alloc (Nat.le_refl _) _).alloc (by simp) _
  have ci := isThere_no _ hv (h.below hb2)
  have HB2 : Hid (Below w.heap.size w ((w.alloc (.cells #[.int .i64 0, .int .i64 0, .string ⟨#[]⟩] 24)).alloc (.cells #[.string s, .slice none 0 0] 47))) := hb2
  clear hb2 h
  go_enter Tryd.func4, Tryd.ntmps4
  go_wp2_with fail
  refine ci.mono ?_
  clear ci
  rintro e w3 ⟨rfl, rfl⟩
  go_wp2
  exact bodyPost_ret (v := .tuple #[vlV ⟨0, 0, []⟩, .int .i64 1]) (by simp [results, Tryd.results4, go_sem]) rfl ⟨rfl, HB2.out⟩

set_option maxRecDepth 100000 in
set_option maxHeartbeats 2000000 in
theorem find_nil (w : World) (hv : Value) (v : Vl) (h : NoHp w hv) : Calls Tryd.prog 18 #[hv, vlV v] w fun e w' => e = .returned (.tuple #[noO, .int .i64 1]) ∧ Below w.heap.size w w' := by
  obtain ⟨-, hb2, -, -⟩ := findW_facts w v
  have ci := isThere_no _ hv (h.below hb2)
  have HB2 : Hid (Below w.heap.size w (findW w v)) := hb2
  obtain ⟨k, m, s⟩ := v
  clear hb2 h
  go_enter Tryd.func18, Tryd.ntmps18
  go_wp2_with fail
  refine ci.mono ?_
  clear ci
  rintro e w3 ⟨rfl, rfl⟩
  go_wp2
  exact bodyPost_ret (v := .tuple #[noO, .int .i64 1]) (by simp [results, Tryd.results18, go_sem]) rfl ⟨rfl, HB2.out⟩

set_option maxRecDepth 100000 in
set_option maxHeartbeats 2000000 in
theorem get_nil (w : World) (hv : Value) (v : Vl) (i : Int) (h : NoHp w hv) : Calls Tryd.prog 5 #[hv, vlV v, .int .i64 i] w fun e w' => e = .returned (.tuple #[vlV ⟨0, 0, []⟩, .int .i64 1]) ∧ Below w.heap.size w w' := by
  obtain ⟨hz2, hb2, b0, b1⟩ := getW_facts w v
  obtain ⟨w2, hw2⟩ : ∃ w2, w2 = getW w v := ⟨_, rfl⟩
  rw [← hw2] at hz2 hb2 b0 b1
  have cf := find_nil w2 hv v (h.below hb2)
  obtain ⟨p0, p1, p2, -⟩ := cellsH3 b0
  have HB2 : Hid (Below w.heap.size w w2) := hb2
  have HB1 : Hid (w2.heap[w.heap.size + 1]? = some (.cells #[.int .i64 0, .int .i64 0, .string ⟨#[]⟩] 24 (0, 0))) := b1
  obtain ⟨k, m, s⟩ := v
  have hw2' := hw2.symm
  unfold getW at hw2'
  unfold noO at cf
  clear hb2 b0 b1 hw2 h
  go_enter Tryd.func5, Tryd.ntmps5
  go_wp2_with fail
  refine cf.mono ?_
  clear cf
  rintro e w3 ⟨rfl, hb3⟩
  have hs3 := hb3.size
  have b1 : (w3.alloc (.cells #[.string ⟨#[]⟩, .int .i64 0, .int .i64 0] 52)).heap[w.heap.size + 1]? = some (.cells #[.int .i64 0, .int .i64 0, .string ⟨#[]⟩] 24 (0, 0)) := (Below.heap_alloc _ _ _ (by omega)).trans ((hb3.block _ (by omega)).trans HB1.out)
  have HB4 : Hid (Below w.heap.size w (w3.alloc (.cells #[.string ⟨#[]⟩, .int .i64 0, .int .i64 0] 52))) := (HB2.out.trans (hb3.mono (by omega))).alloc (by omega) _
  obtain ⟨r0, r1, r2, rf⟩ := cellsH3 b1
  obtain ⟨z0, z1, z2⟩ := set3_cells b1 (.int .i64 0) (.int .i64 0) (.string ⟨#[]⟩)
  have HB5 : Hid (Below w.heap.size w ((((w3.alloc (.cells #[.string ⟨#[]⟩, .int .i64 0, .int .i64 0] 52)).setCell ⟨w.heap.size + 1, 0, none⟩ (.int .i64 0)).setCell ⟨w.heap.size + 1, 1, none⟩ (.int .i64 0)).setCell ⟨w.heap.size + 1, 2, none⟩ (.string ⟨#[]⟩))) := set3_below HB4.out (by omega) _ _ _
  clear b1 hb3
  go_wp2
  exact bodyPost_ret (v := .tuple #[vlV ⟨0, 0, []⟩, .int .i64 1]) (by simp [results, Tryd.results5, go_sem, z0, z1, z2]) rfl ⟨rfl, HB5.out⟩

set_option maxRecDepth 100000 in
set_option maxHeartbeats 2000000 in
theorem set_nil (w : World) (hv : Value) (v x : Vl) (i : Int) (h : NoHp w hv) : Calls Tryd.prog 8 #[hv, vlV v, .int .i64 i, vlV x] w fun e w' => e = .returned (.int .i64 1) ∧ Below w.heap.size w w' := by
  obtain ⟨hz2, hb2, b0, b1⟩ := setW_facts w v x
  obtain ⟨w2, hw2⟩ : ∃ w2, w2 = setW w v x := ⟨_, rfl⟩
  rw [← hw2] at hz2 hb2 b0 b1
  have cf := find_nil w2 hv v (h.below hb2)
  obtain ⟨p0, p1, p2, -⟩ := cellsH3 b0
  have HB2 : Hid (Below w.heap.size w w2) := hb2
  obtain ⟨k, m, s⟩ := v
  obtain ⟨xk, xm, xs⟩ := x
  have hw2' := hw2.symm
  unfold setW at hw2'
  unfold noO at cf
  clear hb2 b0 b1 hw2 h
  go_enter Tryd.func8, Tryd.ntmps8
  go_wp2_with fail
  refine cf.mono ?_
  clear cf
  rintro e w3 ⟨rfl, hb3⟩
  have hs3 := hb3.size
  have HB4 : Hid (Below w.heap.size w (w3.alloc (.cells #[.string ⟨#[]⟩, .int .i64 0, .int .i64 0] 52))) := (HB2.out.trans (hb3.mono (by omega))).alloc (by omega) _
  clear hb3
  go_wp2
  go_ret
  exact ⟨rfl, HB4.out⟩

theorem boxV_facts (w : World) (v : Vl) : (w.alloc (.cells #[.int .i64 v.k, .int .i64 v.n, .string (strB v.s)] 24)).heap.size = w.heap.size + 1 ∧ Below w.heap.size w (w.alloc (.cells #[.int .i64 v.k, .int .i64 v.n, .string (strB v.s)] 24)) := ⟨by simp, (Below.refl _ w).alloc (Nat.le_refl _) _⟩

set_option maxRecDepth 100000 in
set_option maxHeartbeats 2000000 in
theorem len_nil (w : World) (hv : Value) (v : Vl) (h : NoHp w hv) : Calls Tryd.prog 6 #[hv, vlV v] w fun e w' => e = .returned (.tuple #[.int .i64 0, .int .i64 1]) ∧ Below w.heap.size w w' := by
  obtain ⟨-, hb2⟩ := boxV_facts w v
  have cf := find_nil _ hv v (h.below hb2)
  obtain ⟨k, m, s⟩ := v
  have HB2 : Hid (Below w.heap.size w (w.alloc (.cells #[.int .i64 k, .int .i64 m, .string (strB s)] 24))) := hb2
  unfold noO at cf
  clear hb2 h
  go_enter Tryd.func6, Tryd.ntmps6
  go_wp2_with fail
  refine cf.mono ?_
  clear cf
  rintro e w3 ⟨rfl, hb3⟩
  have hs3 : w.heap.size + 1 ≤ w3.heap.size := by have := hb3.size; simpa using this
  have HB4 : Hid (Below w.heap.size w (w3.alloc (.cells #[.string ⟨#[]⟩, .int .i64 0, .int .i64 0] 52))) := (HB2.out.trans (hb3.mono (by simp))).alloc (by omega) _
  have cs := size_any ⟨#[]⟩ 0 0 0 (by omega) (by omega) (by simp) (w3.alloc (.cells #[.string ⟨#[]⟩, .int .i64 0, .int .i64 0] 52))
  clear hb3
  go_wp2_with fail
  refine cs.mono ?_
  clear cs
  rintro e w5 ⟨rfl, hb5⟩
  have HB5 : Hid (Below w.heap.size w w5) := HB4.out.trans (hb5.mono (by simp; omega))
  clear hb5
  go_wp2
  go_ret2
  exact ⟨rfl, HB5.out⟩

set_option maxRecDepth 100000 in
set_option maxHeartbeats 2000000 in
theorem tag_nil (w : World) (hv : Value) (v : Vl) (h : NoHp w hv) : Calls Tryd.prog 7 #[hv, vlV v] w fun e w' => e = .returned (.tuple #[.string ⟨#[]⟩, .int .i64 1]) ∧ Below w.heap.size w w' := by
  obtain ⟨-, hb2⟩ := boxV_facts w v
  have cf := find_nil _ hv v (h.below hb2)
  obtain ⟨k, m, s⟩ := v
  have HB2 : Hid (Below w.heap.size w (w.alloc (.cells #[.int .i64 k, .int .i64 m, .string (strB s)] 24))) := hb2
  unfold noO at cf
  clear hb2 h
  go_enter Tryd.func7, Tryd.ntmps7
  go_wp2_with fail
  refine cf.mono ?_
  clear cf
  rintro e w3 ⟨rfl, hb3⟩
  have hs3 : w.heap.size + 1 ≤ w3.heap.size := by have := hb3.size; simpa using this
  have HB4 : Hid (Below w.heap.size w (w3.alloc (.cells #[.string ⟨#[]⟩, .int .i64 0, .int .i64 0] 52))) := (HB2.out.trans (hb3.mono (by simp))).alloc (by omega) _
  have cs := clone_str [] (w3.alloc (.cells #[.string ⟨#[]⟩, .int .i64 0, .int .i64 0] 52)) (by simp)
  clear hb3
  go_wp2_with fail
  refine cs.mono ?_
  clear cs
  rintro e w5 ⟨rfl, hb5⟩
  have HB5 : Hid (Below w.heap.size w w5) := HB4.out.trans (hb5.mono (by simp; omega))
  clear hb5
  go_wp2
  go_ret2
  exact ⟨rfl, HB5.out⟩

set_option maxRecDepth 100000 in
set_option maxHeartbeats 2000000 in
theorem used_nil (w : World) (hv : Value) (h : NoHp w hv) : Calls Tryd.prog 9 #[hv] w fun e w' => e = .returned (.int .i64 0) ∧ Below w.heap.size w w' := by
  have ci := isThere_no w hv h
  clear h
  go_enter Tryd.func9, Tryd.ntmps9
  go_wp2_with fail
  refine ci.mono ?_
  clear ci
  rintro e w3 ⟨rfl, rfl⟩
  go_wp2
  go_ret
  exact ⟨rfl, Below.refl _ _⟩

set_option maxRecDepth 100000 in
set_option maxHeartbeats 2000000 in
theorem all_nil (w : World) (hv : Value) (h : NoHp w hv) : Calls Tryd.prog 10 #[hv] w fun e w' => e = .returned (.slice none 0 0) ∧ Below w.heap.size w w' := by
  have ci := isThere_no w hv h
  clear h
  go_enter Tryd.func10, Tryd.ntmps10
  go_wp2_with fail
  refine ci.mono ?_
  clear ci
  rintro e w3 ⟨rfl, rfl⟩
  go_wp2
  go_ret
  exact ⟨rfl, Below.refl _ _⟩

set_option maxRecDepth 100000 in
set_option maxHeartbeats 2000000 in
theorem copy_nil (w : World) (hv : Value) (h : NoHp w hv) : Calls Tryd.prog 11 #[hv] w fun e w' => e = .returned (.pointer none) ∧ Below w.heap.size w w' := by
  have ci := isThere_no w hv h
  clear h
  go_enter Tryd.func11, Tryd.ntmps11
  go_wp2_with fail
  refine ci.mono ?_
  clear ci
  rintro e w3 ⟨rfl, rfl⟩
  go_wp2
  go_ret
  exact ⟨rfl, Below.refl _ _⟩

set_option maxRecDepth 100000 in
set_option maxHeartbeats 2000000 in
theorem show_nil (w : World) (hv : Value) (v : Vl) (h : NoHp w hv) : Calls Tryd.prog 12 #[hv, vlV v] w fun e w' => e = .returned (.string ⟨#[]⟩) ∧ Below w.heap.size w w' := by
  obtain ⟨w1, hw1⟩ : ∃ w1, w1 = w.alloc (.cells #[.int .i64 v.k, .int .i64 v.n, .string (strB v.s)] 24) := ⟨_, rfl⟩
  have hs1 : w1.heap.size = w.heap.size + 1 := by rw [hw1]; simp
  have hb1 : Below w.heap.size w w1 := by rw [hw1]; exact (Below.refl _ _).alloc (Nat.le_refl _) _
  have HC : Hid (∀ wx, Below w1.heap.size w1 wx → Calls Tryd.prog 14 #[hv] wx fun e w'' => e = .returned (.bool false) ∧ Below w1.heap.size w1 w'') := fun wx hx =>
    (isThere_no wx hv ((h.below hb1).below hx)).mono fun e w'' ⟨he, hb⟩ => ⟨he, hb ▸ hx⟩
  have HB1 : Hid (Below w.heap.size w w1) := hb1
  obtain ⟨k, m, s⟩ := v
  have hw1' := hw1.symm
  clear hb1 hw1 h
  go_enter Tryd.func12, Tryd.ntmps12
  go_wp2_with fail
  refine wp_region_cls (n := w1.heap.size) (w0 := w1) (Below.refl _ _) (by kernel_rfl) (by kernel_rfl) ?_
  go_big_quiet_step (fail)
  go_big_quiet_step (exact cls_calls HC.out _)
  iterate 11 (go_big_quiet_step (fail))
  refine wpQuiet_nil ?_
  rintro _ ⟨c, rfl⟩
  have HBc : Hid (Below w.heap.size w c.1) := HB1.out.trans (c.2.mono (by omega))
  go_wp2
  go_ret
  exact ⟨rfl, HBc.out⟩
end Go.Proofs.YtljofkfnmlhicabDoor
