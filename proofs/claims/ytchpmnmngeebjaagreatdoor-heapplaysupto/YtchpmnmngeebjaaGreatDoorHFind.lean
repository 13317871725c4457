/- heap: the object to which a value refers. -/
import Derived.Test.YtchpmnmngeebjaaGreatDoorHAsk
import Derived.BigRegion
namespace Go.Proofs.YtchpmnmngeebjaaGreatDoor
open Go.RowKit Go.Shelf

/-- The block of a value, and one for an object that is found. -/
abbrev findW (w : World) (v : Vl) : World := (w.alloc (.cells #[.int .i64 v.k, .int .i64 v.n, .string (strB v.s)] 25)).alloc (.cells #[.string ⟨#[]⟩, .int .i64 0, .int .i64 0] 79)

theorem findW_facts (w : World) (v : Vl) : (findW w v).heap.size = w.heap.size + 2 ∧ Below w.heap.size w (findW w v) ∧ (findW w v).heap[w.heap.size]? = some (.cells #[.int .i64 v.k, .int .i64 v.n, .string (strB v.s)] 25 (0, 0)) ∧ (findW w v).heap[w.heap.size + 1]? = some (.cells #[.string ⟨#[]⟩, .int .i64 0, .int .i64 0] 79 (0, 0)) := by
  refine ⟨by simp, ((Below.refl _ w).alloc (Nat.le_refl _) _).alloc (by simp) _, ?_, ?_⟩
  · rw [Below.heap_alloc _ _ _ (by simp)]; exact World.alloc_heap_new _ _
  · have := World.alloc_heap_new (w.alloc (.cells #[.int .i64 v.k, .int .i64 v.n, .string (strB v.s)] 25)) (.cells #[.string ⟨#[]⟩, .int .i64 0, .int .i64 0] 79)
    simpa using this

/-- No object. -/
abbrev noO : Value := .agg #[.string ⟨#[]⟩, .int .i64 0, .int .i64 0]

theorem set3_below {B N : Nat} {a w : World} (h : Below B a w) (hN : B ≤ N) (x y z : Value) : Below B a (((w.setCell ⟨N, 0, none⟩ x).setCell ⟨N, 1, none⟩ y).setCell ⟨N, 2, none⟩ z) :=
  ((h.setCell (p := ⟨N, 0, none⟩) hN x).setCell (p := ⟨N, 1, none⟩) hN y).setCell (p := ⟨N, 2, none⟩) hN z
theorem set3_cells {w : World} {N : Nat} {x0 x1 x2 : Value} {ty : TypeId} (h : w.heap[N]? = some (.cells #[x0, x1, x2] ty (0, 0))) (x y z : Value) :
    (((w.setCell ⟨N, 0, none⟩ x).setCell ⟨N, 1, none⟩ y).setCell ⟨N, 2, none⟩ z).cell? ⟨N, 0, none⟩ = some x ∧ (((w.setCell ⟨N, 0, none⟩ x).setCell ⟨N, 1, none⟩ y).setCell ⟨N, 2, none⟩ z).cell? ⟨N, 1, none⟩ = some y ∧ (((w.setCell ⟨N, 0, none⟩ x).setCell ⟨N, 1, none⟩ y).setCell ⟨N, 2, none⟩ z).cell? ⟨N, 2, none⟩ = some z := by
  obtain ⟨a, b, c, -⟩ := cellsH3 (x0 := x) (x1 := y) (x2 := z) (setCellH_block (j := 2) z (setCellH_block (j := 1) y (setCellH_block (j := 0) x h)))
  exact ⟨a, b, c⟩

set_option maxRecDepth 100000 in
set_option maxHeartbeats 4000000 in
theorem find_no {S : Nat → Prop} {most : Nat} {os : List Ob} {h : Nat} {vo vc : Value} (v : Vl) (w : World) (H : HpIn S w most os h vo vc) (hv : smallV v) (ht : TabsP w) (hno : v.k ≠ 4 ∨ rightV v os.length = false) :
    Calls Tryz.prog 41 #[.pointer (some ⟨h, 0, none⟩), vlV v] w fun e w' => e = .returned (.tuple #[noO, .int .i64 2]) ∧ Below w.heap.size w w' := by
  obtain ⟨hz2, hb2, b0, b1⟩ := findW_facts w v
  obtain ⟨w2, hw2⟩ : ∃ w2, w2 = findW w v := ⟨_, rfl⟩
  rw [← hw2] at hz2 hb2 b0 b1
  have H2 := H.below hb2
  have ci := isThere_any w2 H2
  have hlt := H.lt
  obtain ⟨-, -, c2, -, -⟩ := cells4 H2.blk
  obtain ⟨ob, oc, hvo, ho1, ho2⟩ := own_val H2.objs
  subst hvo
  obtain ⟨p0, p1, p2, -⟩ := cellsH3 b0
  have HB2 : Hid (Below w.heap.size w w2) := hb2
  have hw2' := hw2.symm
  have HB1 : Hid (w2.heap[w.heap.size + 1]? = some (.cells #[.string ⟨#[]⟩, .int .i64 0, .int .i64 0] 79 (0, 0))) := b1
  by_cases hk : v.k = 4
  · have hr : rightV v os.length = false := by rcases hno with h9 | h9; exact absurd hk h9; exact h9
    have HC : Hid (∀ wx, Below w2.heap.size w2 wx → Calls Tryz.prog 30 #[vlV v, .int .i64 (os.length : Int)] wx fun e w'' => e = .returned (.int .i64 2) ∧ Below w2.heap.size w2 w'') := fun wx hx =>
      (check_any v os.length wx hv ((ht.below hb2 (Nat.le_refl _)).below hx (Nat.le_refl _))).mono fun e w'' ⟨he, hb⟩ => ⟨by rw [he, hr]; rfl, hx.trans (hb.mono hx.size)⟩
    obtain ⟨k, m, s⟩ := v
    simp only at hk
    subst hk
    have x0 := cls_cell (n := w2.heap.size) p0 (by simp only; omega)
    have x1 := cls_cell (n := w2.heap.size) p1 (by simp only; omega)
    have x2 := cls_cell (n := w2.heap.size) p2 (by simp only; omega)
    have x3 := cls_cell (n := w2.heap.size) c2 (by simp only; omega)
    clear H H2 hb2 b0 b1 hw2 ht hno hv
    unfold findW at hw2'
    go_enter Tryz.func41, Tryz.ntmps41
    go_wp2_with fail
    refine ci.mono ?_
    clear ci
    rintro e w3 ⟨rfl, rfl⟩
    go_wp2_with fail
    refine wp_region_cls (n := w2.heap.size) (w0 := w2) (Below.refl _ _) (by kernel_rfl) (by kernel_rfl) ?_
    iterate 10 (go_big_quiet_step (fail))
    go_big_quiet_step (exact cls_calls HC.out _)
    iterate 3 (go_big_quiet_step (fail))
    refine wpQuiet_nil ?_
    rintro _ ⟨c, rfl⟩
    have b1 := (c.2.block (w.heap.size + 1) (by omega)).trans HB1.out
    obtain ⟨r0, r1, r2, rf⟩ := cellsH3 b1
    obtain ⟨z0, z1, z2⟩ := set3_cells b1 (.string ⟨#[]⟩) (.int .i64 0) (.int .i64 0)
    have HB3 : Hid (Below w.heap.size w (((c.1.setCell ⟨w.heap.size + 1, 0, none⟩ (.string ⟨#[]⟩)).setCell ⟨w.heap.size + 1, 1, none⟩ (.int .i64 0)).setCell ⟨w.heap.size + 1, 2, none⟩ (.int .i64 0))) := set3_below (HB2.out.trans (c.2.mono (by omega))) (by omega) _ _ _
    clear x0 x1 x2 x3 b1
    go_wp2
    exact bodyPost_ret (v := .tuple #[noO, .int .i64 2]) (by simp [results, Tryz.results41, go_sem, z0, z1, z2]) rfl ⟨rfl, HB3.out⟩
  · obtain ⟨k, m, s⟩ := v
    simp only at hk
    have hkb : (k != 4) = true := by rw [bne_iff_ne]; exact hk
    have hkb2 : (k == 4) = false := by rw [beq_eq_false_iff_ne]; exact hk
    clear H H2 hb2 b0 b1 hw2 ht hno hv
    unfold findW at hw2'
    go_enter Tryz.func41, Tryz.ntmps41
    go_wp2_with fail
    refine ci.mono ?_
    clear ci
    rintro e w3 ⟨rfl, rfl⟩
    go_wp2_with fail
    go_quiet (fail)
    have b1 : (w2.drewN nq).heap[w.heap.size + 1]? = some (.cells #[.string ⟨#[]⟩, .int .i64 0, .int .i64 0] 79 (0, 0)) := HB1.out
    obtain ⟨r0, r1, r2, rf⟩ := cellsH3 b1
    obtain ⟨z0, z1, z2⟩ := set3_cells b1 (.string ⟨#[]⟩) (.int .i64 0) (.int .i64 0)
    have HB3 : Hid (Below w.heap.size w ((((w2.drewN nq).setCell ⟨w.heap.size + 1, 0, none⟩ (.string ⟨#[]⟩)).setCell ⟨w.heap.size + 1, 1, none⟩ (.int .i64 0)).setCell ⟨w.heap.size + 1, 2, none⟩ (.int .i64 0))) := set3_below (below_drewH HB2.out nq) (by omega) _ _ _
    clear b1
    go_wp2
    exact bodyPost_ret (v := .tuple #[noO, .int .i64 2]) (by simp [results, Tryz.results41, go_sem, z0, z1, z2]) rfl ⟨rfl, HB3.out⟩

/-- An object where it is found. -/
abbrev foundO (os : List Ob) (i : Nat) (h : i < os.length) : Value := .agg #[.string (strB (os[i]).1), .int .i64 ((fromO os i : Nat) : Int), .int .i64 ((fromO os i + (os[i]).2.length : Nat) : Int)]

set_option maxRecDepth 100000 in
set_option maxHeartbeats 4000000 in
theorem find_ok {S : Nat → Prop} {most : Nat} {os : List Ob} {h : Nat} {vo vc : Value} (i : Nat) (hi : i < os.length) (w : World) (H : HpIn S w most os h vo vc) (ht : TabsP w) :
    Calls Tryz.prog 41 #[.pointer (some ⟨h, 0, none⟩), vlV ⟨4, i, []⟩] w fun e w' => e = .returned (.tuple #[foundO os i hi, .int .i64 0]) ∧ Below w.heap.size w w' := by
  have huse := H.use
  have hmay := H.may
  obtain ⟨hz2, hb2, b0, b1⟩ := findW_facts w ⟨4, i, []⟩
  obtain ⟨w2, hw2⟩ : ∃ w2, w2 = findW w ⟨4, i, []⟩ := ⟨_, rfl⟩
  rw [← hw2] at hz2 hb2 b0 b1
  have H2 := H.below hb2
  have ci := isThere_any w2 H2
  have hlt := H.lt
  obtain ⟨-, -, c2, -, -⟩ := cells4 H2.blk
  obtain ⟨g, oc, hvo, -, hg, hoc, hcell⟩ := row_cells H2.objs (by omega)
  have hocm : oc ≤ maxLen := by obtain ⟨b9, oc9, hvo9, -, hocm⟩ := own_val H2.objs; rw [hvo] at hvo9; cases hvo9; exact hocm
  subst hvo
  obtain ⟨a0, a1, a2⟩ := objC_at 0 os i hi
  have e0 := hcell _ _ a0
  have e1 := hcell _ _ a1
  have e2 := hcell _ _ a2
  rw [Nat.zero_add] at e1 e2
  obtain ⟨p0, p1, p2, -⟩ := cellsH3 b0
  have HB2 : Hid (Below w.heap.size w w2) := hb2
  have hw2' := hw2.symm
  have HB1 : Hid (w2.heap[w.heap.size + 1]? = some (.cells #[.string ⟨#[]⟩, .int .i64 0, .int .i64 0] 79 (0, 0))) := b1
  have hr : rightV ⟨4, i, []⟩ os.length = true := by simp [rightV, hi]
  have HC : Hid (∀ wx, Below w2.heap.size w2 wx → Calls Tryz.prog 30 #[vlV ⟨4, i, []⟩, .int .i64 (os.length : Int)] wx fun e w'' => e = .returned (.int .i64 0) ∧ Below w2.heap.size w2 w'') := fun wx hx =>
    (check_any ⟨4, i, []⟩ os.length wx ⟨⟨by simp only; omega, by simp only; omega⟩, by simp⟩ ((ht.below hb2 (Nat.le_refl _)).below hx (Nat.le_refl _))).mono fun e w'' ⟨he, hb⟩ => ⟨by rw [he, hr]; rfl, hx.trans (hb.mono hx.size)⟩
  have x0 := cls_cell (n := w2.heap.size) p0 (by simp only; omega)
  have x1 := cls_cell (n := w2.heap.size) p1 (by simp only; omega)
  have x2 := cls_cell (n := w2.heap.size) p2 (by simp only; omega)
  have x3 := cls_cell (n := w2.heap.size) c2 (by simp only; omega)
  have hii : (i : Int) < os.length := by omega
  have hgn : g ≠ w.heap.size + 1 := fun e => by
    obtain ⟨cur, hcur⟩ : ∃ cur, w.heap[g]? = some (.cells cur 79 (0, 0)) := by
      rcases H.objs.2 with ⟨h1, h2⟩ | ⟨g', cap', cur, h1, -, h2, -⟩
      · cases h1
      · cases h1; exact ⟨cur, h2⟩
    have := (Array.getElem?_eq_some_iff.1 hcur).1
    omega
  obtain ⟨tg, htg⟩ : ∃ tg, tg = (os[i]).1 := ⟨_, rfl⟩
  obtain ⟨fr, hfr⟩ : ∃ fr : Int, fr = ((fromO os i : Nat) : Int) := ⟨_, rfl⟩
  obtain ⟨up, hup⟩ : ∃ up : Int, up = ((fromO os i + (os[i]).2.length : Nat) : Int) := ⟨_, rfl⟩
  unfold foundO
  rw [← htg, ← hfr, ← hup]
  rw [← htg] at e0
  rw [← hfr] at e1
  rw [← hup] at e2
  clear H H2 hb2 b0 b1 hw2 ht a0 a1 a2 hcell hr htg hfr hup
  unfold findW at hw2'
  go_enter Tryz.func41, Tryz.ntmps41
  go_wp2_with fail
  refine ci.mono ?_
  clear ci
  rintro e w3 ⟨rfl, rfl⟩
  go_wp2_with fail
  refine wp_region_cls (n := w2.heap.size) (w0 := w2) (Below.refl _ _) (by kernel_rfl) (by kernel_rfl) ?_
  iterate 10 (go_big_quiet_step (fail))
  go_big_quiet_step (exact cls_calls HC.out _)
  iterate 3 (go_big_quiet_step (fail))
  refine wpQuiet_nil ?_
  rintro _ ⟨c, rfl⟩
  have b1 := (c.2.block (w.heap.size + 1) (by omega)).trans HB1.out
  obtain ⟨r0, r1, r2, rf⟩ := cellsH3 b1
  have d1 := x1 c
  have d3 := x3 c
  have f0 := (below_cell c.2 hg).trans e0
  have f1 := (below_cell c.2 hg).trans e1
  have f2 := (below_cell c.2 hg).trans e2
  obtain ⟨z0, z1, z2⟩ := set3_cells b1 (.string (strB tg)) (.int .i64 fr) (.int .i64 up)
  have HB3 : Hid (Below w.heap.size w (((c.1.setCell ⟨w.heap.size + 1, 0, none⟩ (.string (strB tg))).setCell ⟨w.heap.size + 1, 1, none⟩ (.int .i64 fr)).setCell ⟨w.heap.size + 1, 2, none⟩ (.int .i64 up)).drew) := (set3_below (HB2.out.trans (c.2.mono (by omega))) (by omega) _ _ _).drew
  clear x0 x1 x2 x3 b1 e0 e1 e2 p0 p1 p2
  go_wp2_with fail
  go_region
  go_wp2
  exact bodyPost_ret (v := .tuple #[.agg #[.string (strB tg), .int .i64 fr, .int .i64 up], .int .i64 0]) (by simp [results, Tryz.results41, go_sem, z0, z1, z2]) rfl ⟨rfl, HB3.out⟩
end Go.Proofs.YtchpmnmngeebjaaGreatDoor
