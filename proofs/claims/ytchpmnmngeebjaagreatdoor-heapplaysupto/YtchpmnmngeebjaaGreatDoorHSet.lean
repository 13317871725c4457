/- heap: Set. -/
import Derived.Test.YtchpmnmngeebjaaGreatDoorHGet
namespace Go.Proofs.YtchpmnmngeebjaaGreatDoor
open Go.RowKit Go.Shelf

abbrev setW (w : World) (v x : Vl) : World := (w.alloc (.cells #[.int .i64 v.k, .int .i64 v.n, .string (strB v.s)] 25)).alloc (.cells #[.int .i64 x.k, .int .i64 x.n, .string (strB x.s)] 25)
theorem setW_facts (w : World) (v x : Vl) : (setW w v x).heap.size = w.heap.size + 2 ∧ Below w.heap.size w (setW w v x) ∧ (setW w v x).heap[w.heap.size]? = some (.cells #[.int .i64 v.k, .int .i64 v.n, .string (strB v.s)] 25 (0, 0)) ∧ (setW w v x).heap[w.heap.size + 1]? = some (.cells #[.int .i64 x.k, .int .i64 x.n, .string (strB x.s)] 25 (0, 0)) := by
  refine ⟨by simp, ((Below.refl _ w).alloc (Nat.le_refl _) _).alloc (by simp) _, ?_, ?_⟩
  · rw [Below.heap_alloc _ _ _ (by simp)]; exact World.alloc_heap_new _ _
  · have := World.alloc_heap_new (w.alloc (.cells #[.int .i64 v.k, .int .i64 v.n, .string (strB v.s)] 25)) (.cells #[.int .i64 x.k, .int .i64 x.n, .string (strB x.s)] 25)
    simpa using this

set_option maxRecDepth 100000 in
set_option maxHeartbeats 4000000 in
theorem set_no {S : Nat → Prop} {most : Nat} {os : List Ob} {h : Nat} {vo vc : Value} (v x : Vl) (i : Int) (w : World) (H : HpIn S w most os h vo vc) (hv : smallV v) (ht : TabsP w) (hno : refB os v = false) :
    Calls Tryz.prog 16 #[.pointer (some ⟨h, 0, none⟩), vlV v, .int .i64 i, vlV x] w fun e w' => e = .returned (.int .i64 2) ∧ Below w.heap.size w w' := by
  obtain ⟨hz2, hb2, b0, b1⟩ := setW_facts w v x
  obtain ⟨w2, hw2⟩ : ∃ w2, w2 = setW w v x := ⟨_, rfl⟩
  rw [← hw2] at hz2 hb2 b0 b1
  have cf := find_no v w2 (H.below hb2) hv (ht.below hb2 (Nat.le_refl _)) (refB_no hno)
  obtain ⟨p0, p1, p2, -⟩ := cellsH3 b0
  have HB2 : Hid (Below w.heap.size w w2) := hb2
  obtain ⟨k, m, s⟩ := v
  obtain ⟨xk, xm, xs⟩ := x
  have hw2' := hw2.symm
  unfold setW at hw2'
  unfold noO at cf
  clear H hb2 b0 b1 hw2 ht hno hv
  go_enter Tryz.func16, Tryz.ntmps16
  go_wp2_with fail
  refine cf.mono ?_
  clear cf
  rintro e w3 ⟨rfl, hb3⟩
  have hs3 := hb3.size
  have HB4 : Hid (Below w.heap.size w (w3.alloc (.cells #[.string ⟨#[]⟩, .int .i64 0, .int .i64 0] 79))) := (HB2.out.trans (hb3.mono (by omega))).alloc (by omega) _
  clear hb3
  go_wp2
  go_ret
  exact ⟨rfl, HB4.out⟩

set_option maxRecDepth 100000 in
set_option maxHeartbeats 4000000 in
theorem set_bad {S : Nat → Prop} {most : Nat} {os : List Ob} {h : Nat} {vo vc : Value} (j : Nat) (hj : j < os.length) (x : Vl) (i : Int) (w : World) (H : HpIn S w most os h vo vc) (hx : smallV x) (ht : TabsP w) (hno : cellV x os.length = false ∨ cellV x os.length = true ∧ hasB i (os[j]).2.length = false) :
    Calls Tryz.prog 16 #[.pointer (some ⟨h, 0, none⟩), vlV ⟨4, j, []⟩, .int .i64 i, vlV x] w fun e w' => e = .returned (.int .i64 (if cellV x os.length = true then 10 else 2)) ∧ Below w.heap.size w w' := by
  obtain ⟨E, hE⟩ : ∃ E : Int, E = if cellV x os.length = true then 10 else 2 := ⟨_, rfl⟩
  rw [← hE]
  have HE : Hid (E = if cellV x os.length = true then 10 else 2) := hE
  clear hE
  have huse := H.use
  have hmay := H.may
  have hlt := H.lt
  obtain ⟨hcut, -⟩ := allV_cut os j hj
  obtain ⟨hz2, hb2, b0, b1⟩ := setW_facts w ⟨4, j, []⟩ x
  obtain ⟨w2, hw2⟩ : ∃ w2, w2 = setW w ⟨4, j, []⟩ x := ⟨_, rfl⟩
  rw [← hw2] at hz2 hb2 b0 b1
  have cf := find_ok j hj w2 (H.below hb2) (ht.below hb2 (Nat.le_refl _))
  have hc := fun wx (hx' : Below w.heap.size w wx) => isCell_any x os.length wx hx (ht.below hx' (Nat.le_refl _))
  obtain ⟨p0, p1, p2, -⟩ := cellsH3 b0
  have HB2 : Hid (Below w.heap.size w w2) := hb2
  have HB1 : Hid (w2.heap[w.heap.size + 1]? = some (.cells #[.int .i64 x.k, .int .i64 x.n, .string (strB x.s)] 25 (0, 0))) := b1
  obtain ⟨-, -, c2, -, -⟩ := cells4 (H.below hb2).blk
  obtain ⟨ob, oc, hvo, ho1, ho2⟩ := own_val H.objs
  subst hvo
  have hw2' := hw2.symm
  unfold setW at hw2'
  unfold foundO at cf
  obtain ⟨n, hn⟩ : ∃ n, n = (os[j]).2.length := ⟨_, rfl⟩
  obtain ⟨tg, htg⟩ : ∃ tg, tg = (os[j]).1 := ⟨_, rfl⟩
  obtain ⟨fr, hfr⟩ : ∃ fr : Int, fr = ((fromO os j : Nat) : Int) := ⟨_, rfl⟩
  obtain ⟨up, hup⟩ : ∃ up : Int, up = ((fromO os j + (os[j]).2.length : Nat) : Int) := ⟨_, rfl⟩
  rw [← htg, ← hfr, ← hup] at cf
  rw [← hn] at hno
  have ch := fun W => has_any (strB tg) fr up n i (by omega) (by omega) (by omega) W
  obtain ⟨xk, xm, xs⟩ := x
  clear H hb2 b0 b1 hw2 ht hn htg hfr hup hcut hx
  go_enter Tryz.func16, Tryz.ntmps16
  go_wp2_with fail
  refine cf.mono ?_
  clear cf
  rintro e w3 ⟨rfl, hb3⟩
  have hs3 := hb3.size
  obtain ⟨w4, hw4⟩ : ∃ w4, w4 = w3.alloc (.cells #[.string (strB tg), .int .i64 fr, .int .i64 up] 79) := ⟨_, rfl⟩
  have b1 : w4.heap[w.heap.size + 1]? = some (.cells #[.int .i64 xk, .int .i64 xm, .string (strB xs)] 25 (0, 0)) := by rw [hw4]; exact (Below.heap_alloc _ _ _ (by omega)).trans ((hb3.block _ (by omega)).trans HB1.out)
  have hs4 : w4.heap.size = w3.heap.size + 1 := by rw [hw4]; simp
  have h24 : Below w2.heap.size w2 w4 := by rw [hw4]; exact hb3.alloc hs3 _
  have hB4 : Below w.heap.size w w4 := HB2.out.trans (h24.mono (by omega))
  have HB4 : Hid (Below w.heap.size w w4) := hB4
  have bo : w4.heap[w3.heap.size]? = some (.cells #[.string (strB tg), .int .i64 fr, .int .i64 up] 79 (0, 0)) := by rw [hw4]; exact World.alloc_heap_new _ _
  have HBO : Hid (w4.heap[w3.heap.size]? = some (.cells #[.string (strB tg), .int .i64 fr, .int .i64 up] 79 (0, 0))) := bo
  obtain ⟨y0, y1, y2, -⟩ := cellsH3 b1
  have d2 := (below_cell h24 (g := h) (j := 2) (by omega)).trans c2
  have HC : Hid (∀ wx, Below w4.heap.size w4 wx → Calls Tryz.prog 42 #[vlV ⟨xk, xm, xs⟩, .int .i64 (os.length : Int)] wx fun e w'' => e = .returned (.bool (cellV ⟨xk, xm, xs⟩ os.length)) ∧ Below w4.heap.size w4 w'') := fun wx hx' =>
    (hc wx (hB4.trans (hx'.mono hB4.size))).mono fun e w'' ⟨he, hb⟩ => ⟨he, hx'.trans (hb.mono hx'.size)⟩
  have x0 := cls_cell (n := w4.heap.size) y0 (by simp only; omega)
  have x1 := cls_cell (n := w4.heap.size) y1 (by simp only; omega)
  have x2 := cls_cell (n := w4.heap.size) y2 (by simp only; omega)
  have x3 := cls_cell (n := w4.heap.size) d2 (by simp only; omega)
  have hw4' := hw4.symm
  clear hw4 hb3 bo hB4 b1 h24 hc
  rcases hno with hno | ⟨hno, hno2⟩
  · rw [hno] at HC HE
    go_wp2_with fail
    refine wp_region_cls (n := w4.heap.size) (w0 := w4) (Below.refl _ _) (by kernel_rfl) (by kernel_rfl) ?_
    iterate 6 (go_big_quiet_step (fail))
    go_big_quiet_step (exact cls_calls HC.out _)
    iterate 2 (go_big_quiet_step (fail))
    refine wpQuiet_nil ?_
    rintro _ ⟨c, rfl⟩
    have HB5 : Hid (Below w.heap.size w c.1) := HB4.out.trans (c.2.mono (by omega))
    clear x0 x1 x2 x3 ch
    go_wp2
    go_ret
    rw [HE.out]
    exact ⟨rfl, HB5.out⟩
  · rw [hno] at HC HE
    rw [hno2] at ch
    go_wp2_with fail
    refine wp_region_cls (n := w4.heap.size) (w0 := w4) (Below.refl _ _) (by kernel_rfl) (by kernel_rfl) ?_
    iterate 6 (go_big_quiet_step (fail))
    go_big_quiet_step (exact cls_calls HC.out _)
    iterate 2 (go_big_quiet_step (fail))
    refine wpQuiet_nil ?_
    rintro _ ⟨c, rfl⟩
    have HB5 : Hid (Below w.heap.size w c.1) := HB4.out.trans (c.2.mono (by omega))
    have hs5 := HB5.out.size
    obtain ⟨o0, o1, o2, -⟩ := cellsH3 ((c.2.block _ (by omega)).trans HBO.out)
    have ch' := ch c.1
    clear x0 x1 x2 x3 ch
    go_wp2_with fail
    refine ch'.mono ?_
    clear ch'
    rintro e w5 ⟨rfl, hb5⟩
    have HB6 : Hid (Below w.heap.size w w5) := HB5.out.trans (hb5.mono (by omega))
    clear hb5
    go_wp2
    go_ret
    rw [HE.out]
    exact ⟨rfl, HB6.out⟩
end Go.Proofs.YtchpmnmngeebjaaGreatDoor
