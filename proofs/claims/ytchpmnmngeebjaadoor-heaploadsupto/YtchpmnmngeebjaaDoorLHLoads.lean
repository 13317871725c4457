/- HeapLoads. -/
import Derived.Test.YtchpmnmngeebjaaDoorHRefs
import Derived.Test.YtchpmnmngeebjaaDoorHLives
import Derived.Test.YtchpmnmngeebjaaDoorWMix
import Derived.Deep.DeepCutAuto
namespace Go.Proofs.YtchpmnmngeebjaaDoor
open Go.RowKit Go.Shelf

set_option maxRecDepth 100000 in
set_option maxHeartbeats 8000000 in
theorem heapLoads_any (T : Nat → Prop) (m n : Int) (os : List Ob) (v : Value) (x : Vl) (w : World) (hv : objsIn T w v os) (hf : objsF w v os) (hs : ∀ o ∈ os, smallO o) (hk : ∀ o ∈ os, o.2.length ≤ 1048576) (hl : os.length ≤ 1048576) (hx : smallV x) (ht : TabsP w) :
    Calls Tryd.prog 3 #[.int .i64 m, v, vlV x, .int .i64 n] w fun e w' => e = .returned (.bool true) ∧ Below w.heap.size w w' := by
  obtain ⟨bw, cw, rfl, hcw1, hcw2, -⟩ := hv.at
  obtain ⟨w1, hw1⟩ : ∃ w1, w1 = w.alloc (.cells #[.int .i64 x.k, .int .i64 x.n, .string (strB x.s)] 25) := ⟨_, rfl⟩
  have hs1 : w1.heap.size = w.heap.size + 1 := by rw [hw1]; simp
  have hb1 : Below w.heap.size w w1 := by rw [hw1]; exact (Below.refl _ _).alloc (Nat.le_refl _) _
  have hbx : w1.heap[w.heap.size]? = some (.cells #[.int .i64 x.k, .int .i64 x.n, .string (strB x.s)] 25 (0, 0)) := by rw [hw1]; exact World.alloc_heap_new _ _
  have cl := load_any T m os (.slice bw os.length cw) w1 (hv.kept hb1.size fun q _ hq => hb1.block q hq) hs hk hl (ht.below hb1 (Nat.le_refl _))
  have HV : Hid (objsIn T w (.slice bw os.length cw) os) := hv
  have HF : Hid (objsF w (.slice bw os.length cw) os) := hf
  have HS : Hid (∀ o ∈ os, smallO o) := hs
  have HK : Hid (∀ o ∈ os, o.2.length ≤ 1048576) := hk
  have HX : Hid (smallV x) := hx
  have HT : Hid (TabsP w) := ht
  have HB1 : Hid (Below w.heap.size w w1) := hb1
  have HBX : Hid (w1.heap[w.heap.size]? = some (.cells #[.int .i64 x.k, .int .i64 x.n, .string (strB x.s)] 25 (0, 0))) := hbx
  have hw1' := hw1.symm
  obtain ⟨N1, hN1⟩ : ∃ N1, N1 = w1.heap.size := ⟨_, rfl⟩
  have hNw : w.heap.size < N1 := by omega
  have HN1 : Hid (N1 = w1.heap.size) := hN1
  obtain ⟨k, xn, s⟩ := x
  clear hv hf hs hk hx ht hb1 hbx hw1 hs1 hN1
  go_enter Tryd.func3, Tryd.ntmps3
  go_wp2_with fail
  refine cl.mono ?_
  clear cl hw1'
  rintro e w2 ⟨hb2, hcase⟩
  have hs2 : N1 ≤ w2.heap.size := by have := hb2.size; have := HN1.out; omega
  have HB2 : Hid (Below w.heap.size w w2) := HB1.out.trans (hb2.mono (by have := HN1.out; omega))
  have HB12 : Hid (Below w1.heap.size w1 w2) := hb2
  have hBX2 : w2.heap[w.heap.size]? = some (.cells #[.int .i64 k, .int .i64 xn, .string (strB s)] 25 (0, 0)) := (hb2.block _ (by have := HN1.out; omega)).trans HBX.out
  have HBX2 : Hid (w2.heap[w.heap.size]? = some (.cells #[.int .i64 k, .int .i64 xn, .string (strB s)] 25 (0, 0))) := hBX2
  have cr := refLoad_any T m os (.slice bw os.length cw) w2 (HV.out.kept HB2.out.size fun q _ hq => HB2.out.block q hq) HS.out HK.out hl (fun i hi b o cap u e hc => HF.out i hi b o cap u e (by
    obtain ⟨b1, c1, e1, -, -, hat⟩ := HV.out.at
    rw [e1] at e
    simp only [Value.slice.injEq] at e
    obtain ⟨b9, o9, u9, e9, -, hlt, -⟩ := hat i hi
    rw [e.1] at e9
    simp only [Option.some.injEq, Addr.mk.injEq, and_true] at e9
    obtain ⟨rfl, rfl⟩ := e9
    rw [← below_cell HB2.out hlt]; exact hc))
  clear hb2 hBX2
  rcases hcase with ⟨rfl, o9, ho9, hf9⟩ | ⟨rfl, hall, hmost⟩ | ⟨hall, hmost, g, vo, vc, rfl, H2⟩
  · clear HB12
    go_wp2_with fail
    refine cr.mono ?_
    clear cr
    rintro e w3 ⟨hb3, hc3⟩
    have hs3 := hb3.size
    obtain rfl : e = .returned (.tuple #[.agg #[.int .i64 0, .slice none 0 0], .int .i64 2]) := by
      rcases hc3 with ⟨h, -⟩ | ⟨-, h, -⟩ | ⟨h, -⟩
      · exact h
      · rw [h o9 ho9] at hf9; cases hf9
      · rw [h o9 ho9] at hf9; cases hf9
    clear hc3
    obtain ⟨w4, hw4⟩ : ∃ w4, w4 = w3.alloc (.cells #[.int .i64 0, .slice none 0 0] 31) := ⟨_, rfl⟩
    have HW4 : Hid (w4 = w3.alloc (.cells #[.int .i64 0, .slice none 0 0] 31)) := hw4
    clear hw4
    have hs4 : w4.heap.size = w3.heap.size + 1 := by rw [HW4.out]; simp
    have hb34 : Below w3.heap.size w3 w4 := by rw [HW4.out]; exact (Below.refl _ _).alloc (Nat.le_refl _) _
    have HB4 : Hid (Below w.heap.size w w4) := (HB2.out.trans (hb3.mono HB2.out.size)).trans (hb34.mono (by omega))
    have HB24 : Hid (Below w2.heap.size w2 w4) := hb3.trans (hb34.mono hs3)
    have bx4 := (HB24.out.block w.heap.size (by omega)).trans HBX2.out
    obtain ⟨p0, p1, p2, -⟩ := cellsH3 bx4
    have x0 := cls_cell (n := w4.heap.size) p0 (by simp only; omega)
    have x1 := cls_cell (n := w4.heap.size) p1 (by simp only; omega)
    have x2 := cls_cell (n := w4.heap.size) p2 (by simp only; omega)
    have HCK : Hid (∀ wx, Below w4.heap.size w4 wx → Calls Tryd.prog 7 #[vlV ⟨k, xn, s⟩, .int .i64 n] wx fun e w'' => e = .returned (.int .i64 (errR (rightV ⟨k, xn, s⟩ n))) ∧ Below w4.heap.size w4 w'') := fun wx hx => (check_any ⟨k, xn, s⟩ n wx HX.out ((HT.out.below HB4.out (Nat.le_refl _)).below hx (by have := HB4.out.size; omega))).mono fun e w'' ⟨he, hb⟩ => ⟨he, hx.trans (hb.mono hx.size)⟩
    have HCR : Hid (∀ wx, Below w4.heap.size w4 wx → Calls Tryd.prog 8 #[vlV ⟨k, xn, s⟩, .int .i64 n] wx fun e w'' => e = .returned (.bool (rightV ⟨k, xn, s⟩ n)) ∧ Below w4.heap.size w4 w'') := fun wx hx => (refRight_any ⟨k, xn, s⟩ n wx HX.out).mono fun e w'' ⟨he, hb⟩ => ⟨he, hx.trans (hb.mono hx.size)⟩
    clear bx4 p0 p1 p2 hb34 hb3
    go_upto_region 3 with fail
    rw [← HW4.out]
    go_cut [44] (fun t wx => t = .bool false ∧ Below w4.heap.size w4 wx)
    case first =>
      cases hr : rightV ⟨k, xn, s⟩ n with
      | true =>
        rw [hr] at HCK HCR
        rw [show errR true = 0 from rfl] at HCK
        refine wp_region_cls (n := w4.heap.size) (w0 := w4) (Below.refl _ _) (by kernel_rfl) (by kernel_rfl) ?_
        iterate 13 (go_big_quiet_step (fail))
        go_big_quiet_step (exact cls_calls HCK.out _)
        iterate 3 (go_big_quiet_step (fail))
        go_big_quiet_step (exact cls_calls HCR.out _)
        iterate 2 (go_big_quiet_step (fail))
        refine wpQuiet_nil ?_
        rintro _ ⟨c, rfl⟩
        go_wp2_with fail
        go_meet
        exact ⟨rfl, c.2⟩
      | false =>
        rw [hr] at HCK HCR
        rw [show errR false = 2 from rfl] at HCK
        refine wp_region_cls (n := w4.heap.size) (w0 := w4) (Below.refl _ _) (by kernel_rfl) (by kernel_rfl) ?_
        iterate 13 (go_big_quiet_step (fail))
        go_big_quiet_step (exact cls_calls HCK.out _)
        iterate 3 (go_big_quiet_step (fail))
        go_big_quiet_step (exact cls_calls HCR.out _)
        iterate 2 (go_big_quiet_step (fail))
        refine wpQuiet_nil ?_
        rintro _ ⟨c, rfl⟩
        go_wp2_with fail
        go_meet
        exact ⟨rfl, c.2⟩
    case rest =>
      obtain ⟨rfl, hbc⟩ := hcut
      have HBc : Hid (Below w4.heap.size w4 wc) := hbc
      have HBwc : Hid (Below w.heap.size w wc) := HB4.out.trans (hbc.mono HB4.out.size)
      have hsc := hbc.size
      clear hbc x0 x1 x2 HCK HCR
      have cv := lives06_any wc (HT.out.below HBwc.out (Nat.le_refl _))
      go_wp2_with fail
      refine cv.mono ?_
      clear cv
      rintro e w9 ⟨rfl, hb9⟩
      have HB9 : Hid (Below w.heap.size w w9) := HBwc.out.trans (hb9.mono HBwc.out.size)
      clear hb9
      go_wp2
      go_ret
      exact ⟨rfl, HB9.out⟩
  · clear HB12
    go_wp2_with fail
    refine cr.mono ?_
    clear cr
    rintro e w3 ⟨hb3, hc3⟩
    have hs3 := hb3.size
    obtain rfl : e = .returned (.tuple #[.agg #[.int .i64 0, .slice none 0 0], .int .i64 12]) := by
      rcases hc3 with ⟨-, o9, ho9, hf9⟩ | ⟨h, -⟩ | ⟨-, h, -⟩
      · rw [hall o9 ho9] at hf9; cases hf9
      · exact h
      · omega
    clear hc3
    obtain ⟨w4, hw4⟩ : ∃ w4, w4 = w3.alloc (.cells #[.int .i64 0, .slice none 0 0] 31) := ⟨_, rfl⟩
    have HW4 : Hid (w4 = w3.alloc (.cells #[.int .i64 0, .slice none 0 0] 31)) := hw4
    clear hw4
    have hs4 : w4.heap.size = w3.heap.size + 1 := by rw [HW4.out]; simp
    have hb34 : Below w3.heap.size w3 w4 := by rw [HW4.out]; exact (Below.refl _ _).alloc (Nat.le_refl _) _
    have HB4 : Hid (Below w.heap.size w w4) := (HB2.out.trans (hb3.mono HB2.out.size)).trans (hb34.mono (by omega))
    have HB24 : Hid (Below w2.heap.size w2 w4) := hb3.trans (hb34.mono hs3)
    have bx4 := (HB24.out.block w.heap.size (by omega)).trans HBX2.out
    obtain ⟨p0, p1, p2, -⟩ := cellsH3 bx4
    have x0 := cls_cell (n := w4.heap.size) p0 (by simp only; omega)
    have x1 := cls_cell (n := w4.heap.size) p1 (by simp only; omega)
    have x2 := cls_cell (n := w4.heap.size) p2 (by simp only; omega)
    have HCK : Hid (∀ wx, Below w4.heap.size w4 wx → Calls Tryd.prog 7 #[vlV ⟨k, xn, s⟩, .int .i64 n] wx fun e w'' => e = .returned (.int .i64 (errR (rightV ⟨k, xn, s⟩ n))) ∧ Below w4.heap.size w4 w'') := fun wx hx => (check_any ⟨k, xn, s⟩ n wx HX.out ((HT.out.below HB4.out (Nat.le_refl _)).below hx (by have := HB4.out.size; omega))).mono fun e w'' ⟨he, hb⟩ => ⟨he, hx.trans (hb.mono hx.size)⟩
    have HCR : Hid (∀ wx, Below w4.heap.size w4 wx → Calls Tryd.prog 8 #[vlV ⟨k, xn, s⟩, .int .i64 n] wx fun e w'' => e = .returned (.bool (rightV ⟨k, xn, s⟩ n)) ∧ Below w4.heap.size w4 w'') := fun wx hx => (refRight_any ⟨k, xn, s⟩ n wx HX.out).mono fun e w'' ⟨he, hb⟩ => ⟨he, hx.trans (hb.mono hx.size)⟩
    clear bx4 p0 p1 p2 hb34 hb3
    go_upto_region 3 with fail
    rw [← HW4.out]
    go_cut [44] (fun t wx => t = .bool false ∧ Below w4.heap.size w4 wx)
    case first =>
      cases hr : rightV ⟨k, xn, s⟩ n with
      | true =>
        rw [hr] at HCK HCR
        rw [show errR true = 0 from rfl] at HCK
        refine wp_region_cls (n := w4.heap.size) (w0 := w4) (Below.refl _ _) (by kernel_rfl) (by kernel_rfl) ?_
        iterate 13 (go_big_quiet_step (fail))
        go_big_quiet_step (exact cls_calls HCK.out _)
        iterate 3 (go_big_quiet_step (fail))
        go_big_quiet_step (exact cls_calls HCR.out _)
        iterate 2 (go_big_quiet_step (fail))
        refine wpQuiet_nil ?_
        rintro _ ⟨c, rfl⟩
        go_wp2_with fail
        go_meet
        exact ⟨rfl, c.2⟩
      | false =>
        rw [hr] at HCK HCR
        rw [show errR false = 2 from rfl] at HCK
        refine wp_region_cls (n := w4.heap.size) (w0 := w4) (Below.refl _ _) (by kernel_rfl) (by kernel_rfl) ?_
        iterate 13 (go_big_quiet_step (fail))
        go_big_quiet_step (exact cls_calls HCK.out _)
        iterate 3 (go_big_quiet_step (fail))
        go_big_quiet_step (exact cls_calls HCR.out _)
        iterate 2 (go_big_quiet_step (fail))
        refine wpQuiet_nil ?_
        rintro _ ⟨c, rfl⟩
        go_wp2_with fail
        go_meet
        exact ⟨rfl, c.2⟩
    case rest =>
      obtain ⟨rfl, hbc⟩ := hcut
      have HBc : Hid (Below w4.heap.size w4 wc) := hbc
      have HBwc : Hid (Below w.heap.size w wc) := HB4.out.trans (hbc.mono HB4.out.size)
      have hsc := hbc.size
      clear hbc x0 x1 x2 HCK HCR
      have cv := lives06_any wc (HT.out.below HBwc.out (Nat.le_refl _))
      go_wp2_with fail
      refine cv.mono ?_
      clear cv
      rintro e w9 ⟨rfl, hb9⟩
      have HB9 : Hid (Below w.heap.size w w9) := HBwc.out.trans (hb9.mono HBwc.out.size)
      clear hb9
      go_wp2
      go_ret
      exact ⟨rfl, HB9.out⟩
  · have H2l : Hid (HpIn (fun q => w1.heap.size ≤ q ∧ q < w2.heap.size) w2 (mostN m) os g vo vc) := H2.low
    have HALL : Hid (∀ o ∈ os, obB o (os.length : Int) = true ∧ smallO o ∧ o.2.length ≤ 1048576) := fun o ho => ⟨hall o ho, HS.out o ho, HK.out o ho⟩
    have hmL := mostN_le m
    have huse : os.length + (allV os).length ≤ 4096 := by omega
    clear H2
    go_wp2_with fail
    refine cr.mono ?_
    clear cr
    rintro e w3 ⟨hb3, hc3⟩
    have hs3 := hb3.size
    obtain ⟨vL, rfl, vs3, ho3⟩ : ∃ vL, e = .returned (.tuple #[rhV (mostN m) vL, .int .i64 0]) ∧ ObsAt w2.heap.size w3 os vL := by
      rcases hc3 with ⟨-, o9, ho9, hf9⟩ | ⟨-, -, h⟩ | ⟨-, -, h⟩
      · rw [hall o9 ho9] at hf9; cases hf9
      · omega
      · exact h
    obtain ⟨M, hM⟩ : ∃ M : Int, M = ((mostN m : Nat) : Int) := ⟨_, rfl⟩
    have HM : Hid (M = ((mostN m : Nat) : Int)) := hM
    rw [show rhV (mostN m) vL = .agg #[.int .i64 M, vL] by rw [hM]]
    have HL3 : Hid (objsIn (fun q => w2.heap.size ≤ q) w3 vL os) := ho3.read
    obtain ⟨bL, cL, rfl, -, -⟩ := own_val ho3.row
    obtain ⟨w4, hw4⟩ : ∃ w4, w4 = w3.alloc (.cells #[.int .i64 M, .slice bL os.length cL] 31) := ⟨_, rfl⟩
    have HW4 : Hid (w4 = w3.alloc (.cells #[.int .i64 M, .slice bL os.length cL] 31)) := hw4
    have HG4 : Hid (w4.heap[w3.heap.size]? = some (.cells #[.int .i64 M, .slice bL os.length cL] 31 (0, 0))) := by show _ = _; rw [hw4]; exact World.alloc_heap_new _ _
    have HL4 : Hid (objsIn (fun q => w2.heap.size ≤ q) w4 (.slice bL os.length cL) os) := HL3.out.kept (by rw [hw4]; simp) fun q _ hq => by rw [hw4]; exact Below.heap_alloc _ _ _ hq
    clear hc3 hw4 hM ho3 HL3 hall hmost
    have hs4 : w4.heap.size = w3.heap.size + 1 := by rw [HW4.out]; simp
    have hb34 : Below w3.heap.size w3 w4 := by rw [HW4.out]; exact (Below.refl _ _).alloc (Nat.le_refl _) _
    have HB4 : Hid (Below w.heap.size w w4) := (HB2.out.trans (hb3.mono HB2.out.size)).trans (hb34.mono (by omega))
    have HB24 : Hid (Below w2.heap.size w2 w4) := hb3.trans (hb34.mono hs3)
    have bx4 := (HB24.out.block w.heap.size (by omega)).trans HBX2.out
    obtain ⟨p0, p1, p2, -⟩ := cellsH3 bx4
    have x0 := cls_cell (n := w4.heap.size) p0 (by simp only; omega)
    have x1 := cls_cell (n := w4.heap.size) p1 (by simp only; omega)
    have x2 := cls_cell (n := w4.heap.size) p2 (by simp only; omega)
    have HCK : Hid (∀ wx, Below w4.heap.size w4 wx → Calls Tryd.prog 7 #[vlV ⟨k, xn, s⟩, .int .i64 n] wx fun e w'' => e = .returned (.int .i64 (errR (rightV ⟨k, xn, s⟩ n))) ∧ Below w4.heap.size w4 w'') := fun wx hx => (check_any ⟨k, xn, s⟩ n wx HX.out ((HT.out.below HB4.out (Nat.le_refl _)).below hx (by have := HB4.out.size; omega))).mono fun e w'' ⟨he, hb⟩ => ⟨he, hx.trans (hb.mono hx.size)⟩
    have HCR : Hid (∀ wx, Below w4.heap.size w4 wx → Calls Tryd.prog 8 #[vlV ⟨k, xn, s⟩, .int .i64 n] wx fun e w'' => e = .returned (.bool (rightV ⟨k, xn, s⟩ n)) ∧ Below w4.heap.size w4 w'') := fun wx hx => (refRight_any ⟨k, xn, s⟩ n wx HX.out).mono fun e w'' ⟨he, hb⟩ => ⟨he, hx.trans (hb.mono hx.size)⟩
    clear bx4 p0 p1 p2 hb34 hb3
    go_upto_region 3 with fail
    rw [← HW4.out]
    go_cut [44] (fun t wx => t = .bool false ∧ Below w4.heap.size w4 wx)
    case first =>
      cases hr : rightV ⟨k, xn, s⟩ n with
      | true =>
        rw [hr] at HCK HCR
        rw [show errR true = 0 from rfl] at HCK
        refine wp_region_cls (n := w4.heap.size) (w0 := w4) (Below.refl _ _) (by kernel_rfl) (by kernel_rfl) ?_
        iterate 13 (go_big_quiet_step (fail))
        go_big_quiet_step (exact cls_calls HCK.out _)
        iterate 3 (go_big_quiet_step (fail))
        go_big_quiet_step (exact cls_calls HCR.out _)
        iterate 2 (go_big_quiet_step (fail))
        refine wpQuiet_nil ?_
        rintro _ ⟨c, rfl⟩
        go_wp2_with fail
        go_meet
        exact ⟨rfl, c.2⟩
      | false =>
        rw [hr] at HCK HCR
        rw [show errR false = 2 from rfl] at HCK
        refine wp_region_cls (n := w4.heap.size) (w0 := w4) (Below.refl _ _) (by kernel_rfl) (by kernel_rfl) ?_
        iterate 13 (go_big_quiet_step (fail))
        go_big_quiet_step (exact cls_calls HCK.out _)
        iterate 3 (go_big_quiet_step (fail))
        go_big_quiet_step (exact cls_calls HCR.out _)
        iterate 2 (go_big_quiet_step (fail))
        refine wpQuiet_nil ?_
        rintro _ ⟨c, rfl⟩
        go_wp2_with fail
        go_meet
        exact ⟨rfl, c.2⟩
    case rest =>
      obtain ⟨rfl, hbc⟩ := hcut
      have HBc : Hid (Below w4.heap.size w4 wc) := hbc
      have HBwc : Hid (Below w.heap.size w wc) := HB4.out.trans (hbc.mono HB4.out.size)
      have hsc := hbc.size
      clear hbc x0 x1 x2 HCK HCR
      have hH : HpIn (fun q => w1.heap.size ≤ q ∧ q < w2.heap.size) wc (mostN m) os g vo vc := (H2l.out.below HB24.out).below HBc.out
      have hL : objsIn (fun q => w2.heap.size ≤ q) wc (.slice bL os.length cL) os := HL4.out.kept hsc fun q _ hq => HBc.out.block q hq
      have bxc := (HBc.out.block w.heap.size (by omega)).trans ((HB24.out.block w.heap.size (by omega)).trans HBX2.out)
      have bgc := (HBc.out.block w3.heap.size (by omega)).trans HG4.out
      obtain ⟨p0, p1, p2, -⟩ := cellsH3 bxc
      obtain ⟨g0, g1, -⟩ := cellsH2 bgc
      have x0 := cls_cell (n := wc.heap.size) p0 (by simp only; omega)
      have x1 := cls_cell (n := wc.heap.size) p1 (by simp only; omega)
      have x2 := cls_cell (n := wc.heap.size) p2 (by simp only; omega)
      have x3 := cls_cell (n := wc.heap.size) g0 (by simp only; omega)
      have x4 := cls_cell (n := wc.heap.size) g1 (by simp only; omega)
      have htw : ∀ W, Below wc.heap.size wc W → TabsP W := fun W hW => HT.out.below (HBwc.out.trans (hW.mono HBwc.out.size)) (Nat.le_refl _)
      have cal : ∀ W, Below wc.heap.size wc W → Calls Tryd.prog 11 #[.pointer (some ⟨g, 0, none⟩)] W fun e w6 => ∃ b6 c6, e = .returned (.slice b6 os.length c6) ∧ Hid (∃ S6, objsIn S6 w6 (.slice b6 os.length c6) os) ∧ Hid (Below wc.heap.size wc w6) := fun W hW => by
        refine (hall_any W (hH.below hW)).mono ?_
        rintro e w6 ⟨v6, rfl, ⟨vs6, ho6⟩, hb6⟩
        obtain ⟨b6, c6, rfl, -, -⟩ := own_val ho6.row
        exact ⟨b6, c6, rfl, ⟨_, ho6.read⟩, hW.trans (hb6.mono hW.size)⟩
      have csm : ∀ (b6 : Option Addr) (c6 : Nat) W, (∃ S6, objsIn S6 W (.slice b6 os.length c6) os) → Below wc.heap.size wc W → Calls Tryd.prog 10 #[.slice b6 os.length c6, .slice bL os.length cL] W fun e w6 => e = .returned (.bool true) ∧ Hid (Below wc.heap.size wc w6) := fun b6 c6 W ⟨S6, h6⟩ hW => by
        refine (same_any06 S6 _ os _ _ W h6 (hL.kept hW.size fun q _ hlt => hW.block q hlt) (by omega) HK.out).mono ?_
        rintro e w6 ⟨rfl, hb6⟩
        exact ⟨rfl, hW.trans (hb6.mono hW.size)⟩
      have cus : ∀ W, Below wc.heap.size wc W → Calls Tryd.prog 12 #[.pointer (some ⟨g, 0, none⟩)] W fun e w6 => e = .returned (.int .i64 ((os.length + (allV os).length : Nat) : Int)) ∧ Hid (Below wc.heap.size wc w6) := fun W hW => (used_any W (hH.below hW)).mono fun e w6 ⟨he, hb⟩ => ⟨he, hW.trans (hb.mono hW.size)⟩
      have cru : ∀ W, Below wc.heap.size wc W → Calls Tryd.prog 13 #[.agg #[.int .i64 M, .slice bL os.length cL]] W fun e w6 => e = .returned (.int .i64 ((os.length + (allV os).length : Nat) : Int)) ∧ Hid (Below wc.heap.size wc w6) := fun W hW => by
        rw [HM.out]
        exact (refUsed_any _ (mostN m) os (.slice bL os.length cL) W (hL.kept hW.size fun q _ hlt => hW.block q hlt) (by omega)).mono fun e w6 ⟨he, hb⟩ => ⟨he, hW.trans (hb.mono hW.size)⟩
      obtain ⟨U, hU⟩ : ∃ U : Int, U = ((os.length + (allV os).length : Nat) : Int) := ⟨_, rfl⟩
      rw [← hU] at cus cru
      obtain ⟨SB, hSB⟩ : ∃ SB, SB = showB os ⟨k, xn, s⟩ := ⟨_, rfl⟩
      have csh : ∀ W, Below wc.heap.size wc W → Calls Tryd.prog 14 #[.pointer (some ⟨g, 0, none⟩), .agg #[.int .i64 k, .int .i64 xn, .string (strB s)]] W fun e w6 => e = .returned (.string (strB SB)) ∧ Hid (Below wc.heap.size wc w6) := fun W hW => by
        rw [hSB]
        exact (show_any ⟨k, xn, s⟩ W (hH.below hW) HX.out (htw W hW)).mono fun e w6 ⟨he, hb⟩ => ⟨he, hW.trans (hb.mono hW.size)⟩
      have crs : ∀ W, Below wc.heap.size wc W → Calls Tryd.prog 15 #[.agg #[.int .i64 M, .slice bL os.length cL], .agg #[.int .i64 k, .int .i64 xn, .string (strB s)]] W fun e w6 => e = .returned (.string (strB SB)) ∧ Hid (Below wc.heap.size wc w6) := fun W hW => by
        rw [hSB, HM.out]
        exact (refShow_any _ (mostN m) os (.slice bL os.length cL) ⟨k, xn, s⟩ W (hL.kept hW.size fun q _ hlt => hW.block q hlt) HALL.out hl HX.out).mono fun e w6 ⟨he, hb⟩ => ⟨he, hW.trans (hb.mono hW.size)⟩
      have clv : ∀ W, Below wc.heap.size wc W → Calls Tryd.prog 9 #[] W fun e w6 => e = .returned (.bool true) ∧ Hid (Below wc.heap.size wc w6) := fun W hW => (lives06_any W (htw W hW)).mono fun e w6 ⟨he, hb⟩ => ⟨he, hW.trans (hb.mono hW.size)⟩
      have hBd : Below wc.heap.size wc wc.drew := (Below.refl _ _).drew
      clear p0 p1 p2 g0 g1 bxc bgc hU hSB htw hH hL
      go_upto_region 7 with fail
      refine mix_begin (n := 25) (S := fun w' => ∃ c : Cls wc.heap.size wc, w' = c.1) (by kernel_rfl) rfl rfl ?_
      refine mix_seg (fuel := 22) (fuel' := 25) (idx := [0, 2, 3]) (by kernel_rfl) rfl rfl rfl (fun _ _ _ _ _ h => h) ⟨⟨wc.drew, hBd⟩, rfl⟩ ?_
      show wpQuiet _ _ _ _ [_, _, _] _
      iterate 3 (go_big_quiet_step (fail))
      refine wpQuiet_nil ?_
      refine mix_loud (fuel := 21) (fuel' := 22) (i := 1) rfl (by kernel_rfl) rfl rfl (by rfl) ?_
      intro K hK
      go_simp
      refine (cal _ hBd).mono ?_
      rintro e w6 ⟨b6, c6, rfl, HO6, HB6⟩
      (try go_simp)
      refine hK.out _ _ ⟨⟨w6, HB6.out⟩, rfl⟩ ?_
      clear hK K
      (try simp only [Act.put, List.setIfInBounds_toArray, List.set_cons_zero, List.set_cons_succ])
      refine mix_loud (fuel := 20) (fuel' := 21) (i := 4) rfl (by kernel_rfl) rfl rfl (by rfl) ?_
      intro K hK
      go_simp
      refine (csm b6 c6 _ HO6.out HB6.out).mono ?_
      rintro e w7 ⟨rfl, HB7⟩
      (try go_simp)
      refine hK.out _ _ ⟨⟨w7, HB7.out⟩, rfl⟩ ?_
      clear hK K
      (try simp only [Act.put, List.setIfInBounds_toArray, List.set_cons_zero, List.set_cons_succ])
      refine mix_seg (fuel := 17) (fuel' := 20) (idx := [5, 6, 8]) (by kernel_rfl) rfl rfl rfl (fun _ _ _ _ _ h => h) ⟨⟨w7, HB7.out⟩, rfl⟩ ?_
      show wpQuiet _ _ _ _ [_, _, _] _
      iterate 3 (go_big_quiet_step (fail))
      refine wpQuiet_nil ?_
      refine mix_loud (fuel := 16) (fuel' := 17) (i := 7) rfl (by kernel_rfl) rfl rfl (by rfl) ?_
      intro K hK
      go_simp
      refine (cus _ HB7.out).mono ?_
      rintro e w8 ⟨rfl, HB8⟩
      (try go_simp)
      refine hK.out _ _ ⟨⟨w8, HB8.out⟩, rfl⟩ ?_
      clear hK K
      (try simp only [Act.put, List.setIfInBounds_toArray, List.set_cons_zero, List.set_cons_succ])
      refine mix_loud (fuel := 15) (fuel' := 16) (i := 9) rfl (by kernel_rfl) rfl rfl (by rfl) ?_
      intro K hK
      go_simp
      refine (cru _ HB8.out).mono ?_
      rintro e w9 ⟨rfl, HB9⟩
      (try go_simp)
      refine hK.out _ _ ⟨⟨w9, HB9.out⟩, rfl⟩ ?_
      clear hK K
      (try simp only [Act.put, List.setIfInBounds_toArray, List.set_cons_zero, List.set_cons_succ])
      refine mix_seg (fuel := 8) (fuel' := 15) (idx := [10, 11, 12, 13, 14, 16, 17]) (by kernel_rfl) rfl rfl rfl (fun _ _ _ _ _ h => h) ⟨⟨w9, HB9.out⟩, rfl⟩ ?_
      show wpQuiet _ _ _ _ [_, _, _, _, _, _, _] _
      iterate 7 (go_big_quiet_step (fail))
      refine wpQuiet_nil ?_
      refine mix_loud (fuel := 7) (fuel' := 8) (i := 15) rfl (by kernel_rfl) rfl rfl (by rfl) ?_
      intro K hK
      go_simp
      refine (csh _ HB9.out).mono ?_
      rintro e wa ⟨rfl, HBa⟩
      (try go_simp)
      refine hK.out _ _ ⟨⟨wa, HBa.out⟩, rfl⟩ ?_
      clear hK K
      (try simp only [Act.put, List.setIfInBounds_toArray, List.set_cons_zero, List.set_cons_succ])
      refine mix_loud (fuel := 6) (fuel' := 7) (i := 18) rfl (by kernel_rfl) rfl rfl (by rfl) ?_
      intro K hK
      go_simp
      refine (crs _ HBa.out).mono ?_
      rintro e wb ⟨rfl, HBb⟩
      (try go_simp)
      refine hK.out _ _ ⟨⟨wb, HBb.out⟩, rfl⟩ ?_
      clear hK K
      (try simp only [Act.put, List.setIfInBounds_toArray, List.set_cons_zero, List.set_cons_succ])
      refine mix_seg (fuel := 3) (fuel' := 6) (idx := [19, 20, 21]) (by kernel_rfl) rfl rfl rfl (fun _ _ _ _ _ h => h) ⟨⟨wb, HBb.out⟩, rfl⟩ ?_
      show wpQuiet _ _ _ _ [_, _, _] _
      iterate 3 (go_big_quiet_step (fail))
      refine wpQuiet_nil ?_
      refine mix_loud (fuel := 2) (fuel' := 3) (i := 22) rfl (by kernel_rfl) rfl rfl (by rfl) ?_
      intro K hK
      go_simp
      refine (clv _ HBb.out).mono ?_
      rintro e wd ⟨rfl, HBd⟩
      (try go_simp)
      refine hK.out _ _ ⟨⟨wd, HBd.out⟩, rfl⟩ ?_
      clear hK K
      (try simp only [Act.put, List.setIfInBounds_toArray, List.set_cons_zero, List.set_cons_succ])
      refine mix_seg (fuel := 0) (fuel' := 2) (idx := [23, 24]) (by kernel_rfl) rfl rfl rfl (fun _ _ _ _ _ h => h) ⟨⟨wd, HBd.out⟩, rfl⟩ ?_
      show wpQuiet _ _ _ _ [_, _] _
      iterate 2 (go_big_quiet_step (fail))
      refine wpQuiet_nil ?_
      refine mix_done (by kernel_rfl) ?_
      have HBe : Hid (Below w.heap.size w wd) := HBwc.out.trans (HBd.out.mono HBwc.out.size)
      go_wp2
      go_ret
      exact ⟨rfl, HBe.out⟩
end Go.Proofs.YtchpmnmngeebjaaDoor
