/- heap: the laws' lives. -/
import Derived.Test.YtchpmnmngeebjaaGreatDoorHConc
namespace Go.Proofs.YtchpmnmngeebjaaGreatDoor
open Go.RowKit Go.Shelf

theorem zeroV_box (w : World) : (w.alloc (.cells #[.int .i64 0, .int .i64 0, .string ⟨#[]⟩] 25)).heap[w.heap.size]? = some (.cells #[.int .i64 0, .int .i64 0, .string ⟨#[]⟩] 25 (0, 0)) := World.alloc_heap_new _ _

set_option maxRecDepth 100000 in
set_option maxHeartbeats 2000000 in
theorem hnum_any (n : Int) (w : World) :
    Calls Tryz.prog 15 #[.int .i64 n] w fun e w' => e = .returned (vlV ⟨1, n, []⟩) ∧ Below w.heap.size w w' := by
  go_enter Tryz.func15, Tryz.ntmps15
  go_wp2
  exact bodyPost_ret (v := .agg #[.int .i64 1, .int .i64 n, .string ⟨#[]⟩]) (by simp [results, Tryz.results15, go_sem]) rfl ⟨rfl, (Below.refl _ w).alloc (Nat.le_refl _) _⟩

set_option maxRecDepth 100000 in
set_option maxHeartbeats 2000000 in
theorem href_any (n : Int) (w : World) :
    Calls Tryz.prog 18 #[.int .i64 n] w fun e w' => e = .returned (vlV ⟨4, n, []⟩) ∧ Below w.heap.size w w' := by
  go_enter Tryz.func18, Tryz.ntmps18
  go_wp2
  exact bodyPost_ret (v := .agg #[.int .i64 4, .int .i64 n, .string ⟨#[]⟩]) (by simp [results, Tryz.results18, go_sem]) rfl ⟨rfl, (Below.refl _ w).alloc (Nat.le_refl _) _⟩

/-- Two values that were just laid. -/
theorem valsIn_two (w : World) (a b : Vl) : valsIn (fun k => k = w.heap.size) (w.alloc (.cells #[.int .i64 a.k, .int .i64 a.n, .string (strB a.s), .int .i64 b.k, .int .i64 b.n, .string (strB b.s)] 25)) (.slice (some ⟨w.heap.size, 0, none⟩) 2 2) [a, b] := by
  refine ⟨_, 2, rfl, by simp, by unfold maxLen; omega, .inr ⟨w.heap.size, 0, rfl, rfl, by simp, fun j u hj => ?_⟩⟩
  have h9 := cells_new w [.int .i64 a.k, .int .i64 a.n, .string (strB a.s), .int .i64 b.k, .int .i64 b.n, .string (strB b.s)] 25 j u hj
  by_cases h0 : j = 0
  · subst h0; simpa [Addr.add] using h9
  · simpa [Addr.add, h0] using h9

set_option maxRecDepth 100000 in
set_option maxHeartbeats 4000000 in
theorem lives06_any (w : World) (ht : TabsP w) :
    Calls Tryz.prog 6 #[] w fun e w' => e = .returned (.bool true) ∧ Below w.heap.size w w' := by
  have HT : Hid (TabsP w) := ht
  clear ht
  go_enter Tryz.func6, Tryz.ntmps6
  go_wp2_with fail
  refine (new_any 9 w).mono ?_
  rintro e w1 ⟨rfl, H1, hb1⟩
  rw [show mostN 9 = 9 from rfl] at H1
  have hs1 := H1.lt
  go_wp2_with fail
  refine (hnum_any 1 w1).mono ?_
  rintro e w2 ⟨rfl, hb2⟩
  go_wp2_with fail
  refine (hnum_any 2 w2).mono ?_
  rintro e w3 ⟨rfl, hb3⟩
  have h13 : Below w1.heap.size w1 w3 := hb2.trans (hb3.mono hb2.size)
  obtain ⟨w4, hw4⟩ : ∃ w4, w4 = w3.alloc (.cells #[.int .i64 1, .int .i64 1, .string ⟨#[]⟩, .int .i64 1, .int .i64 2, .string ⟨#[]⟩] 25) := ⟨_, rfl⟩
  have h14 : Below w1.heap.size w1 w4 := by rw [hw4]; exact h13.alloc h13.size _
  have hB4 : Below w.heap.size w w4 := hb1.trans (h14.mono (by omega))
  have c4 := alloc_any (T := fun k => k = w3.heap.size) exO1 (.slice (some ⟨w3.heap.size, 0, none⟩) 2 2) w4 (H1.below h14) (by rw [hw4]; exact valsIn_two w3 ⟨1, 1, []⟩ ⟨1, 2, []⟩) ⟨by simp [exO1], fun v hv => by simp [exO1] at hv; rcases hv with rfl | rfl <;> simp [smallV]⟩ (by simp [exO1]) (HT.out.below hB4 (Nat.le_refl _))
  rw [exA1] at c4
  have HB4 : Hid (Below w.heap.size w w4) := hB4
  have hs4 : w1.heap.size ≤ w4.heap.size := h14.size
  have hw4' := hw4.symm
  clear hw4 h14 h13 hb3 hb2 hb1 H1 hB4
  go_wp2_with fail
  refine c4.mono ?_
  clear c4
  rintro e w5 ⟨rfl, hk5, vo5, vc5, H5⟩
  have hlt5 := H5.lt
  have hs5 := hk5.size
  have hB5 : Below w.heap.size w w5 := HB4.out.trans (hk5.below HB4.out.size (fun i h => h))
  have H5' : HpIn (fun k => w.heap.size ≤ k ∧ k < w5.heap.size) w5 9 [exO1] w.heap.size vo5 vc5 := H5.low.wide fun k _ hk => ⟨by rcases hk.1 with h | h <;> omega, hk.2⟩
  obtain ⟨w6, hw6⟩ : ∃ w6, w6 = w5.alloc (.cells #[.int .i64 4, .int .i64 0, .string ⟨#[]⟩] 25) := ⟨_, rfl⟩
  have hs6 : w6.heap.size = w5.heap.size + 1 := by rw [hw6]; simp
  have h56 : Below w5.heap.size w5 w6 := by rw [hw6]; exact (Below.refl _ _).alloc (Nat.le_refl _) _
  have ba6 : w6.heap[w5.heap.size]? = some (.cells #[.int .i64 4, .int .i64 0, .string ⟨#[]⟩] 25 (0, 0)) := by rw [hw6]; exact World.alloc_heap_new _ _
  obtain ⟨w7, hw7⟩ : ∃ w7, w7 = w6.alloc (.cells #[.int .i64 4, .int .i64 0, .string ⟨#[]⟩, .int .i64 2, .int .i64 1, .string ⟨#[]⟩] 25) := ⟨_, rfl⟩
  have hs7 : w7.heap.size = w6.heap.size + 1 := by rw [hw7]; simp
  have h57 : Below w5.heap.size w5 w7 := by rw [hw7]; exact h56.alloc (by omega) _
  have ba7 : w7.heap[w5.heap.size]? = some (.cells #[.int .i64 4, .int .i64 0, .string ⟨#[]⟩] 25 (0, 0)) := by rw [hw7, Below.heap_alloc _ _ _ (by omega)]; exact ba6
  have hB7 : Below w.heap.size w w7 := hB5.trans (h57.mono (by omega))
  have c8 := alloc_any (T := fun k => k = w6.heap.size) exO2 (.slice (some ⟨w6.heap.size, 0, none⟩) 2 2) w7 (H5'.below h57) (by rw [hw7]; exact valsIn_two w6 ⟨4, 0, []⟩ ⟨2, 1, []⟩) ⟨by simp [exO2], fun v hv => by simp [exO2] at hv; rcases hv with rfl | rfl <;> simp [smallV]⟩ (by simp [exO2]) (HT.out.below hB7 (Nat.le_refl _))
  rw [exA2] at c8
  have HW6 : Hid (w6 = w5.alloc (.cells #[.int .i64 4, .int .i64 0, .string ⟨#[]⟩] 25)) := hw6
  have HW7 : Hid (w7 = w6.alloc (.cells #[.int .i64 4, .int .i64 0, .string ⟨#[]⟩, .int .i64 2, .int .i64 1, .string ⟨#[]⟩] 25)) := hw7
  have HBA7 : Hid (w7.heap[w5.heap.size]? = some (.cells #[.int .i64 4, .int .i64 0, .string ⟨#[]⟩] 25 (0, 0))) := ba7
  have HB7 : Hid (Below w.heap.size w w7) := hB7
  clear hw6 hw7 ba6 ba7 h56 h57 hB7 hB5 hk5 H5 H5'
  go_wp2_with fail
  rw [← HW6.out, ← HW7.out, show w5.heap.size + 1 = w6.heap.size from hs6.symm]
  refine c8.mono ?_
  clear c8
  rintro e w8 ⟨rfl, hk8, vo8, vc8, H8⟩
  have hs8 := hk8.size
  have ba8 := (hk8.block w5.heap.size (by omega) (by omega)).trans HBA7.out
  have hB8 : Below w.heap.size w w8 := HB7.out.trans (hk8.below HB7.out.size (fun i h => h.1))
  have H8' : HpIn (fun k => ((w.heap.size ≤ k ∧ k < w5.heap.size) ∨ w7.heap.size ≤ k) ∧ k < w8.heap.size) w8 9 [exO1, exO2] w.heap.size vo8 vc8 := H8.low
  obtain ⟨w9, hw9⟩ : ∃ w9, w9 = w8.alloc (.cells #[.int .i64 4, .int .i64 1, .string ⟨#[]⟩] 25) := ⟨_, rfl⟩
  have hs9 : w9.heap.size = w8.heap.size + 1 := by rw [hw9]; simp
  have h89 : Below w8.heap.size w8 w9 := by rw [hw9]; exact (Below.refl _ _).alloc (Nat.le_refl _) _
  have bb9 : w9.heap[w8.heap.size]? = some (.cells #[.int .i64 4, .int .i64 1, .string ⟨#[]⟩] 25 (0, 0)) := by rw [hw9]; exact World.alloc_heap_new _ _
  have ba9 := (h89.block w5.heap.size (by omega)).trans ba8
  have H9 := H8'.below h89
  have hB9 : Below w.heap.size w w9 := hB8.trans (h89.mono (by omega))
  have c10 := show_any ⟨4, 1, []⟩ w9 H9 (by simp [smallV]) (HT.out.below hB9 (Nat.le_refl _))
  rw [exS1] at c10
  have HW9 : Hid (w9 = w8.alloc (.cells #[.int .i64 4, .int .i64 1, .string ⟨#[]⟩] 25)) := hw9
  have HH9 : Hid (HpIn (fun k => ((w.heap.size ≤ k ∧ k < w5.heap.size) ∨ w7.heap.size ≤ k) ∧ k < w8.heap.size) w9 9 [exO1, exO2] w.heap.size vo8 vc8) := H9
  have HB9 : Hid (Below w.heap.size w w9) := hB9
  have HBA9 : Hid (w9.heap[w5.heap.size]? = some (.cells #[.int .i64 4, .int .i64 0, .string ⟨#[]⟩] 25 (0, 0)) ∧ w9.heap[w8.heap.size]? = some (.cells #[.int .i64 4, .int .i64 1, .string ⟨#[]⟩] 25 (0, 0))) := ⟨ba9, bb9⟩
  clear hw9 ba8 ba9 bb9 h89 hB8 hB9 hk8 H8 H8' H9
  go_wp2_with fail
  rw [← HW9.out]
  refine c10.mono ?_
  clear c10
  rintro e w10 ⟨rfl, hb10⟩
  have H10 := HH9.out.below hb10
  have c11 := used_any w10 H10
  rw [show [exO1, exO2].length + (allV [exO1, exO2]).length = 6 from rfl] at c11
  have HB10 : Hid (Below w9.heap.size w9 w10) := hb10
  clear hb10 H10
  go_wp2_with fail
  refine c11.mono ?_
  clear c11
  rintro e w11 ⟨rfl, hb11⟩
  have h911 : Below w9.heap.size w9 w11 := HB10.out.trans (hb11.mono HB10.out.size)
  have hs11 := h911.size
  have hB11 : Below w.heap.size w w11 := HB9.out.trans (h911.mono (by omega))
  have ba11 := (h911.block w5.heap.size (by omega)).trans HBA9.out.1
  have bb11 := (h911.block w8.heap.size (by omega)).trans HBA9.out.2
  obtain ⟨r0, r1, r2, -⟩ := cellsH3 ba11
  obtain ⟨q0, q1, q2, -⟩ := cellsH3 bb11
  have c12 : Calls Tryz.prog 16 #[.pointer (some ⟨w.heap.size, 0, none⟩), vlV ⟨4, 0, []⟩, .int .i64 1, vlV ⟨4, 1, []⟩] w11 _ := set_ok 0 (by simp) ⟨4, 1, []⟩ 1 (by simp [exO1]) w11 (HH9.out.below h911) (by simp [smallV]) (HT.out.below hB11 (Nat.le_refl _)) (by simp [cellV, rightV])
  have HBA11 : Hid (w11.heap[w5.heap.size]? = some (.cells #[.int .i64 4, .int .i64 0, .string ⟨#[]⟩] 25 (0, 0)) ∧ w11.heap[w8.heap.size]? = some (.cells #[.int .i64 4, .int .i64 1, .string ⟨#[]⟩] 25 (0, 0))) := ⟨ba11, bb11⟩
  have HB11 : Hid (Below w.heap.size w w11) := hB11
  clear ba11 bb11 hB11 h911 hb11
  go_wp2_with fail
  refine c12.mono ?_
  clear c12 r0 r1 r2 q0 q1 q2
  rintro e w12 ⟨rfl, hk12, H12⟩
  have hs12 := hk12.size
  have ba12 := (hk12.block w5.heap.size (by omega) (by omega)).trans HBA11.out.1
  have bb12 := (hk12.block w8.heap.size (by omega) (by omega)).trans HBA11.out.2
  have hB12 : Below w.heap.size w w12 := HB11.out.trans (hk12.below HB11.out.size (fun i h => by rcases h.1 with h | h <;> omega))
  have c13 : Calls Tryz.prog 17 #[.pointer (some ⟨w.heap.size, 0, none⟩), vlV ⟨4, 0, []⟩, .int .i64 2] w12 _ := get_none 0 (by rw [setOs_len]; simp) 2 w12 H12 (HT.out.below hB12 (Nat.le_refl _)) (by simp [setOs, exO1, hasB])
  obtain ⟨r0, r1, r2, -⟩ := cellsH3 ba12
  have HBA12 : Hid (w12.heap[w5.heap.size]? = some (.cells #[.int .i64 4, .int .i64 0, .string ⟨#[]⟩] 25 (0, 0)) ∧ w12.heap[w8.heap.size]? = some (.cells #[.int .i64 4, .int .i64 1, .string ⟨#[]⟩] 25 (0, 0))) := ⟨ba12, bb12⟩
  have HB12 : Hid (Below w.heap.size w w12) := hB12
  have HH12 : Hid (HpIn (fun k => ((w.heap.size ≤ k ∧ k < w5.heap.size) ∨ w7.heap.size ≤ k) ∧ k < w8.heap.size) w12 9 (setOs [exO1, exO2] 0 1 ⟨4, 1, []⟩) w.heap.size vo8 vc8) := H12
  clear ba12 bb12 hB12 hk12 H12
  go_wp2_with fail
  refine c13.mono ?_
  clear c13 r0 r1 r2
  rintro e w13 ⟨rfl, hb13⟩
  have hs13 := hb13.size
  obtain ⟨w14, hw14⟩ : ∃ w14, w14 = w13.alloc (.cells #[.int .i64 0, .int .i64 0, .string ⟨#[]⟩] 25) := ⟨_, rfl⟩
  have h1214 : Below w12.heap.size w12 w14 := by rw [hw14]; exact hb13.alloc hs13 _
  have hs14 := h1214.size
  have hB14 : Below w.heap.size w w14 := HB12.out.trans (h1214.mono (by omega))
  obtain ⟨r0, r1, r2, -⟩ := cellsH3 ((h1214.block w5.heap.size (by omega)).trans HBA12.out.1)
  obtain ⟨q0, q1, q2, -⟩ := cellsH3 ((h1214.block w8.heap.size (by omega)).trans HBA12.out.2)
  have HS : Hid (∀ wx, Below w14.heap.size w14 wx → Calls Tryz.prog 10 #[.pointer (some ⟨w.heap.size, 0, none⟩), vlV ⟨4, 1, []⟩] wx fun e w'' => e = .returned (.string ⟨#[80, 40, 91, 49, 44, 32, 46, 46, 46, 93, 44, 32, 116, 114, 117, 101, 41]⟩) ∧ Below w14.heap.size w14 w'') := fun wx hx => by
    have h12x : Below w12.heap.size w12 wx := h1214.trans (hx.mono hs14)
    have c := show_any ⟨4, 1, []⟩ wx (HH12.out.below h12x) (by simp [smallV]) ((HT.out.below HB12.out (Nat.le_refl _)).below h12x (Nat.le_refl _))
    rw [exS2] at c
    exact c.mono fun e w'' ⟨he, hb⟩ => ⟨he, hx.trans (hb.mono hx.size)⟩
  have HA0 : Hid (∀ wx, Below w14.heap.size w14 wx → Calls Tryz.prog 18 #[.int .i64 0] wx fun e w'' => e = .returned (vlV ⟨4, 0, []⟩) ∧ Below w14.heap.size w14 w'') := fun wx hx => (href_any 0 wx).mono fun e w'' ⟨he, hb⟩ => ⟨he, hx.trans (hb.mono hx.size)⟩
  have HA1 : Hid (∀ wx, Below w14.heap.size w14 wx → Calls Tryz.prog 18 #[.int .i64 1] wx fun e w'' => e = .returned (vlV ⟨4, 1, []⟩) ∧ Below w14.heap.size w14 w'') := fun wx hx => (href_any 1 wx).mono fun e w'' ⟨he, hb⟩ => ⟨he, hx.trans (hb.mono hx.size)⟩
  have x0 := cls_cell (n := w14.heap.size) r0 (by simp only; omega)
  have x1 := cls_cell (n := w14.heap.size) r1 (by simp only; omega)
  have x2 := cls_cell (n := w14.heap.size) r2 (by simp only; omega)
  have y0 := cls_cell (n := w14.heap.size) q0 (by simp only; omega)
  have y1 := cls_cell (n := w14.heap.size) q1 (by simp only; omega)
  have y2 := cls_cell (n := w14.heap.size) q2 (by simp only; omega)
  have HB14 : Hid (Below w.heap.size w w14) := hB14
  have HW14 : Hid (w14 = w13.alloc (.cells #[.int .i64 0, .int .i64 0, .string ⟨#[]⟩] 25)) := hw14
  clear hw14 hb13 hB14 h1214 r0 r1 r2 q0 q1 q2
  go_wp2_with fail
  rw [← HW14.out]
  refine wp_region_cls (n := w14.heap.size) (w0 := w14) (Below.refl _ _) (by kernel_rfl) (by kernel_rfl) ?_
  go_big_quiet_step (fail)
  go_big_quiet_step (exact cls_calls HA0.out _)
  iterate 7 (go_big_quiet_step (fail))
  go_big_quiet_step (exact cls_calls HA1.out _)
  iterate 21 (go_big_quiet_step (fail))
  go_big_quiet_step (exact cls_calls HS.out _)
  iterate 11 (go_big_quiet_step (fail))
  refine wpQuiet_nil ?_
  rintro _ ⟨c, rfl⟩
  have HBc : Hid (Below w.heap.size w c.1) := HB14.out.trans (c.2.mono (by have := HB14.out.size; omega))
  clear x0 x1 x2 y0 y1 y2
  go_wp2
  go_ret
  exact ⟨rfl, HBc.out⟩
end Go.Proofs.YtchpmnmngeebjaaGreatDoor
