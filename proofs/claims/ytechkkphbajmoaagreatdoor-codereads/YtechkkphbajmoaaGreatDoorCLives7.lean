/- code: the laws' lives. -/
import Derived.Test.YtechkkphbajmoaaGreatDoorCExCalls
import Derived.Test.YtechkkphbajmoaaGreatDoorWMix
namespace Go.Proofs.YtechkkphbajmoaaGreatDoor
open Go.RowKit Go.Shelf

set_option maxRecDepth 100000 in
set_option maxHeartbeats 8000000 in
theorem lives07_any (w : World) (ht : TabsP w) (hot : OpT w) :
    Calls Tryz.prog 7 #[] w fun e w' => e = .returned (.bool true) ∧ Below w.heap.size w w' := by
  have HT : Hid (∀ W, Below w.heap.size w W → TabsP W ∧ OpT W) := fun W hW => ⟨ht.below hW (Nat.le_refl _), hot.below hW (Nat.le_refl _)⟩
  clear ht hot
  go_enter Tryz.func7, Tryz.ntmps7
  go_wp2_with fail
  refine (exam_in w).mono ?_
  rintro e w1 ⟨rfl, hx1, hb1⟩
  have HB1 : Hid (Below w.heap.size w w1) := hb1
  have c := exHeights hx1 (HT.out w1 hb1).1 (HT.out w1 hb1).2
  clear hx1 hb1
  go_wp2_with fail
  refine c.mono ?_
  clear c
  rintro e w2 ⟨⟨b2, c2, rfl, hr2⟩, hb2⟩
  have HB2 : Hid (Below w.heap.size w w2) := HB1.out.trans (hb2.mono HB1.out.size)
  have HR2 : Hid (rowIn (fun q => w1.heap.size ≤ q) w2 (.slice b2 4 c2) 1 intE [0, 0, 1, 0]) := hr2
  clear hr2 hb2
  go_wp2_with fail
  refine (exam_in w2).mono ?_
  rintro e w3 ⟨rfl, hx3, hb3⟩
  have H23 : Hid (Below w2.heap.size w2 w3) := hb3
  have HB3 : Hid (Below w.heap.size w w3) := HB2.out.trans (hb3.mono HB2.out.size)
  have c := exList hx3 (HT.out w3 HB3.out).1 (HT.out w3 HB3.out).2
  clear hx3 hb3
  go_wp2_with fail
  refine c.mono ?_
  clear c
  rintro e w4 ⟨⟨b4, c4, rfl, hr4⟩, hb4⟩
  have H24 : Hid (Below w2.heap.size w2 w4) := H23.out.trans (hb4.mono H23.out.size)
  have HB4 : Hid (Below w.heap.size w w4) := HB3.out.trans (hb4.mono HB3.out.size)
  have HR4 : Hid (rowIn (fun q => w3.heap.size ≤ q) w4 (.slice b4 5 c4) 1 strE (listT cE)) := hr4
  clear hr4 hb4
  go_wp2_with fail
  refine (exam_in w4).mono ?_
  rintro e w5 ⟨rfl, hx5, hb5⟩
  have H45 : Hid (Below w4.heap.size w4 w5) := hb5
  have HB5 : Hid (Below w.heap.size w w5) := HB4.out.trans (hb5.mono HB4.out.size)
  have c := exBytes hx5 (HT.out w5 HB5.out).1 (HT.out w5 HB5.out).2
  clear hx5 hb5
  go_wp2_with fail
  refine c.mono ?_
  clear c
  rintro e w6 ⟨⟨b6, n6, c6, rfl, hr6⟩, hb6⟩
  have H46 : Hid (Below w4.heap.size w4 w6) := H45.out.trans (hb6.mono H45.out.size)
  have HB6 : Hid (Below w.heap.size w w6) := HB5.out.trans (hb6.mono HB5.out.size)
  have c := exLoad hr6 (HT.out w6 HB6.out).1 (HT.out w6 HB6.out).2
  clear hr6 hb6
  go_wp2_with fail
  refine c.mono ?_
  clear c
  rintro e w7 ⟨⟨xs, ns, cs, xh, nh, ch, xu, nu, cu, rfl, hr7⟩, hb7⟩
  have H47 : Hid (Below w4.heap.size w4 w7) := H46.out.trans (hb7.mono H46.out.size)
  have HB7 : Hid (Below w.heap.size w w7) := HB6.out.trans (hb7.mono HB6.out.size)
  have HR7 : Hid (CdIn w7 cE xs ns cs xh nh ch xu nu cu) := hr7
  obtain ⟨w8, hw8, hb8, HZ8, h8⟩ := box1 w7 (.cells #[.slice xs ns cs, .slice xh nh ch, .slice xu nu cu, .int .i64 0] 26)
  have HW8 : Hid (w8 = w7.alloc (.cells #[.slice xs ns cs, .slice xh nh ch, .slice xu nu cu, .int .i64 0] 26)) := hw8
  have HBX8 : Hid (w8.heap[w7.heap.size]? = some (.cells #[.slice xs ns cs, .slice xh nh ch, .slice xu nu cu, .int .i64 0] 26 (0, 0))) := h8
  have H78 : Hid (Below w7.heap.size w7 w8) := hb8
  clear hr7 hb7 hw8 hb8 h8
  go_wp2_with fail
  rw [← HW8.out]
  refine (exam_any w8).mono ?_
  rintro e w9 ⟨⟨rfl, hi9, hu9⟩, hb9⟩
  have H79 : Hid (Below w7.heap.size w7 w9) := H78.out.trans (hb9.mono H78.out.size)
  have HX9 : Hid (w9.heap[w8.heap.size + 1]? = some (.cells #[.int .i64 0, .int .i64 1, .int .i64 1, .int .i64 2, .int .i64 34, .int .i64 1, .int .i64 23, .int .i64 0] 62 (0, 0)) ∧
    w9.heap[w8.heap.size + 2]? = some (.cells #[.string (strB [109, 97, 105, 110]), .int .i64 0, .int .i64 0, .int .i64 1, .bool false, .slice (some ⟨w8.heap.size + 1, 0, none⟩) 4 4, .slice none 0 0] 58 (0, 0))) := ⟨hi9, hu9⟩
  have H89 : Hid (Below w8.heap.size w8 w9) := hb9
  obtain ⟨N, hN⟩ : ∃ N, N = w8.heap.size := ⟨_, rfl⟩
  have HN : Hid (N = w8.heap.size) := hN
  rw [← hN] at HX9 ⊢
  obtain ⟨w10, hw10, hb10, HZ10, h10⟩ := box1 w9 (.cells #[.slice none 0 0, .slice none 0 0, .slice (some ⟨N + 2, 0, none⟩) 1 1, .int .i64 0] 26)
  have HW10 : Hid (w10 = w9.alloc (.cells #[.slice none 0 0, .slice none 0 0, .slice (some ⟨N + 2, 0, none⟩) 1 1, .int .i64 0] 26)) := hw10
  have HBX10 : Hid (w10.heap[w9.heap.size]? = some (.cells #[.slice none 0 0, .slice none 0 0, .slice (some ⟨N + 2, 0, none⟩) 1 1, .int .i64 0] 26 (0, 0))) := h10
  have H910 : Hid (Below w9.heap.size w9 w10) := hb10
  clear hi9 hu9 hb9 hN hw10 hb10 h10
  go_upto_region 6 with fail
  rw [← HW10.out]
  obtain ⟨wd, hwd⟩ : ∃ wd, wd = w10.drew := ⟨_, rfl⟩
  have HWD : Hid (wd = w10.drew) := hwd
  have H9d : Hid (Below w9.heap.size w9 wd) := by rw [hwd]; exact H910.out.drew
  have di : wd.heap[N + 1]? = some (.cells #[.int .i64 0, .int .i64 1, .int .i64 1, .int .i64 2, .int .i64 34, .int .i64 1, .int .i64 23, .int .i64 0] 62 (0, 0)) := (H9d.out.block _ (heap_lt HX9.out.1)).trans HX9.out.1
  have du : wd.heap[N + 2]? = some (.cells #[.string (strB [109, 97, 105, 110]), .int .i64 0, .int .i64 0, .int .i64 1, .bool false, .slice (some ⟨N + 1, 0, none⟩) 4 4, .slice none 0 0] 58 (0, 0)) := (H9d.out.block _ (heap_lt HX9.out.2)).trans HX9.out.2
  have dc : wd.heap[w9.heap.size]? = some (.cells #[.slice none 0 0, .slice none 0 0, .slice (some ⟨N + 2, 0, none⟩) 1 1, .int .i64 0] 26 (0, 0)) := by rw [hwd]; exact HBX10.out
  have hNl : N + 2 < w9.heap.size := heap_lt HX9.out.2
  obtain ⟨wa, hwa⟩ : ∃ wa, wa = wd.setCell ⟨N + 1, 4, none⟩ (.int .i64 6) := ⟨_, rfl⟩
  have HWA : Hid (wa = wd.setCell ⟨N + 1, 4, none⟩ (.int .i64 6)) := hwa
  have ai : wa.heap[N + 1]? = some (.cells #[.int .i64 0, .int .i64 1, .int .i64 1, .int .i64 2, .int .i64 6, .int .i64 1, .int .i64 23, .int .i64 0] 62 (0, 0)) := by rw [hwa]; exact csetCell_block _ di
  have hka : ∀ k, k ≠ N + 1 → wa.heap[k]? = wd.heap[k]? := fun k hk => by rw [hwa]; exact Below.heap_setCell _ _ _ _ (by simpa using hk)
  obtain ⟨w11, hw11⟩ : ∃ w11, w11 = wa.setCell ⟨N + 1, 5, none⟩ (.int .i64 1) := ⟨_, rfl⟩
  have HW11 : Hid (w11 = wa.setCell ⟨N + 1, 5, none⟩ (.int .i64 1)) := hw11
  have bi : w11.heap[N + 1]? = some (.cells #[.int .i64 0, .int .i64 1, .int .i64 1, .int .i64 2, .int .i64 6, .int .i64 1, .int .i64 23, .int .i64 0] 62 (0, 0)) := by rw [hw11]; exact csetCell_block _ ai
  have hkb : ∀ k, k ≠ N + 1 → w11.heap[k]? = wd.heap[k]? := fun k hk => by rw [hw11, Below.heap_setCell _ _ _ _ (by simpa using hk)]; exact hka k hk
  have bu : w11.heap[N + 2]? = some (.cells #[.string (strB [109, 97, 105, 110]), .int .i64 0, .int .i64 0, .int .i64 1, .bool false, .slice (some ⟨N + 1, 0, none⟩) 4 4, .slice none 0 0] 58 (0, 0)) := (hkb _ (by omega)).trans du
  have bc : w11.heap[w9.heap.size]? = some (.cells #[.slice none 0 0, .slice none 0 0, .slice (some ⟨N + 2, 0, none⟩) 1 1, .int .i64 0] 26 (0, 0)) := (hkb _ (by omega)).trans dc
  have hw7N : w7.heap.size < N := by have := HZ8.out; have := HN.out; omega
  have H8d : Hid (Below N w8 wd) := by
    have h1 := H89.out
    rw [← HN.out] at h1
    exact h1.trans (H9d.out.mono (by omega))
  have H811 : Hid (Below N w8 w11) := by rw [hw11, hwa]; exact (H8d.out.setCell (by simp only; omega) _).setCell (by simp only; omega) _
  have H7b : Hid (Below w7.heap.size w7 w11) := H78.out.trans (H811.out.mono (by omega))
  have b8 : w11.heap[w7.heap.size]? = some (.cells #[.slice xs ns cs, .slice xh nh ch, .slice xu nu cu, .int .i64 0] 26 (0, 0)) := (H811.out.block _ hw7N).trans HBX8.out
  have HB11 : Hid (Below w.heap.size w w11) := HB7.out.trans (H7b.out.mono HB7.out.size)
  have H411 : Hid (Below w4.heap.size w4 w11) := H47.out.trans (H7b.out.mono H47.out.size)
  have H211 : Hid (Below w2.heap.size w2 w11) := H24.out.trans (H411.out.mono H24.out.size)
  have HBAD : Hid (ExIn w11 cB (N + 2)) := cB_in bi bu
  have HR2b : Hid (rowIn (fun q => w1.heap.size ≤ q) w11 (.slice b2 4 c2) 1 intE [0, 0, 1, 0]) := rowIn.kept HR2.out (intE_keeps _) H211.out.size fun q _ hq => H211.out.block q hq
  have HR4b : Hid (rowIn (fun q => w3.heap.size ≤ q) w11 (.slice b4 5 c4) 1 strE (listT cE)) := rowIn.kept HR4.out (strE_keeps _) H411.out.size fun q _ hq => H411.out.block q hq
  have HR7b : Hid (CdIn w11 cE xs ns cs xh nh ch xu nu cu) := HR7.out.below H7b.out
  have HBL : Hid (w7.heap.size < w11.heap.size ∧ w9.heap.size < w11.heap.size) := ⟨heap_lt b8, heap_lt bc⟩
  have HB8 : Hid (w11.heap[w7.heap.size]? = some (.cells #[.slice xs ns cs, .slice xh nh ch, .slice xu nu cu, .int .i64 0] 26 (0, 0))) := b8
  have HBC : Hid (w11.heap[w9.heap.size]? = some (.cells #[.slice none 0 0, .slice none 0 0, .slice (some ⟨N + 2, 0, none⟩) 1 1, .int .i64 0] 26 (0, 0))) := bc
  have p0 : wd.cell? ⟨w9.heap.size, 2, none⟩ = some (.slice (some ⟨N + 2, 0, none⟩) 1 1) := (bcells4 dc).2.2.1
  have p1 : wd.cell? ⟨N + 2, 5, none⟩ = some (.slice (some ⟨N + 1, 0, none⟩) 4 4) := by simp only [World.cell?, du]; rfl
  have p2 : wd.cell? ⟨N + 1, 4, none⟩ = some (.int .i64 34) := by simp only [World.cell?, di]; rfl
  have p3 : wa.cell? ⟨N + 1, 5, none⟩ = some (.int .i64 1) := by simp only [World.cell?, ai]; rfl
  have q2 := cfrozen di 4
  have q3 := cfrozen ai 5
  have HPA : Hid (wa.cell? ⟨w9.heap.size, 2, none⟩ = some (.slice (some ⟨N + 2, 0, none⟩) 1 1) ∧ wa.cell? ⟨N + 2, 5, none⟩ = some (.slice (some ⟨N + 1, 0, none⟩) 4 4)) := ⟨(World.cell?_of_block (hka _ (by simp only; omega))).trans p0, (World.cell?_of_block (hka _ (by simp only; omega))).trans p1⟩
  have HPB : Hid (w11.cell? ⟨w9.heap.size, 2, none⟩ = some (.slice (some ⟨N + 2, 0, none⟩) 1 1) ∧ w11.cell? ⟨N + 2, 5, none⟩ = some (.slice (some ⟨N + 1, 0, none⟩) 4 4)) := ⟨(World.cell?_of_block (hkb _ (by simp only; omega))).trans p0, (World.cell?_of_block (hkb _ (by simp only; omega))).trans p1⟩
  have HPD : Hid (wd.cell? ⟨w9.heap.size, 2, none⟩ = some (.slice (some ⟨N + 2, 0, none⟩) 1 1) ∧ wd.cell? ⟨N + 2, 5, none⟩ = some (.slice (some ⟨N + 1, 0, none⟩) 4 4)) := ⟨p0, p1⟩
  haveI hne : Nonempty (ClsP fun W => W.cell? ⟨w9.heap.size, 2, none⟩ = some (.slice (some ⟨N + 2, 0, none⟩) 1 1) ∧ W.cell? ⟨N + 2, 5, none⟩ = some (.slice (some ⟨N + 1, 0, none⟩) 4 4)) := ⟨⟨wd, HPD.out⟩⟩
  have x1 : ∀ c : ClsP fun W => W.cell? ⟨w9.heap.size, 2, none⟩ = some (.slice (some ⟨N + 2, 0, none⟩) 1 1) ∧ W.cell? ⟨N + 2, 5, none⟩ = some (.slice (some ⟨N + 1, 0, none⟩) 4 4), c.1.cell? ⟨w9.heap.size, 2, none⟩ = some (.slice (some ⟨N + 2, 0, none⟩) 1 1) := fun c => c.2.1
  have x2 : ∀ c : ClsP fun W => W.cell? ⟨w9.heap.size, 2, none⟩ = some (.slice (some ⟨N + 2, 0, none⟩) 1 1) ∧ W.cell? ⟨N + 2, 5, none⟩ = some (.slice (some ⟨N + 1, 0, none⟩) 4 4), c.1.cell? ⟨N + 2, 5, none⟩ = some (.slice (some ⟨N + 1, 0, none⟩) 4 4) := fun c => c.2.2
  clear hwd di du dc hNl hwa ai hka hw11 bi hkb bu bc hw7N b8 p0 p1
  refine mix_begin (n := 16) (S := fun w' => ∃ c : ClsP fun W => W.cell? ⟨w9.heap.size, 2, none⟩ = some (.slice (some ⟨N + 2, 0, none⟩) 1 1) ∧ W.cell? ⟨N + 2, 5, none⟩ = some (.slice (some ⟨N + 1, 0, none⟩) 4 4), w' = c.1) (by kernel_rfl) rfl rfl ?_
  rw [← HWD.out]
  refine mix_seg (fuel := 4) (fuel' := 16) (idx := [0, 1, 2, 3, 4, 5, 6, 7, 8, 9, 10, 11]) (by decide +kernel) rfl rfl rfl (fun _ _ _ _ _ h => h) ⟨⟨wd, HPD.out⟩, rfl⟩ ?_
  show wpQuiet _ _ _ _ [_, _, _, _, _, _, _, _, _, _, _, _] _
  iterate 12 (go_big_quiet_step (fail))
  refine wpQuiet_nil ?_
  refine mix_loud (fuel := 3) (fuel' := 4) (i := 12) rfl (by decide +kernel) rfl rfl (by rfl) ?_
  intro K hK
  go_simp
  rw [← HWA.out]
  refine hK.out _ _ ⟨⟨wa, HPA.out⟩, rfl⟩ ?_
  clear hK K p2 q2
  refine mix_seg (fuel := 1) (fuel' := 3) (idx := [13, 14]) (by decide +kernel) rfl rfl rfl (fun _ _ _ _ _ h => h) ⟨⟨wa, HPA.out⟩, rfl⟩ ?_
  show wpQuiet _ _ _ _ [_, _] _
  iterate 2 (go_big_quiet_step (fail))
  refine wpQuiet_nil ?_
  refine mix_loud (fuel := 0) (fuel' := 1) (i := 15) rfl (by decide +kernel) rfl rfl (by rfl) ?_
  intro K hK
  go_simp
  rw [← HW11.out]
  refine hK.out _ _ ⟨⟨w11, HPB.out⟩, rfl⟩ ?_
  clear hK K p3 q3 x1 x2 hne
  refine mix_done (by decide +kernel) ?_
  obtain ⟨f0, f1, f2, f3⟩ := bcells4 HB8.out
  obtain ⟨g0, g1, g2, g3⟩ := bcells4 HBC.out
  have x0 := cls_cell (n := w11.heap.size) f0 HBL.out.1
  have x1 := cls_cell (n := w11.heap.size) f1 HBL.out.1
  have x2 := cls_cell (n := w11.heap.size) f2 HBL.out.1
  have x3 := cls_cell (n := w11.heap.size) f3 HBL.out.1
  have y0 := cls_cell (n := w11.heap.size) g0 HBL.out.2
  have y1 := cls_cell (n := w11.heap.size) g1 HBL.out.2
  have y2 := cls_cell (n := w11.heap.size) g2 HBL.out.2
  have y3 := cls_cell (n := w11.heap.size) g3 HBL.out.2
  clear f0 f1 f2 f3 g0 g1 g2 g3
  go_upto_region 7 with fail
  have HBd : Hid (Below w11.heap.size w11 w11.drew) := (Below.refl _ _).drew
  obtain ⟨w12, hw12⟩ : ∃ w12, w12 = (w11.alloc (.cells #[.int .i64 0, .int .i64 0, .int .i64 1, .int .i64 0] 3)).drew := ⟨_, rfl⟩
  have HW12 : Hid (w12 = (w11.alloc (.cells #[.int .i64 0, .int .i64 0, .int .i64 1, .int .i64 0] 3)).drew) := hw12
  have HB12 : Hid (Below w11.heap.size w11 w12) := by rw [hw12]; exact ((Below.refl _ _).alloc (Nat.le_refl _) _).drew
  have k12 : Calls Tryz.prog 12 #[.slice b2 4 c2, .slice (some ⟨w11.heap.size, 0, none⟩) 4 4] w12 fun e w' => e = .returned (.bool true) ∧ Below w12.heap.size w12 w' := by
    have h1 := rowIn.kept HR2b.out (intE_keeps _) HB12.out.size fun q _ hq => HB12.out.block q hq
    have h2 : rowIn (fun q => q = w11.heap.size) w12 (.slice (some ⟨w11.heap.size, 0, none⟩) 4 4) 1 intE [0, 0, 1, 0] := by rw [hw12]; exact rowIn.kept (nums_new w11) (intE_keeps _) (Nat.le_refl _) fun _ _ _ => rfl
    have h3 := rfSameNums _ _ _ _ _ _ w12 h1 h2 (by simp)
    rw [decide_eq_true (p := ([0, 0, 1, 0] : List Int) = [0, 0, 1, 0]) rfl] at h3
    exact h3
  have K14 : Hid (∀ W, Below w11.heap.size w11 W → Calls Tryz.prog 17 #[.slice b4 5 c4, .slice (some ⟨W.heap.size, 0, none⟩) 5 5] (W.alloc (.cells #[.string { data := #[102, 110, 32, 109, 97, 105, 110] }, .string { data := #[48, 32, 109, 97, 114, 107, 32, 49] }, .string { data := #[49, 32, 105, 110, 116, 32, 50] }, .string { data := #[50, 32, 112, 114, 105, 110, 116, 32, 49] }, .string { data := #[51, 32, 114, 101, 116, 117, 114, 110, 32, 48] }] 9)) fun e w' => e = .returned (.bool true) ∧ Below (W.alloc (.cells #[.string { data := #[102, 110, 32, 109, 97, 105, 110] }, .string { data := #[48, 32, 109, 97, 114, 107, 32, 49] }, .string { data := #[49, 32, 105, 110, 116, 32, 50] }, .string { data := #[50, 32, 112, 114, 105, 110, 116, 32, 49] }, .string { data := #[51, 32, 114, 101, 116, 117, 114, 110, 32, 48] }] 9)).heap.size (W.alloc (.cells #[.string { data := #[102, 110, 32, 109, 97, 105, 110] }, .string { data := #[48, 32, 109, 97, 114, 107, 32, 49] }, .string { data := #[49, 32, 105, 110, 116, 32, 50] }, .string { data := #[50, 32, 112, 114, 105, 110, 116, 32, 49] }, .string { data := #[51, 32, 114, 101, 116, 117, 114, 110, 32, 48] }] 9)) w') := fun W hW => by
    have hW2 := hW.alloc hW.size (.cells #[.string { data := #[102, 110, 32, 109, 97, 105, 110] }, .string { data := #[48, 32, 109, 97, 114, 107, 32, 49] }, .string { data := #[49, 32, 105, 110, 116, 32, 50] }, .string { data := #[50, 32, 112, 114, 105, 110, 116, 32, 49] }, .string { data := #[51, 32, 114, 101, 116, 117, 114, 110, 32, 48] }] 9)
    have h1 := rowIn.kept HR4b.out (strE_keeps _) hW2.size fun q _ hq => hW2.block q hq
    have h3 := rfSameTexts _ _ _ _ _ _ (W.alloc (.cells #[.string { data := #[102, 110, 32, 109, 97, 105, 110] }, .string { data := #[48, 32, 109, 97, 114, 107, 32, 49] }, .string { data := #[49, 32, 105, 110, 116, 32, 50] }, .string { data := #[50, 32, 112, 114, 105, 110, 116, 32, 49] }, .string { data := #[51, 32, 114, 101, 116, 117, 114, 110, 32, 48] }] 9)) h1 (texts_new W) (by rw [cE_list]; simp)
    rw [decide_eq_true (p := listT cE = listT cE) rfl] at h3
    exact h3
  clear hw12
  refine mix_begin (n := 46) (S := fun w' => ∃ c : Cls w11.heap.size w11, w' = c.1) (by kernel_rfl) rfl rfl ?_
  refine mix_seg (fuel := 45) (fuel' := 46) (idx := [0]) (by decide +kernel) rfl rfl rfl (fun _ _ _ _ _ h => h) ⟨⟨w11.drew, HBd.out⟩, rfl⟩ ?_
  show wpQuiet _ _ _ _ [_] _
  iterate 1 (go_big_quiet_step (fail))
  refine wpQuiet_nil ?_
  refine mix_loud (fuel := 44) (fuel' := 45) (i := 1) rfl (by decide +kernel) rfl rfl (by rfl) ?_
  intro K hK
  go_simp
  rw [← HW12.out]
  refine hK.out _ _ ⟨⟨w12, HB12.out⟩, rfl⟩ ?_
  clear hK K
  refine mix_loud (fuel := 43) (fuel' := 44) (i := 2) rfl (by decide +kernel) rfl rfl (by rfl) ?_
  intro K hK
  go_simp
  refine k12.mono ?_
  rintro e w13 ⟨rfl, hb13⟩
  have HB13 : Hid (Below w11.heap.size w11 w13) := HB12.out.trans (hb13.mono HB12.out.size)
  clear k12
  clear hb13
  (try go_simp)
  refine hK.out _ _ ⟨⟨w13, HB13.out⟩, rfl⟩ ?_
  clear hK K
  refine mix_seg (fuel := 37) (fuel' := 43) (idx := [3, 4, 5, 6, 7, 8]) (by decide +kernel) rfl rfl rfl (fun _ _ _ _ _ h => h) ⟨⟨w13, HB13.out⟩, rfl⟩ ?_
  show wpQuiet _ _ _ _ [_, _, _, _, _, _] _
  iterate 6 (go_big_quiet_step (fail))
  refine wpQuiet_nil ?_
  obtain ⟨w14, hw14⟩ : ∃ w14, w14 = w13.alloc (.cells #[.string { data := #[102, 110, 32, 109, 97, 105, 110] }, .string { data := #[48, 32, 109, 97, 114, 107, 32, 49] }, .string { data := #[49, 32, 105, 110, 116, 32, 50] }, .string { data := #[50, 32, 112, 114, 105, 110, 116, 32, 49] }, .string { data := #[51, 32, 114, 101, 116, 117, 114, 110, 32, 48] }] 9) := ⟨_, rfl⟩
  have HW14 : Hid (w14 = w13.alloc (.cells #[.string { data := #[102, 110, 32, 109, 97, 105, 110] }, .string { data := #[48, 32, 109, 97, 114, 107, 32, 49] }, .string { data := #[49, 32, 105, 110, 116, 32, 50] }, .string { data := #[50, 32, 112, 114, 105, 110, 116, 32, 49] }, .string { data := #[51, 32, 114, 101, 116, 117, 114, 110, 32, 48] }] 9)) := hw14
  have HB14 : Hid (Below w11.heap.size w11 w14) := by rw [hw14]; exact HB13.out.alloc HB13.out.size _
  have k14 := K14.out w13 HB13.out
  rw [← hw14] at k14
  clear hw14
  refine mix_loud (fuel := 36) (fuel' := 37) (i := 9) rfl (by decide +kernel) rfl rfl (by rfl) ?_
  intro K hK
  go_simp
  rw [← HW14.out]
  refine hK.out _ _ ⟨⟨w14, HB14.out⟩, rfl⟩ ?_
  clear hK K
  refine mix_loud (fuel := 35) (fuel' := 36) (i := 10) rfl (by decide +kernel) rfl rfl (by rfl) ?_
  intro K hK
  go_simp
  refine k14.mono ?_
  rintro e w15 ⟨rfl, hb15⟩
  have HB15 : Hid (Below w11.heap.size w11 w15) := HB14.out.trans (hb15.mono HB14.out.size)
  clear k14
  clear hb15
  (try go_simp)
  refine hK.out _ _ ⟨⟨w15, HB15.out⟩, rfl⟩ ?_
  clear hK K
  refine mix_seg (fuel := 20) (fuel' := 35) (idx := [11, 12, 13, 14, 15, 16, 17, 18, 19, 20, 21, 22, 23, 24, 25]) (by decide +kernel) rfl rfl rfl (fun _ _ _ _ _ h => h) ⟨⟨w15, HB15.out⟩, rfl⟩ ?_
  show wpQuiet _ _ _ _ [_, _, _, _, _, _, _, _, _, _, _, _, _, _, _] _
  iterate 15 (go_big_quiet_step (fail))
  refine wpQuiet_nil ?_
  refine mix_loud (fuel := 19) (fuel' := 20) (i := 26) rfl (by decide +kernel) rfl rfl (by rfl) ?_
  intro K hK
  go_simp
  refine (exam_in w15).mono ?_
  rintro e w16 ⟨rfl, hx16, hb16⟩
  have HB16 : Hid (Below w11.heap.size w11 w16) := HB15.out.trans (hb16.mono HB15.out.size)
  have HX16 : Hid (ExIn w16 cE (w15.heap.size + 2)) := hx16
  clear hx16
  clear hb16
  (try go_simp)
  refine hK.out _ _ ⟨⟨w16, HB16.out⟩, rfl⟩ ?_
  clear hK K
  have k16 := exSame (HR7b.out.below HB16.out) HX16.out
  refine mix_loud (fuel := 18) (fuel' := 19) (i := 27) rfl (by decide +kernel) rfl rfl (by rfl) ?_
  intro K hK
  go_simp
  refine k16.mono ?_
  rintro e w17 ⟨rfl, hb17⟩
  have HB17 : Hid (Below w11.heap.size w11 w17) := HB16.out.trans (hb17.mono HB16.out.size)
  clear k16
  clear hb17
  (try go_simp)
  refine hK.out _ _ ⟨⟨w17, HB17.out⟩, rfl⟩ ?_
  clear hK K
  refine mix_seg (fuel := 15) (fuel' := 18) (idx := [28, 29, 30]) (by decide +kernel) rfl rfl rfl (fun _ _ _ _ _ h => h) ⟨⟨w17, HB17.out⟩, rfl⟩ ?_
  show wpQuiet _ _ _ _ [_, _, _] _
  iterate 3 (go_big_quiet_step (fail))
  refine wpQuiet_nil ?_
  have HTB : Hid (∀ W, Below w11.heap.size w11 W → TabsP W ∧ OpT W) := fun W hW => HT.out W (HB11.out.trans (hW.mono HB11.out.size))
  have k17 := badCheck (HBAD.out.below HB17.out) (HTB.out _ HB17.out).1 (HTB.out _ HB17.out).2
  refine mix_loud (fuel := 14) (fuel' := 15) (i := 31) rfl (by decide +kernel) rfl rfl (by rfl) ?_
  intro K hK
  go_simp
  refine k17.mono ?_
  rintro e w18 ⟨rfl, hb18⟩
  have HB18 : Hid (Below w11.heap.size w11 w18) := HB17.out.trans (hb18.mono HB17.out.size)
  clear k17
  clear hb18
  (try go_simp)
  refine hK.out _ _ ⟨⟨w18, HB18.out⟩, rfl⟩ ?_
  clear hK K
  refine mix_seg (fuel := 11) (fuel' := 14) (idx := [32, 33, 34]) (by decide +kernel) rfl rfl rfl (fun _ _ _ _ _ h => h) ⟨⟨w18, HB18.out⟩, rfl⟩ ?_
  show wpQuiet _ _ _ _ [_, _, _] _
  iterate 3 (go_big_quiet_step (fail))
  refine wpQuiet_nil ?_
  refine mix_loud (fuel := 10) (fuel' := 11) (i := 35) rfl (by decide +kernel) rfl rfl (by rfl) ?_
  intro K hK
  go_simp
  refine (exam_in w18).mono ?_
  rintro e w19 ⟨rfl, hx19, hb19⟩
  have HB19 : Hid (Below w11.heap.size w11 w19) := HB18.out.trans (hb19.mono HB18.out.size)
  have HX19 : Hid (ExIn w19 cE (w18.heap.size + 2)) := hx19
  clear hx19
  clear hb19
  (try go_simp)
  refine hK.out _ _ ⟨⟨w19, HB19.out⟩, rfl⟩ ?_
  clear hK K
  have k19 := exCheck HX19.out (HTB.out _ HB19.out).1 (HTB.out _ HB19.out).2
  refine mix_loud (fuel := 9) (fuel' := 10) (i := 36) rfl (by decide +kernel) rfl rfl (by rfl) ?_
  intro K hK
  go_simp
  refine k19.mono ?_
  rintro e w20 ⟨rfl, hb20⟩
  have HB20 : Hid (Below w11.heap.size w11 w20) := HB19.out.trans (hb20.mono HB19.out.size)
  clear k19
  clear hb20
  (try go_simp)
  refine hK.out _ _ ⟨⟨w20, HB20.out⟩, rfl⟩ ?_
  clear hK K
  refine mix_seg (fuel := 0) (fuel' := 9) (idx := [37, 38, 39, 40, 41, 42, 43, 44, 45]) (by decide +kernel) rfl rfl rfl (fun _ _ _ _ _ h => h) ⟨⟨w20, HB20.out⟩, rfl⟩ ?_
  show wpQuiet _ _ _ _ [_, _, _, _, _, _, _, _, _] _
  iterate 9 (go_big_quiet_step (fail))
  refine wpQuiet_nil ?_
  refine mix_done (by decide +kernel) ?_
  have HBZ : Hid (Below w.heap.size w w20) := HB11.out.trans (HB20.out.mono HB11.out.size)
  go_wp2
  go_ret
  exact ⟨rfl, HBZ.out⟩
end Go.Proofs.YtechkkphbajmoaaGreatDoor
