/- LexTexts. -/
import Derived.Test.YtjhfkiighphepaaDoorXRefT3
namespace Go.Proofs.YtjhfkiighphepaaDoor
open Go.RowKit Go.Shelf

theorem refLexText_any (k n a b : Int) (s : List UInt8) (w : World) (hn0 : -9223372036854775808 ≤ n) (hn1 : n ≤ 9223372036854775807) (hl : s.length ≤ 100000000) :
    Calls Tryd.prog 12 #[.agg #[.int .i64 k, .string (strB s), .int .i64 n, .int .i64 a, .int .i64 b]] w fun e w' => e = .returned (ttV (refT k n s)) ∧ Below w.heap.size w w' := by
  by_cases h0 : k = 0
  · exact refText_zero k n a b s w hn0 hn1 hl h0
  · by_cases h1 : k = 1
    · exact refText_name k n a b s w hn0 hn1 hl h1
    · by_cases h2 : k = 2
      · exact refText_num k n a b s w hn0 hn1 hl h2
      · by_cases h3 : k = 3
        · exact refText_text k n a b s w hn0 hn1 hl h3
        · by_cases h4 : k = 4
          · exact refText_sign k n a b s w h4
          · by_cases h5 : k = 5
            · exact refText_word k n a b s w hn0 hn1 hl h5
            · exact refText_other k n a b s w hn0 hn1 hl h0 h1 h2 h3 h4 h5

set_option maxRecDepth 100000 in
set_option maxHeartbeats 2000000 in
theorem texts_all (k n a b : Int) (t s : List UInt8) (w : World) (hn0 : -9223372036854775808 ≤ n) (hn1 : n ≤ 9223372036854775807) (hl : t.length ≤ 1048576) (ht : TabsP w) :
    Calls Tryd.prog 4 #[.agg #[.int .i64 k, .string (strB t), .int .i64 n, .int .i64 a, .int .i64 b], .string (strB s)] w fun e w' => e = .returned (.bool true) ∧ Below w.heap.size w w' := by
  obtain ⟨W, hW⟩ : ∃ W, W = w.alloc (.cells #[.int .i64 k, .string (strB t), .int .i64 n, .int .i64 a, .int .i64 b] 33) := ⟨_, rfl⟩
  have hz : w.heap.size < W.heap.size := by rw [hW]; simp
  have hbw : Below w.heap.size w W := by rw [hW]; exact (Below.refl _ w).alloc (Nat.le_refl _) _
  have HBW : Hid (Below w.heap.size w W) := hbw
  have HT : Hid (TabsP W) := ht.below hbw (Nat.le_refl _)
  have q0 : W.cell? ⟨w.heap.size, 0, none⟩ = some (.int .i64 k) := by rw [hW]; simp
  have q1 : W.cell? ⟨w.heap.size, 1, none⟩ = some (.string (strB t)) := by rw [hW]; simp
  have q2 : W.cell? ⟨w.heap.size, 2, none⟩ = some (.int .i64 n) := by rw [hW]; simp
  have q3 : W.cell? ⟨w.heap.size, 3, none⟩ = some (.int .i64 a) := by rw [hW]; simp
  have q4 : W.cell? ⟨w.heap.size, 4, none⟩ = some (.int .i64 b) := by rw [hW]; simp
  have c1 := lexText_any k n a b t W hn0 hn1 (by omega) HT.out
  have c2 := fun wx => refLexText_any k n a b t wx hn0 hn1 (by omega)
  rw [tkB_refT k n t hn1] at c1
  obtain ⟨R, hR⟩ : ∃ R, R = refT k n t := ⟨_, rfl⟩
  rw [← hR] at c1 c2
  unfold ttV at c2
  have HA0 : Hid (∀ wx, TabsP wx → Calls Tryd.prog 13 #[.string (strB s)] wx fun e w'' => e = .returned (.bool (isWord s)) ∧ wx = w'') := fun wx h => word_any s wx h.1
  have HB0 : Hid (∀ wx, Calls Tryd.prog 14 #[.string (strB s)] wx fun e w'' => e = .returned (.bool (isWord s)) ∧ Below wx.heap.size wx w'') := fun wx => refWord_any s wx
  have HC0 : Hid (∀ wx, TabsP wx → Calls Tryd.prog 13 #[.string (strB t)] wx fun e w'' => e = .returned (.bool (isWord t)) ∧ wx = w'') := fun wx h => word_any t wx h.1
  have HD0 : Hid (∀ wx, Calls Tryd.prog 14 #[.string (strB t)] wx fun e w'' => e = .returned (.bool (isWord t)) ∧ Below wx.heap.size wx w'') := fun wx => refWord_any t wx
  obtain ⟨RS, hRS⟩ : ∃ RS, RS = strB R.1 := ⟨_, rfl⟩
  obtain ⟨RN, hRN⟩ : ∃ RN, RN = R.2 := ⟨_, rfl⟩
  rw [← hRS, ← hRN] at c1 c2
  clear ht hbw hR hRS hRN hl
  generalize isWord s = u1 at HA0 HB0
  generalize isWord t = u2 at HC0 HD0
  generalize strB s = S1 at *
  generalize strB t = S2 at *
  rw [hW] at c1
  go_enter Tryd.func4, Tryd.ntmps4
  go_wp2_with fail
  refine c1.mono ?_
  clear c1
  rw [← hW]
  rintro e w2 ⟨rfl, hb2⟩
  have e0 := (below_cell (j := 0) hb2 hz).trans q0
  have e1 := (below_cell (j := 1) hb2 hz).trans q1
  have e2 := (below_cell (j := 2) hb2 hz).trans q2
  have e3 := (below_cell (j := 3) hb2 hz).trans q3
  have e4 := (below_cell (j := 4) hb2 hz).trans q4
  have HB2 : Hid (Below W.heap.size W w2) := hb2
  have c2' := c2 w2
  clear hb2 c2 hW q0 q1 q2 q3 q4
  go_wp2_with fail
  refine c2'.mono ?_
  clear c2'
  rintro e w3 ⟨rfl, hb3⟩
  have hz2 : w.heap.size < w2.heap.size := Nat.lt_of_lt_of_le hz HB2.out.size
  have d1 := (below_cell (j := 1) hb3 hz2).trans e1
  have hB3 : Below W.heap.size W w3 := HB2.out.trans (hb3.mono HB2.out.size)
  have HB3 : Hid (Below w.heap.size w w3) := HBW.out.trans (hB3.mono HBW.out.size)
  have HT3 : Hid (TabsP w3) := HT.out.below hB3 (Nat.le_refl _)
  have hz3 : w.heap.size < w3.heap.size := Nat.lt_of_lt_of_le hz hB3.size
  have cx1 := cls_cell (n := w3.heap.size) d1 hz3
  clear hb3 hB3 e0 e1 e2 e3 e4 d1
  have HA : Hid (∀ wx, Below w3.heap.size w3 wx → Calls Tryd.prog 13 #[.string S1] wx fun e w'' => e = .returned (.bool u1) ∧ Below w3.heap.size w3 w'') := fun wx h => (HA0.out wx (HT3.out.below h (Nat.le_refl _))).mono (fun e w' ⟨he, hw⟩ => ⟨he, hw ▸ h⟩)
  have HB : Hid (∀ wx, Below w3.heap.size w3 wx → Calls Tryd.prog 14 #[.string S1] wx fun e w'' => e = .returned (.bool u1) ∧ Below w3.heap.size w3 w'') := fun wx h => (HB0.out wx).mono (fun e w' ⟨he, hb⟩ => ⟨he, h.trans (hb.mono h.size)⟩)
  have HC : Hid (∀ wx, Below w3.heap.size w3 wx → Calls Tryd.prog 13 #[.string S2] wx fun e w'' => e = .returned (.bool u2) ∧ Below w3.heap.size w3 w'') := fun wx h => (HC0.out wx (HT3.out.below h (Nat.le_refl _))).mono (fun e w' ⟨he, hw⟩ => ⟨he, hw ▸ h⟩)
  have HD : Hid (∀ wx, Below w3.heap.size w3 wx → Calls Tryd.prog 14 #[.string S2] wx fun e w'' => e = .returned (.bool u2) ∧ Below w3.heap.size w3 w'') := fun wx h => (HD0.out wx).mono (fun e w' ⟨he, hb⟩ => ⟨he, h.trans (hb.mono h.size)⟩)
  have HL : Hid (∀ wx, Below w3.heap.size w3 wx → Calls Tryd.prog 10 #[] wx fun e w'' => e = .returned (.bool true) ∧ Below w3.heap.size w3 w'') := fun wx h => (lives03_any wx (HT3.out.below h (Nat.le_refl _)).1).mono (fun e w' ⟨he, hb⟩ => ⟨he, h.trans (hb.mono h.size)⟩)
  clear HA0 HB0 HC0 HD0
  go_wp2_with fail
  refine wp_region_cls (n := w3.heap.size) (w0 := w3) (Below.refl _ _) (by kernel_rfl) (by kernel_rfl) ?_
  iterate 10 (go_big_quiet_step (fail))
  go_big_quiet_step (exact cls_calls HA.out _)
  go_big_quiet_step (fail)
  go_big_quiet_step (exact cls_calls HB.out _)
  iterate 5 (go_big_quiet_step (fail))
  go_big_quiet_step (exact cls_calls HC.out _)
  iterate 2 (go_big_quiet_step (fail))
  go_big_quiet_step (exact cls_calls HD.out _)
  iterate 3 (go_big_quiet_step (fail))
  go_big_quiet_step (exact cls_calls HL.out _)
  iterate 2 (go_big_quiet_step (fail))
  refine wpQuiet_nil ?_
  rintro _ ⟨c, rfl⟩
  have HBc : Hid (Below w.heap.size w c.1) := HB3.out.trans (c.2.mono HB3.out.size)
  clear cx1
  go_wp2
  go_ret
  exact ⟨rfl, HBc.out⟩
end Go.Proofs.YtjhfkiighphepaaDoor
