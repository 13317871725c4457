/- The document's reader: Text of the reference. -/
import Derived.Test.YtffedjgbhdaecaaWRefReader2
import Derived.Lib.Strings
import Derived.Laws.DeepStrings4
namespace Go.Proofs.Ytffedjgbhdaecaa
open Go.RowKit

theorem getT_step (l : List UInt8) (at0 er : Nat) (most : Int) (ha : at0 ≤ l.length) :
    (∃ a1 e1, e1 ≠ 0 ∧ stepR (0 : Int) at0 er (getC (l.drop at0) most) = (0, a1, e1) ∧ stepR ([] : List UInt8) at0 er (getT (l.drop at0) most) = ([], a1, e1)) ∨
    (er = 0 ∧ ∃ n a1 : Nat, stepR (0 : Int) at0 er (getC (l.drop at0) most) = ((n : Int), a1, 0) ∧ a1 ≤ l.length ∧ (l.length : Int) - (a1 : Int) < (n : Int) ∧ stepR ([] : List UInt8) at0 er (getT (l.drop at0) most) = ([], at0, 3)) ∨
    (er = 0 ∧ ∃ n a1 : Nat, stepR (0 : Int) at0 er (getC (l.drop at0) most) = ((n : Int), a1, 0) ∧ a1 + n ≤ l.length ∧ stepR ([] : List UInt8) at0 er (getT (l.drop at0) most) = ((l.drop a1).take n, a1 + n, 0)) := by
  by_cases her : er ≠ 0
  · left
    exact ⟨at0, er, her, if_pos her, if_pos her⟩
  · have e9 : er = 0 := by omega
    subst e9
    obtain ⟨v, k, e, hq⟩ : ∃ v k e, getC (l.drop at0) most = (v, k, e) := ⟨_, _, _, rfl⟩
    have hk := getC_len (l.drop at0) most
    have hv := getC_nonneg (l.drop at0) most
    rw [hq] at hk hv
    rw [List.length_drop] at hk
    simp only at hk hv
    obtain ⟨n, rfl⟩ := Int.eq_ofNat_of_zero_le hv
    have ht : getT (l.drop at0) most = if e ≠ 0 then ([], 0, e) else if ((l.drop at0).length : Int) - (k : Int) < (n : Int) then ([], 0, 3) else (((l.drop at0).drop k).take n, k + n, 0) := by
      unfold getT; rw [hq]; simp only [Int.toNat_natCast]
    by_cases he : e ≠ 0
    · left
      rw [if_pos he] at ht
      refine ⟨at0, e, he, ?_, ?_⟩
      · rw [hq]; exact (if_neg her).trans (if_pos he)
      · rw [ht]; exact (if_neg her).trans (if_pos he)
    · right
      have e8 : e = 0 := by omega
      subst e8
      rw [if_neg he] at ht
      have hc : stepR (0 : Int) at0 0 (getC (l.drop at0) most) = ((n : Int), at0 + k, 0) := by rw [hq]; exact (if_neg her).trans (if_neg he)
      rw [List.length_drop] at ht
      by_cases hlt : (((l.length - at0 : Nat) : Int) - (k : Int)) < (n : Int)
      · left
        rw [if_pos hlt] at ht
        refine ⟨rfl, n, at0 + k, hc, by omega, by omega, ?_⟩
        rw [ht]; exact (if_neg her).trans (if_pos (by simp))
      · right
        rw [if_neg hlt] at ht
        refine ⟨rfl, n, at0 + k, hc, by omega, ?_⟩
        rw [ht, List.drop_drop]
        refine ((if_neg her).trans (if_neg (by simp))).trans ?_
        simp only [Nat.add_assoc]

set_option maxRecDepth 100000 in
theorem slice_text (w : World) (s : ByteArray) (a n : Nat) (h : a + n ≤ s.size) :
    (Instr.slice 9 (.string s) (some (.int .i64 (a : Int))) (some (.int .i64 ((a : Int) + (n : Int)))) none).run Try.prog w = .ok (.string ⟨((s.data.toList.drop a).take n).toArray⟩) w := by
  rw [run_slice_string_if (P := Try.prog) (w := w) 9 s .i64 .i64 _ _ Try.underlying9, if_pos ⟨by omega, by omega⟩, if_pos ⟨by omega, by omega⟩]
  have e1 : ((a : Int) + (n : Int)).toNat = a + n := by omega
  have e2 := Lib.extract_data s a (a + n)
  rw [show a + n - a = n by omega] at e2
  rw [e1, Int.toNat_natCast, ← e2]

theorem fin_cells {w1 : World} {b : Nat} {u0 u1 u2 : Value} (h0 : w1.cell? ⟨b, 0, none⟩ = some u0) (h1 : w1.cell? ⟨b, 1, none⟩ = some u1) (h2 : w1.cell? ⟨b, 2, none⟩ = some u2) (v0 v1 v2 : Value) (o : Obj) :
    ((((w1.setCell ⟨b, 0, none⟩ v0).setCell ⟨b, 1, none⟩ v1).setCell ⟨b, 2, none⟩ v2).alloc o).cell? ⟨b, 0, none⟩ = some v0 ∧
    ((((w1.setCell ⟨b, 0, none⟩ v0).setCell ⟨b, 1, none⟩ v1).setCell ⟨b, 2, none⟩ v2).alloc o).cell? ⟨b, 1, none⟩ = some v1 ∧
    ((((w1.setCell ⟨b, 0, none⟩ v0).setCell ⟨b, 1, none⟩ v1).setCell ⟨b, 2, none⟩ v2).alloc o).cell? ⟨b, 2, none⟩ = some v2 := by
  have ne : ∀ i j : Nat, i ≠ j → (⟨b, i, none⟩ : Addr) ≠ ⟨b, j, none⟩ := fun i j h e => by cases e; exact h rfl
  refine ⟨Lib.cell?_alloc_some o ?_, Lib.cell?_alloc_some o ?_, Lib.cell?_alloc_some o ?_⟩
  · rw [World.cell?_setCell_other (h := ne 2 0 (by decide)), World.cell?_setCell_other (h := ne 1 0 (by decide))]
    exact World.cell?_setCell_same _ _ _ h0
  · rw [World.cell?_setCell_other (h := ne 2 1 (by decide))]
    exact World.cell?_setCell_same (u := u1) _ _ _ (by rw [World.cell?_setCell_other (h := ne 0 1 (by decide))]; exact h1)
  · exact World.cell?_setCell_same (u := u2) _ _ _ (by rw [World.cell?_setCell_other (h := ne 1 2 (by decide)), World.cell?_setCell_other (h := ne 0 2 (by decide))]; exact h2)

theorem res_cells {w w1 : World} {x0 x1 x2 y0 y1 y2 : Value} {t : TypeId} (hb : Below ((w.alloc (.cells #[x0, x1, x2] t)).alloc (.cells #[y0, y1, y2] t)).heap.size ((w.alloc (.cells #[x0, x1, x2] t)).alloc (.cells #[y0, y1, y2] t)) w1) :
    w1.cell? ⟨w.heap.size + 1, 0, none⟩ = some y0 ∧ w1.cell? ⟨w.heap.size + 1, 1, none⟩ = some y1 ∧ w1.cell? ⟨w.heap.size + 1, 2, none⟩ = some y2 := by
  obtain ⟨hc, hf⟩ := bcell hb
  refine ⟨?_, ?_, ?_⟩
  · rw [hc _ _ (by simp)]; simp
  · rw [hc _ _ (by simp)]; simp
  · rw [hc _ _ (by simp)]; simp

theorem text_cells {w w1 : World} {x0 x1 x2 y0 y1 y2 : Value} {t : TypeId} (hb : Below ((w.alloc (.cells #[x0, x1, x2] t)).alloc (.cells #[y0, y1, y2] t)).heap.size ((w.alloc (.cells #[x0, x1, x2] t)).alloc (.cells #[y0, y1, y2] t)) w1) :
    w1.cell? ⟨w.heap.size, 0, none⟩ = some x0 ∧ w1.cell? ⟨w.heap.size, 1, none⟩ = some x1 ∧ w1.cell? ⟨w.heap.size, 2, none⟩ = some x2 := by
  have hz := hb.size
  simp at hz
  obtain ⟨hc, hf⟩ := bcell hb
  refine ⟨?_, ?_, ?_⟩
  · rw [hc _ _ (by simp; omega)]; simp
  · rw [hc _ _ (by simp; omega)]; simp
  · rw [hc _ _ (by simp; omega)]; simp

set_option maxHeartbeats 4000000 in
set_option maxRecDepth 100000 in
theorem refRText_any (s : ByteArray) (at0 er : Nat) (most : Int) (w : World) (hs : s.size ≤ 9223372036854775000) (ha : at0 ≤ s.size) :
    Calls Try.prog 30 #[.agg #[.string s, .int .i64 at0, .int .i64 er], .int .i64 most] w fun e w' =>
      e = .returned (.tuple #[.agg #[.string s, .int .i64 (stepR ([] : List UInt8) at0 er (getT (s.data.toList.drop at0) most)).2.1, .int .i64 (stepR ([] : List UInt8) at0 er (getT (s.data.toList.drop at0) most)).2.2], .string ⟨(stepR ([] : List UInt8) at0 er (getT (s.data.toList.drop at0) most)).1.toArray⟩]) ∧ Below w.heap.size w w' := by
  have HC := fun wx => refRCount_any s at0 er most wx hs ha
  have hl := data_len s
  rcases getT_step s.data.toList at0 er most (by rw [hl]; exact ha) with ⟨a1, e1, h1, h2, h3⟩ | ⟨rfl, n, a1, h2, g1, g2, h3⟩ | ⟨rfl, n, a1, h2, g1, h3⟩
  · rw [h3]
    rw [h2] at HC
    have HK : Hid (∀ wx : World, Calls Try.prog 28 #[.agg #[.string s, .int .i64 at0, .int .i64 er], .int .i64 most] wx fun e w' => e = .returned (.tuple #[.agg #[.string s, .int .i64 a1, .int .i64 e1], .int .i64 0]) ∧ Below wx.heap.size wx w') := HC
    have t0 : ((e1 : Int) != 0) = true := by rw [bne_iff_ne]; omega
    clear h1 h2 h3 HC hl
    go_enter Try.func30, Try.ntmps30
    go_wp2_with fail
    refine (HK.out _).mono ?_
    rintro e' w1 ⟨rfl, hb⟩
    obtain ⟨k0, k1, k2⟩ := text_cells hb
    obtain ⟨r0, r1, r2⟩ := res_cells hb
    have HFin := fin_cells r0 r1 r2
    have HFIN : Hid (∀ (v0 v1 v2 : Value) (o : Obj), ((((w1.setCell ⟨w.heap.size + 1, 0, none⟩ v0).setCell ⟨w.heap.size + 1, 1, none⟩ v1).setCell ⟨w.heap.size + 1, 2, none⟩ v2).alloc o).cell? ⟨w.heap.size + 1, 0, none⟩ = some v0 ∧ ((((w1.setCell ⟨w.heap.size + 1, 0, none⟩ v0).setCell ⟨w.heap.size + 1, 1, none⟩ v1).setCell ⟨w.heap.size + 1, 2, none⟩ v2).alloc o).cell? ⟨w.heap.size + 1, 1, none⟩ = some v1 ∧ ((((w1.setCell ⟨w.heap.size + 1, 0, none⟩ v0).setCell ⟨w.heap.size + 1, 1, none⟩ v1).setCell ⟨w.heap.size + 1, 2, none⟩ v2).alloc o).cell? ⟨w.heap.size + 1, 2, none⟩ = some v2) := HFin
    clear HFin
    obtain ⟨hc, hf⟩ := bcell hb
    have hz2 : w.heap.size < w1.heap.size := by have := hb.size; simp at this; omega
    have hz3 : w.heap.size ≠ w1.heap.size := by omega
    have hz : w.heap.size + 1 < w1.heap.size := by have := hb.size; simp at this; omega
    have HB : Hid (Below w.heap.size w w1) := (below2 w _ _).trans (hb.mono (by simp; omega))
    clear hb
    go_wp2
    refine bodyPost_ret (v := .tuple #[.agg #[.string s, .int .i64 a1, .int .i64 e1], .string ⟨#[]⟩]) (by simp [results, Try.results30, go_sem, (HFIN.out _ _ _ _).1, (HFIN.out _ _ _ _).2.1, (HFIN.out _ _ _ _).2.2]) rfl ⟨rfl, ?_⟩
    exact (((HB.out.setCell (by simp) _).setCell (by simp) _).setCell (by simp) _).alloc (by simp [World.setCell]; omega) _
  · rw [h3]
    rw [h2] at HC
    have HK : Hid (∀ wx : World, Calls Try.prog 28 #[.agg #[.string s, .int .i64 at0, .int .i64 ((0 : Nat) : Int)], .int .i64 most] wx fun e w' => e = .returned (.tuple #[.agg #[.string s, .int .i64 a1, .int .i64 ((0 : Nat) : Int)], .int .i64 n]) ∧ Below wx.heap.size wx w') := HC
    rw [hl] at g1 g2
    clear h2 h3 HC hl
    go_enter Try.func30, Try.ntmps30
    go_wp2_with fail
    refine (HK.out _).mono ?_
    rintro e' w1 ⟨rfl, hb⟩
    obtain ⟨k0, k1, k2⟩ := text_cells hb
    obtain ⟨r0, r1, r2⟩ := res_cells hb
    have HFin := fin_cells r0 r1 r2
    have HFIN : Hid (∀ (v0 v1 v2 : Value) (o : Obj), ((((w1.setCell ⟨w.heap.size + 1, 0, none⟩ v0).setCell ⟨w.heap.size + 1, 1, none⟩ v1).setCell ⟨w.heap.size + 1, 2, none⟩ v2).alloc o).cell? ⟨w.heap.size + 1, 0, none⟩ = some v0 ∧ ((((w1.setCell ⟨w.heap.size + 1, 0, none⟩ v0).setCell ⟨w.heap.size + 1, 1, none⟩ v1).setCell ⟨w.heap.size + 1, 2, none⟩ v2).alloc o).cell? ⟨w.heap.size + 1, 1, none⟩ = some v1 ∧ ((((w1.setCell ⟨w.heap.size + 1, 0, none⟩ v0).setCell ⟨w.heap.size + 1, 1, none⟩ v1).setCell ⟨w.heap.size + 1, 2, none⟩ v2).alloc o).cell? ⟨w.heap.size + 1, 2, none⟩ = some v2) := HFin
    clear HFin
    obtain ⟨hc, hf⟩ := bcell hb
    have hz2 : w.heap.size < w1.heap.size := by have := hb.size; simp at this; omega
    have hz3 : w.heap.size ≠ w1.heap.size := by omega
    have hz : w.heap.size + 1 < w1.heap.size := by have := hb.size; simp at this; omega
    have HB : Hid (Below w.heap.size w w1) := (below2 w _ _).trans (hb.mono (by simp; omega))
    clear hb
    go_wp2_with fail
    refine (wrong_any s at0 0 3 _).mono ?_
    rintro e' w2 ⟨rfl, hb2⟩
    have hB2 : Below w1.heap.size w1 w2 := (below1 w1 _).trans (hb2.mono (by simp))
    obtain ⟨hc2, hf2⟩ := bcell hB2
    have hz4 : w.heap.size + 1 < w2.heap.size := by have := hB2.size; omega
    have HB2 : Hid (Below w.heap.size w w2) := HB.out.trans (hB2.mono (by omega))
    clear hb2 hB2
    go_wp2
    refine bodyPost_ret (v := .tuple #[.agg #[.string s, .int .i64 at0, .int .i64 3], .string ⟨#[]⟩]) (by simp [results, Try.results30, go_sem, hc2, hc, hz]) rfl ⟨rfl, ?_⟩
    exact ((HB2.out.setCell (by simp) _).setCell (by simp) _).setCell (by simp) _
  · rw [h3]
    rw [h2] at HC
    have HK : Hid (∀ wx : World, Calls Try.prog 28 #[.agg #[.string s, .int .i64 at0, .int .i64 ((0 : Nat) : Int)], .int .i64 most] wx fun e w' => e = .returned (.tuple #[.agg #[.string s, .int .i64 a1, .int .i64 ((0 : Nat) : Int)], .int .i64 n]) ∧ Below wx.heap.size wx w') := HC
    rw [hl] at g1
    have hsl := fun wx => slice_text wx s a1 n g1
    clear h2 h3 HC hl
    generalize (s.data.toList.drop a1).take n = ts at *
    go_enter Try.func30, Try.ntmps30
    go_wp2_with fail
    refine (HK.out _).mono ?_
    rintro e' w1 ⟨rfl, hb⟩
    obtain ⟨k0, k1, k2⟩ := text_cells hb
    obtain ⟨r0, r1, r2⟩ := res_cells hb
    have HFin := fin_cells r0 r1 r2
    have HFIN : Hid (∀ (v0 v1 v2 : Value) (o : Obj), ((((w1.setCell ⟨w.heap.size + 1, 0, none⟩ v0).setCell ⟨w.heap.size + 1, 1, none⟩ v1).setCell ⟨w.heap.size + 1, 2, none⟩ v2).alloc o).cell? ⟨w.heap.size + 1, 0, none⟩ = some v0 ∧ ((((w1.setCell ⟨w.heap.size + 1, 0, none⟩ v0).setCell ⟨w.heap.size + 1, 1, none⟩ v1).setCell ⟨w.heap.size + 1, 2, none⟩ v2).alloc o).cell? ⟨w.heap.size + 1, 1, none⟩ = some v1 ∧ ((((w1.setCell ⟨w.heap.size + 1, 0, none⟩ v0).setCell ⟨w.heap.size + 1, 1, none⟩ v1).setCell ⟨w.heap.size + 1, 2, none⟩ v2).alloc o).cell? ⟨w.heap.size + 1, 2, none⟩ = some v2) := HFin
    clear HFin
    obtain ⟨hc, hf⟩ := bcell hb
    have hz2 : w.heap.size < w1.heap.size := by have := hb.size; simp at this; omega
    have hz3 : w.heap.size ≠ w1.heap.size := by omega
    have hz : w.heap.size + 1 < w1.heap.size := by have := hb.size; simp at this; omega
    have HB : Hid (Below w.heap.size w w1) := (below2 w _ _).trans (hb.mono (by simp; omega))
    clear hb
    go_wp2
    refine bodyPost_ret (v := .tuple #[.agg #[.string s, .int .i64 (a1 + n : Int), .int .i64 0], .string ⟨ts.toArray⟩]) (by simp [results, Try.results30, go_sem, (HFIN.out _ _ _ _).1, (HFIN.out _ _ _ _).2.1, (HFIN.out _ _ _ _).2.2]) rfl ⟨rfl, ?_⟩
    exact (((HB.out.setCell (by simp) _).setCell (by simp) _).setCell (by simp) _).alloc (by simp [World.setCell]; omega) _
end Go.Proofs.Ytffedjgbhdaecaa
