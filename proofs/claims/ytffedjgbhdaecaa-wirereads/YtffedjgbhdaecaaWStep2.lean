/- One call of both readers, further: the other kinds. -/
import Derived.Test.YtffedjgbhdaecaaWStep
namespace Go.Proofs.Ytffedjgbhdaecaa
open Go.RowKit

attribute [local go_sem] undef

set_option maxHeartbeats 8000000 in
set_option maxRecDepth 100000 in
theorem step2_any {w : World} {p : Nat} {base : Option Addr} {cap : Nat} {at0 er : Nat} (s : ByteArray) (most : Int) (h : ReaderAt w p base cap s.data.toList at0 er) (hs : s.size ≤ 9223372036854775000) :
    Calls Try.prog 9 #[.pointer (some ⟨p, 0, none⟩), .agg #[.string s, .int .i64 at0, .int .i64 er], .agg #[.int .i64 2, .int .i64 most]] w fun e w' =>
      e = .returned (.tuple #[.agg #[.string s, .int .i64 (stepR (0 : Int) at0 er (getC (s.data.toList.drop at0) most)).2.1, .int .i64 (stepR (0 : Int) at0 er (getC (s.data.toList.drop at0) most)).2.2], .bool true]) ∧
      ReaderAt w' p base cap s.data.toList (stepR (0 : Int) at0 er (getC (s.data.toList.drop at0) most)).2.1 (stepR (0 : Int) at0 er (getC (s.data.toList.drop at0) most)).2.2 ∧ w.grownBy w' (some p) := by
  have HR : Hid (ReaderAt w p base cap s.data.toList at0 er) := h
  have hpl := World.block_lt_of_cell? w _ h.made
  have hat : at0 ≤ s.size := by have := h.at_le; rw [data_len] at this; exact this
  have HC : Hid (∀ wx : World, Calls Try.prog 28 #[.agg #[.string s, .int .i64 at0, .int .i64 er], .int .i64 most] wx fun e w' => e = .returned (.tuple #[.agg #[.string s, .int .i64 (stepR (0 : Int) at0 er (getC (s.data.toList.drop at0) most)).2.1, .int .i64 (stepR (0 : Int) at0 er (getC (s.data.toList.drop at0) most)).2.2], .int .i64 (stepR (0 : Int) at0 er (getC (s.data.toList.drop at0) most)).1]) ∧ Below wx.heap.size wx w') := fun wx => refRCount_any s at0 er most wx hs hat
  have HP : Hid (∀ wx : World, ReaderAt wx p base cap s.data.toList at0 er → Calls Try.prog 29 #[.pointer (some ⟨p, 0, none⟩), .int .i64 most] wx fun e w' => e = .returned (.int .i64 (stepR (0 : Int) at0 er (getC (s.data.toList.drop at0) most)).1) ∧ ReaderAt w' p base cap s.data.toList (stepR (0 : Int) at0 er (getC (s.data.toList.drop at0) most)).2.1 (stepR (0 : Int) at0 er (getC (s.data.toList.drop at0) most)).2.2 ∧ wx.grownBy w' (some p)) := fun wx hx => count_any most hx
  clear h
  generalize stepR (0 : Int) at0 er (getC (s.data.toList.drop at0) most) = q at *
  obtain ⟨v, a1, e1⟩ := q
  go_enter Try.func9, Try.ntmps9
  go_wp2_with fail
  refine (HC.out _).mono ?_
  rintro e' w1 ⟨rfl, hb⟩
  have hz : w.heap.size + 3 ≤ w1.heap.size := by have := hb.size; simp at this; omega
  have hB1 : Below w.heap.size w w1 := (((below1 w _).alloc (by simp) _).alloc (by simp; omega) _).trans (hb.mono (by simp; omega))
  obtain ⟨hc, hf⟩ := bcell hb
  have r0 : w1.cell? ⟨w.heap.size + 1 + 1, 0, none⟩ = some (.string ⟨#[]⟩) := by rw [hc (w.heap.size + 1 + 1) 0 (by simp), World.cell?_alloc_at _ _ _ _ (by simp)]; rfl
  have r1 : w1.cell? ⟨w.heap.size + 1 + 1, 1, none⟩ = some (.int .i64 0) := by rw [hc (w.heap.size + 1 + 1) 1 (by simp), World.cell?_alloc_at _ _ _ _ (by simp)]; rfl
  have r2 : w1.cell? ⟨w.heap.size + 1 + 1, 2, none⟩ = some (.int .i64 0) := by rw [hc (w.heap.size + 1 + 1) 2 (by simp), World.cell?_alloc_at _ _ _ _ (by simp)]; rfl
  have m1 : w1.cell? ⟨w.heap.size + 1, 1, none⟩ = some (.int .i64 most) := by rw [hc (w.heap.size + 1) 1 (by simp), World.cell?_alloc_past _ _ _ (by simp), World.cell?_alloc_at _ _ _ _ (by simp)]; rfl
  have hzz : w.heap.size + 1 < w1.heap.size := by omega
  have rf : ∀ j, w1.frozen? ⟨w.heap.size + 1 + 1, j, none⟩ = false := fun j => by rw [hf (w.heap.size + 1 + 1) j (by simp), World.frozen?_alloc_at _ _ _ _ (by simp)]
  have HB1 : Hid (Below w.heap.size w w1) := hB1
  have hbase : Hid (s.data.toList = [] ∨ ∃ b o, base = some ⟨b, o, none⟩ ∧ b ≠ w.heap.size + 1 + 1) := by
    rcases HR.out.row with h | ⟨b, o, h1, h2⟩
    · exact .inl h
    · by_cases h0 : s.data.toList = []
      · exact .inl h0
      · have hpos : 0 < s.data.toList.length := by
          rcases Nat.eq_zero_or_pos s.data.toList.length with h | h
          · exact absurd (List.length_eq_zero_iff.1 h) h0
          · exact h
        have := World.block_lt_of_cell? w _ (h2 0 hpos)
        exact .inr ⟨b, o, h1, by simp at this; omega⟩
  clear hc hf hb hB1
  go_wp2_with fail
  first | go_region_with (first
    | (go_at_call 29; refine (HP.out _ ?_).mono ?_; exact (HR.out.below (HB1.out.alloc (by omega) _) (Nat.le_refl _)).drew; rintro e' w2 ⟨rfl, hr2, hg2⟩; have hbx := kept_box (q := w1.heap.size) (x0 := .string s) (x1 := .int .i64 a1) (x2 := .int .i64 e1) hg2 (by omega) (by simp) (by simp) (by simp) (by simp); obtain ⟨x0, x1, x2, xf⟩ := hbx; have hbr := kept_box (q := w.heap.size + 1 + 1) hg2 (by omega) (Lib.cell?_alloc_some _ r0) (Lib.cell?_alloc_some _ r1) (Lib.cell?_alloc_some _ r2) (fun j => ((below1 w1 _).frozen (p := ⟨w.heap.size + 1 + 1, j, none⟩) (by show w.heap.size + 1 + 1 < w1.heap.size; omega)).trans (rf j)); obtain ⟨y0, y1, y2, yf⟩ := hbr; have HG : Hid (ReaderAt w2 p base cap s.data.toList a1 e1 ∧ w.grownBy w2 (some p)) := ⟨hr2, grownBy_trans (grownBy_below _ (HB1.out.alloc (by omega) _)) (grownBy_trans (grownBy_below _ drew_belowS) hg2)⟩; clear hr2 hg2)) | fail
  all_goals go_wp2
  all_goals refine bodyPost_ret (v := .tuple #[.agg #[.string s, .int .i64 a1, .int .i64 e1], .bool true]) (by simp [results, Try.results9, go_sem, y0, y1, y2]) rfl ⟨rfl, ?_, ?_⟩
  all_goals first
    | exact ((HG.out.1.far _ (by omega) hbase.out).far _ (by omega) hbase.out).far _ (by omega) hbase.out
    | exact grownBy_set (grownBy_set (grownBy_set HG.out.2 (by simp; omega) _) (by simp; omega) _) (by simp; omega) _
set_option maxHeartbeats 8000000 in
set_option maxRecDepth 100000 in
theorem step3_any {w : World} {p : Nat} {base : Option Addr} {cap : Nat} {at0 er : Nat} (s : ByteArray) (most : Int) (h : ReaderAt w p base cap s.data.toList at0 er) (hs : s.size ≤ 9223372036854775000) :
    Calls Try.prog 9 #[.pointer (some ⟨p, 0, none⟩), .agg #[.string s, .int .i64 at0, .int .i64 er], .agg #[.int .i64 3, .int .i64 most]] w fun e w' =>
      e = .returned (.tuple #[.agg #[.string s, .int .i64 (stepR ([] : List UInt8) at0 er (getT (s.data.toList.drop at0) most)).2.1, .int .i64 (stepR ([] : List UInt8) at0 er (getT (s.data.toList.drop at0) most)).2.2], .bool true]) ∧
      ReaderAt w' p base cap s.data.toList (stepR ([] : List UInt8) at0 er (getT (s.data.toList.drop at0) most)).2.1 (stepR ([] : List UInt8) at0 er (getT (s.data.toList.drop at0) most)).2.2 ∧ w.grownBy w' (some p) := by
  have HR : Hid (ReaderAt w p base cap s.data.toList at0 er) := h
  have hpl := World.block_lt_of_cell? w _ h.made
  have hat : at0 ≤ s.size := by have := h.at_le; rw [data_len] at this; exact this
  have HC : Hid (∀ wx : World, Calls Try.prog 30 #[.agg #[.string s, .int .i64 at0, .int .i64 er], .int .i64 most] wx fun e w' => e = .returned (.tuple #[.agg #[.string s, .int .i64 (stepR ([] : List UInt8) at0 er (getT (s.data.toList.drop at0) most)).2.1, .int .i64 (stepR ([] : List UInt8) at0 er (getT (s.data.toList.drop at0) most)).2.2], .string ⟨(stepR ([] : List UInt8) at0 er (getT (s.data.toList.drop at0) most)).1.toArray⟩]) ∧ Below wx.heap.size wx w') := fun wx => refRText_any s at0 er most wx hs hat
  have HP : Hid (∀ wx : World, ReaderAt wx p base cap s.data.toList at0 er → Calls Try.prog 31 #[.pointer (some ⟨p, 0, none⟩), .int .i64 most] wx fun e w' => e = .returned (.string ⟨(stepR ([] : List UInt8) at0 er (getT (s.data.toList.drop at0) most)).1.toArray⟩) ∧ ReaderAt w' p base cap s.data.toList (stepR ([] : List UInt8) at0 er (getT (s.data.toList.drop at0) most)).2.1 (stepR ([] : List UInt8) at0 er (getT (s.data.toList.drop at0) most)).2.2 ∧ wx.grownBy w' (some p)) := fun wx hx => text_any most hx
  clear h
  generalize stepR ([] : List UInt8) at0 er (getT (s.data.toList.drop at0) most) = q at *
  obtain ⟨v, a1, e1⟩ := q
  go_enter Try.func9, Try.ntmps9
  go_wp2_with fail
  refine (HC.out _).mono ?_
  rintro e' w1 ⟨rfl, hb⟩
  have hz : w.heap.size + 3 ≤ w1.heap.size := by have := hb.size; simp at this; omega
  have hB1 : Below w.heap.size w w1 := (((below1 w _).alloc (by simp) _).alloc (by simp; omega) _).trans (hb.mono (by simp; omega))
  obtain ⟨hc, hf⟩ := bcell hb
  have r0 : w1.cell? ⟨w.heap.size + 1 + 1, 0, none⟩ = some (.string ⟨#[]⟩) := by rw [hc (w.heap.size + 1 + 1) 0 (by simp), World.cell?_alloc_at _ _ _ _ (by simp)]; rfl
  have r1 : w1.cell? ⟨w.heap.size + 1 + 1, 1, none⟩ = some (.int .i64 0) := by rw [hc (w.heap.size + 1 + 1) 1 (by simp), World.cell?_alloc_at _ _ _ _ (by simp)]; rfl
  have r2 : w1.cell? ⟨w.heap.size + 1 + 1, 2, none⟩ = some (.int .i64 0) := by rw [hc (w.heap.size + 1 + 1) 2 (by simp), World.cell?_alloc_at _ _ _ _ (by simp)]; rfl
  have m1 : w1.cell? ⟨w.heap.size + 1, 1, none⟩ = some (.int .i64 most) := by rw [hc (w.heap.size + 1) 1 (by simp), World.cell?_alloc_past _ _ _ (by simp), World.cell?_alloc_at _ _ _ _ (by simp)]; rfl
  have hzz : w.heap.size + 1 < w1.heap.size := by omega
  have rf : ∀ j, w1.frozen? ⟨w.heap.size + 1 + 1, j, none⟩ = false := fun j => by rw [hf (w.heap.size + 1 + 1) j (by simp), World.frozen?_alloc_at _ _ _ _ (by simp)]
  have HB1 : Hid (Below w.heap.size w w1) := hB1
  have hbase : Hid (s.data.toList = [] ∨ ∃ b o, base = some ⟨b, o, none⟩ ∧ b ≠ w.heap.size + 1 + 1) := by
    rcases HR.out.row with h | ⟨b, o, h1, h2⟩
    · exact .inl h
    · by_cases h0 : s.data.toList = []
      · exact .inl h0
      · have hpos : 0 < s.data.toList.length := by
          rcases Nat.eq_zero_or_pos s.data.toList.length with h | h
          · exact absurd (List.length_eq_zero_iff.1 h) h0
          · exact h
        have := World.block_lt_of_cell? w _ (h2 0 hpos)
        exact .inr ⟨b, o, h1, by simp at this; omega⟩
  clear hc hf hb hB1
  go_wp2_with fail
  first | go_region_with (first
    | (go_at_call 31; refine (HP.out _ ?_).mono ?_; exact (HR.out.below (HB1.out.alloc (by omega) _) (Nat.le_refl _)).drew; rintro e' w2 ⟨rfl, hr2, hg2⟩; have hbx := kept_box (q := w1.heap.size) (x0 := .string s) (x1 := .int .i64 a1) (x2 := .int .i64 e1) hg2 (by omega) (by simp) (by simp) (by simp) (by simp); obtain ⟨x0, x1, x2, xf⟩ := hbx; have hbr := kept_box (q := w.heap.size + 1 + 1) hg2 (by omega) (Lib.cell?_alloc_some _ r0) (Lib.cell?_alloc_some _ r1) (Lib.cell?_alloc_some _ r2) (fun j => ((below1 w1 _).frozen (p := ⟨w.heap.size + 1 + 1, j, none⟩) (by show w.heap.size + 1 + 1 < w1.heap.size; omega)).trans (rf j)); obtain ⟨y0, y1, y2, yf⟩ := hbr; have HG : Hid (ReaderAt w2 p base cap s.data.toList a1 e1 ∧ w.grownBy w2 (some p)) := ⟨hr2, grownBy_trans (grownBy_below _ (HB1.out.alloc (by omega) _)) (grownBy_trans (grownBy_below _ drew_belowS) hg2)⟩; clear hr2 hg2)) | fail
  all_goals go_wp2
  all_goals refine bodyPost_ret (v := .tuple #[.agg #[.string s, .int .i64 a1, .int .i64 e1], .bool true]) (by simp [results, Try.results9, go_sem, y0, y1, y2]) rfl ⟨rfl, ?_, ?_⟩
  all_goals first
    | exact ((HG.out.1.far _ (by omega) hbase.out).far _ (by omega) hbase.out).far _ (by omega) hbase.out
    | exact grownBy_set (grownBy_set (grownBy_set HG.out.2 (by simp; omega) _) (by simp; omega) _) (by simp; omega) _
set_option maxHeartbeats 8000000 in
set_option maxRecDepth 100000 in
theorem step0_any {w : World} {p : Nat} {base : Option Addr} {cap : Nat} {at0 er : Nat} (s : ByteArray) (k most : Int) (n1 : (k == 1) = false) (n2 : (k == 2) = false) (n3 : (k == 3) = false) (h : ReaderAt w p base cap s.data.toList at0 er) (hs : s.size ≤ 9223372036854775000) :
    Calls Try.prog 9 #[.pointer (some ⟨p, 0, none⟩), .agg #[.string s, .int .i64 at0, .int .i64 er], .agg #[.int .i64 k, .int .i64 most]] w fun e w' =>
      e = .returned (.tuple #[.agg #[.string s, .int .i64 (stepR (0 : Int) at0 er (getI (s.data.toList.drop at0))).2.1, .int .i64 (stepR (0 : Int) at0 er (getI (s.data.toList.drop at0))).2.2], .bool true]) ∧
      ReaderAt w' p base cap s.data.toList (stepR (0 : Int) at0 er (getI (s.data.toList.drop at0))).2.1 (stepR (0 : Int) at0 er (getI (s.data.toList.drop at0))).2.2 ∧ w.grownBy w' (some p) := by
  have HR : Hid (ReaderAt w p base cap s.data.toList at0 er) := h
  have hpl := World.block_lt_of_cell? w _ h.made
  have hat : at0 ≤ s.size := by have := h.at_le; rw [data_len] at this; exact this
  have HC : Hid (∀ wx : World, Calls Try.prog 32 #[.agg #[.string s, .int .i64 at0, .int .i64 er]] wx fun e w' => e = .returned (.tuple #[.agg #[.string s, .int .i64 (stepR (0 : Int) at0 er (getI (s.data.toList.drop at0))).2.1, .int .i64 (stepR (0 : Int) at0 er (getI (s.data.toList.drop at0))).2.2], .int .i64 (stepR (0 : Int) at0 er (getI (s.data.toList.drop at0))).1]) ∧ Below wx.heap.size wx w') := fun wx => refRInt_any s at0 er wx hs hat
  have HP : Hid (∀ wx : World, ReaderAt wx p base cap s.data.toList at0 er → Calls Try.prog 33 #[.pointer (some ⟨p, 0, none⟩)] wx fun e w' => e = .returned (.int .i64 (stepR (0 : Int) at0 er (getI (s.data.toList.drop at0))).1) ∧ ReaderAt w' p base cap s.data.toList (stepR (0 : Int) at0 er (getI (s.data.toList.drop at0))).2.1 (stepR (0 : Int) at0 er (getI (s.data.toList.drop at0))).2.2 ∧ wx.grownBy w' (some p)) := fun wx hx => int_any hx
  clear h
  generalize stepR (0 : Int) at0 er (getI (s.data.toList.drop at0)) = q at *
  obtain ⟨v, a1, e1⟩ := q
  go_enter Try.func9, Try.ntmps9
  go_wp2_with fail
  refine (HC.out _).mono ?_
  rintro e' w1 ⟨rfl, hb⟩
  have hz : w.heap.size + 3 ≤ w1.heap.size := by have := hb.size; simp at this; omega
  have hB1 : Below w.heap.size w w1 := (((below1 w _).alloc (by simp) _).alloc (by simp; omega) _).trans (hb.mono (by simp; omega))
  obtain ⟨hc, hf⟩ := bcell hb
  have r0 : w1.cell? ⟨w.heap.size + 1 + 1, 0, none⟩ = some (.string ⟨#[]⟩) := by rw [hc (w.heap.size + 1 + 1) 0 (by simp), World.cell?_alloc_at _ _ _ _ (by simp)]; rfl
  have r1 : w1.cell? ⟨w.heap.size + 1 + 1, 1, none⟩ = some (.int .i64 0) := by rw [hc (w.heap.size + 1 + 1) 1 (by simp), World.cell?_alloc_at _ _ _ _ (by simp)]; rfl
  have r2 : w1.cell? ⟨w.heap.size + 1 + 1, 2, none⟩ = some (.int .i64 0) := by rw [hc (w.heap.size + 1 + 1) 2 (by simp), World.cell?_alloc_at _ _ _ _ (by simp)]; rfl
  have hzz : w.heap.size + 1 < w1.heap.size := by omega
  have rf : ∀ j, w1.frozen? ⟨w.heap.size + 1 + 1, j, none⟩ = false := fun j => by rw [hf (w.heap.size + 1 + 1) j (by simp), World.frozen?_alloc_at _ _ _ _ (by simp)]
  have HB1 : Hid (Below w.heap.size w w1) := hB1
  have hbase : Hid (s.data.toList = [] ∨ ∃ b o, base = some ⟨b, o, none⟩ ∧ b ≠ w.heap.size + 1 + 1) := by
    rcases HR.out.row with h | ⟨b, o, h1, h2⟩
    · exact .inl h
    · by_cases h0 : s.data.toList = []
      · exact .inl h0
      · have hpos : 0 < s.data.toList.length := by
          rcases Nat.eq_zero_or_pos s.data.toList.length with h | h
          · exact absurd (List.length_eq_zero_iff.1 h) h0
          · exact h
        have := World.block_lt_of_cell? w _ (h2 0 hpos)
        exact .inr ⟨b, o, h1, by simp at this; omega⟩
  clear hc hf hb hB1
  go_wp2_with fail
  first | go_region_with (first
    | (go_at_call 33; refine (HP.out _ ?_).mono ?_; exact (HR.out.below (HB1.out.alloc (by omega) _) (Nat.le_refl _)).drew; rintro e' w2 ⟨rfl, hr2, hg2⟩; have hbx := kept_box (q := w1.heap.size) (x0 := .string s) (x1 := .int .i64 a1) (x2 := .int .i64 e1) hg2 (by omega) (by simp) (by simp) (by simp) (by simp); obtain ⟨x0, x1, x2, xf⟩ := hbx; have hbr := kept_box (q := w.heap.size + 1 + 1) hg2 (by omega) (Lib.cell?_alloc_some _ r0) (Lib.cell?_alloc_some _ r1) (Lib.cell?_alloc_some _ r2) (fun j => ((below1 w1 _).frozen (p := ⟨w.heap.size + 1 + 1, j, none⟩) (by show w.heap.size + 1 + 1 < w1.heap.size; omega)).trans (rf j)); obtain ⟨y0, y1, y2, yf⟩ := hbr; have HG : Hid (ReaderAt w2 p base cap s.data.toList a1 e1 ∧ w.grownBy w2 (some p)) := ⟨hr2, grownBy_trans (grownBy_below _ (HB1.out.alloc (by omega) _)) (grownBy_trans (grownBy_below _ drew_belowS) hg2)⟩; clear hr2 hg2)) | fail
  all_goals go_wp2
  all_goals refine bodyPost_ret (v := .tuple #[.agg #[.string s, .int .i64 a1, .int .i64 e1], .bool true]) (by simp [results, Try.results9, go_sem, y0, y1, y2]) rfl ⟨rfl, ?_, ?_⟩
  all_goals first
    | exact ((HG.out.1.far _ (by omega) hbase.out).far _ (by omega) hbase.out).far _ (by omega) hbase.out
    | exact grownBy_set (grownBy_set (grownBy_set HG.out.2 (by simp; omega) _) (by simp; omega) _) (by simp; omega) _
end Go.Proofs.Ytffedjgbhdaecaa
