/- The document's reader, further: Bool, Count and End of the reference. -/
import Derived.Test.YtffedjgbhdaecaaWRefReader
import Derived.Lib.MinMax
namespace Go.Proofs.Ytffedjgbhdaecaa
open Go.RowKit

theorem below1 (w : World) (a : Obj) : Below w.heap.size w (w.alloc a) := (Below.refl _ _).alloc (Nat.le_refl _) _

set_option maxRecDepth 100000 in
theorem index_at0 (w : World) (s : ByteArray) (at0 : Nat) (h : at0 < s.size) :
    (Instr.index 9 (.string s) (.int .i64 (at0 : Int))).run Try.prog w = .ok (.int .u8 ((s.data.toList[at0]'(by rw [data_len]; exact h)).toNat : Int)) w := by
  rw [run_index_string (P := Try.prog) (w := w) 9 s .i64 _ Try.underlying9, dif_pos ⟨by omega, by omega⟩]
  simp only [Int.toNat_natCast]
  rfl

set_option maxHeartbeats 2000000 in
set_option maxRecDepth 100000 in
theorem refREnd_any (s : ByteArray) (at0 er : Nat) (w : World) :
    Calls Try.prog 13 #[.agg #[.string s, .int .i64 at0, .int .i64 er]] w fun e w' => e = .returned (.int .i64 (endR s.size at0 er)) ∧ Below w.heap.size w w' := by
  by_cases her : er ≠ 0
  · have HS : Hid (endR s.size at0 er = er) := if_pos her
    have t0 : ((er : Int) == 0) = false := by rw [beq_eq_false_iff_ne]; omega
    clear her
    rw [HS.out]
    go_enter Try.func13, Try.ntmps13
    go_wp2
    go_ret
    exact ⟨rfl, below1 _ _⟩
  · have e9 : er = 0 := by omega
    subst e9
    by_cases hlt : at0 < s.size
    · have HS : Hid (endR s.size at0 0 = 5) := (if_neg her).trans (if_pos hlt)
      rw [HS.out]
      have t1 : decide ((at0 : Int) < (s.size : Int)) = true := decide_eq_true (by omega)
      clear her
      go_enter Try.func13, Try.ntmps13
      go_wp2
      go_ret
      exact ⟨rfl, below1 _ _⟩
    · have HS : Hid (endR s.size at0 0 = 0) := (if_neg her).trans (if_neg hlt)
      rw [HS.out]
      have t1 : decide ((at0 : Int) < (s.size : Int)) = false := decide_eq_false (by omega)
      clear her
      go_enter Try.func13, Try.ntmps13
      go_wp2
      go_ret
      exact ⟨rfl, below1 _ _⟩

theorem getB_step (l : List UInt8) (at0 : Nat) :
    (l.length ≤ at0 ∧ stepR false at0 0 (getB (l.drop at0)) = (false, at0, 3)) ∨
    (∃ h : at0 < l.length, 1 < (l[at0]).toNat ∧ stepR false at0 0 (getB (l.drop at0)) = (false, at0, 4)) ∨
    (∃ h : at0 < l.length, ¬ 1 < (l[at0]).toNat ∧ stepR false at0 0 (getB (l.drop at0)) = ((l[at0]).toNat == 1, at0 + 1, 0)) := by
  by_cases h : at0 < l.length
  · right
    have e : getB (l.drop at0) = if 1 < (l[at0]).toNat then (false, 0, 4) else ((l[at0]).toNat == 1, 1, 0) := by rw [drop_at h]; rfl
    by_cases hx : 1 < (l[at0]).toNat
    · left; refine ⟨h, hx, ?_⟩; rw [e, if_pos hx]; unfold stepR; simp
    · right; refine ⟨h, hx, ?_⟩; rw [e, if_neg hx]; unfold stepR; simp
  · left
    refine ⟨by omega, ?_⟩
    rw [List.drop_eq_nil_of_le (by omega)]; rfl

theorem getC_step (l : List UInt8) (at0 : Nat) (most : Int) :
    (∃ e, e ≠ 0 ∧ numR l at0 = (0, 0, e) ∧ stepR (0 : Int) at0 0 (getC (l.drop at0) most) = (0, at0, e)) ∨
    (∃ n k, numR l at0 = (n, k, 0) ∧ n < 0 ∧ stepR (0 : Int) at0 0 (getC (l.drop at0) most) = (0, at0, 4)) ∨
    (∃ n k, numR l at0 = (n, k, 0) ∧ 0 ≤ n ∧ max 0 most < n ∧ stepR (0 : Int) at0 0 (getC (l.drop at0) most) = (0, at0, 5)) ∨
    (∃ n k, numR l at0 = (n, k, 0) ∧ 0 ≤ n ∧ n ≤ max 0 most ∧ stepR (0 : Int) at0 0 (getC (l.drop at0) most) = (n, k, 0)) := by
  obtain ⟨v, k, e, hq⟩ : ∃ v k e, getI (l.drop at0) = (v, k, e) := ⟨_, _, _, rfl⟩
  have hc : getC (l.drop at0) most = if e ≠ 0 then (0, 0, e) else if v < 0 then (0, 0, 4) else if max most 0 < v then (0, 0, 5) else (v, k, e) := by unfold getC; rw [hq]
  by_cases he : e = 0
  · subst he
    right
    have hn : numR l at0 = (v, at0 + k, 0) := numR_ok hq
    rw [if_neg (by simp)] at hc
    by_cases hv : v < 0
    · left; exact ⟨v, _, hn, hv, by rw [hc, if_pos hv]; unfold stepR; simp⟩
    · right
      rw [if_neg hv] at hc
      by_cases hm : max most 0 < v
      · left; exact ⟨v, _, hn, by omega, by omega, by rw [hc, if_pos hm]; unfold stepR; simp⟩
      · right; exact ⟨v, _, hn, by omega, by omega, by rw [hc, if_neg hm]; unfold stepR; simp⟩
  · left
    refine ⟨e, he, ?_, ?_⟩
    · unfold numR; rw [hq]; simp [he]
    · rw [hc, if_pos he]; unfold stepR; simp [he]

set_option maxHeartbeats 4000000 in
set_option maxRecDepth 100000 in
theorem refRBool_any (s : ByteArray) (at0 er : Nat) (w : World) (hs : s.size ≤ 9223372036854775000) :
    Calls Try.prog 26 #[.agg #[.string s, .int .i64 at0, .int .i64 er]] w fun e w' =>
      e = .returned (.tuple #[.agg #[.string s, .int .i64 (stepR false at0 er (getB (s.data.toList.drop at0))).2.1, .int .i64 (stepR false at0 er (getB (s.data.toList.drop at0))).2.2], .bool (stepR false at0 er (getB (s.data.toList.drop at0))).1]) ∧ Below w.heap.size w w' := by
  by_cases her : er ≠ 0
  · have HS : Hid (stepR false at0 er (getB (s.data.toList.drop at0)) = (false, at0, er)) := if_pos her
    have t0 : ((er : Int) != 0) = true := by rw [bne_iff_ne]; omega
    clear her
    rw [HS.out]
    go_enter Try.func26, Try.ntmps26
    go_wp2
    exact bodyPost_ret (v := .tuple #[.agg #[.string s, .int .i64 at0, .int .i64 er], .bool false]) (by simp [results, Try.results26, go_sem]) rfl ⟨rfl, below2 _ _ _⟩
  · have e9 : er = 0 := by omega
    subst e9
    clear her
    rcases getB_step s.data.toList at0 with ⟨h1, h3⟩ | ⟨h1, h2, h3⟩ | ⟨h1, h2, h3⟩
    · rw [h3]
      rw [data_len] at h1
      have t1 : ¬ ((at0 : Int) < (s.size : Int)) := by omega
      clear h3
      go_enter Try.func26, Try.ntmps26
      go_wp2_with fail
      refine (wrong_any s at0 0 3 _).mono ?_
      rintro e' w1 ⟨rfl, hb⟩
      obtain ⟨hc, hf⟩ := bcell hb
      have hz : w.heap.size + 1 < w1.heap.size := by have := hb.size; simp at this; omega
      have HB : Hid (Below w.heap.size w w1) := (below2 w _ _).trans (hb.mono (by simp; omega))
      clear hb
      go_wp2
      refine bodyPost_ret (v := .tuple #[.agg #[.string s, .int .i64 at0, .int .i64 3], .bool false]) (by simp [results, Try.results26, go_sem, hc]) rfl ⟨rfl, ?_⟩
      exact ((HB.out.setCell (by simp) _).setCell (by simp) _).setCell (by simp) _
    · rw [h3]
      have hidx := fun wx => index_at0 wx s at0 (by rw [← data_len]; exact h1)
      have t1 : (at0 : Int) < (s.size : Int) := by rw [data_len] at h1; omega
      clear h3
      generalize (s.data.toList[at0]).toNat = x at *
      go_enter Try.func26, Try.ntmps26
      go_wp2_with fail
      refine (wrong_any s at0 0 4 _).mono ?_
      rintro e' w1 ⟨rfl, hb⟩
      obtain ⟨hc, hf⟩ := bcell hb
      have hz : w.heap.size + 1 < w1.heap.size := by have := hb.size; simp at this; omega
      have HB : Hid (Below w.heap.size w w1) := (below2 w _ _).trans (hb.mono (by simp; omega))
      clear hb
      go_wp2
      refine bodyPost_ret (v := .tuple #[.agg #[.string s, .int .i64 at0, .int .i64 4], .bool false]) (by simp [results, Try.results26, go_sem, hc]) rfl ⟨rfl, ?_⟩
      exact ((HB.out.setCell (by simp) _).setCell (by simp) _).setCell (by simp) _
    · rw [h3]
      have hidx := fun wx => index_at0 wx s at0 (by rw [← data_len]; exact h1)
      have t1 : (at0 : Int) < (s.size : Int) := by rw [data_len] at h1; omega
      clear h3
      generalize (s.data.toList[at0]).toNat = x at *
      have e : ((x : Int) == 1) = (x == 1) := by
        by_cases h : x = 1
        · subst h; rfl
        · rw [beq_eq_false_iff_ne.2 h, beq_eq_false_iff_ne.2 (by omega)]
      generalize (x == 1) = z at *
      go_enter Try.func26, Try.ntmps26
      go_wp2
      exact bodyPost_ret (v := .tuple #[.agg #[.string s, .int .i64 (at0 + 1 : Int), .int .i64 0], .bool z]) (by simp [results, Try.results26, go_sem]) rfl ⟨rfl, below2 _ _ _⟩

set_option maxHeartbeats 4000000 in
set_option maxRecDepth 100000 in
theorem refRCount_any (s : ByteArray) (at0 er : Nat) (most : Int) (w : World) (hs : s.size ≤ 9223372036854775000) (ha : at0 ≤ s.size) :
    Calls Try.prog 28 #[.agg #[.string s, .int .i64 at0, .int .i64 er], .int .i64 most] w fun e w' =>
      e = .returned (.tuple #[.agg #[.string s, .int .i64 (stepR (0 : Int) at0 er (getC (s.data.toList.drop at0) most)).2.1, .int .i64 (stepR (0 : Int) at0 er (getC (s.data.toList.drop at0) most)).2.2], .int .i64 (stepR (0 : Int) at0 er (getC (s.data.toList.drop at0) most)).1]) ∧ Below w.heap.size w w' := by
  by_cases her : er ≠ 0
  · have HS : Hid (stepR (0 : Int) at0 er (getC (s.data.toList.drop at0) most) = (0, at0, er)) := if_pos her
    have t0 : ((er : Int) != 0) = true := by rw [bne_iff_ne]; omega
    clear her
    rw [HS.out]
    go_enter Try.func28, Try.ntmps28
    go_wp2
    exact bodyPost_ret (v := .tuple #[.agg #[.string s, .int .i64 at0, .int .i64 er], .int .i64 0]) (by simp [results, Try.results28, go_sem]) rfl ⟨rfl, below2 _ _ _⟩
  · have e9 : er = 0 := by omega
    subst e9
    clear her
    have HN : Hid (∀ wx, Calls Try.prog 45 #[.string s, .int .i64 at0] wx fun e w' => e = .returned (.tuple #[.int .i64 (numR s.data.toList at0).1, .int .i64 (numR s.data.toList at0).2.1, .int .i64 (numR s.data.toList at0).2.2]) ∧ wx = w') := fun wx => number_any s at0 wx hs ha
    rcases getC_step s.data.toList at0 most with ⟨e, h1, h2, h3⟩ | ⟨n, k, h2, g1, h3⟩ | ⟨n, k, h2, g1, g2, h3⟩ | ⟨n, k, h2, g1, g2, h3⟩
    · rw [h3]
      rw [h2] at HN
      have t0 : ((e : Int) != 0) = true := by rw [bne_iff_ne]; omega
      clear h1 h2 h3
      go_enter Try.func28, Try.ntmps28
      go_wp2_with fail
      refine (HN.out _).mono ?_
      rintro e' wx ⟨rfl, rfl⟩
      go_wp2_with fail
      refine (wrong_any s at0 0 e _).mono ?_
      rintro e' w1 ⟨rfl, hb⟩
      obtain ⟨hc, hf⟩ := bcell hb
      have hz : w.heap.size + 1 < w1.heap.size := by have := hb.size; simp at this; omega
      have HB : Hid (Below w.heap.size w w1) := (below2 w _ _).trans (hb.mono (by simp; omega))
      clear hb
      go_wp2
      refine bodyPost_ret (v := .tuple #[.agg #[.string s, .int .i64 at0, .int .i64 e], .int .i64 0]) (by simp [results, Try.results28, go_sem, hc]) rfl ⟨rfl, ?_⟩
      exact ((HB.out.setCell (by simp) _).setCell (by simp) _).setCell (by simp) _
    · rw [h3]
      rw [h2] at HN
      clear h2 h3
      go_enter Try.func28, Try.ntmps28
      go_wp2_with fail
      refine (HN.out _).mono ?_
      rintro e' wx ⟨rfl, rfl⟩
      go_wp2_with fail
      refine (wrong_any s at0 0 4 _).mono ?_
      rintro e' w1 ⟨rfl, hb⟩
      obtain ⟨hc, hf⟩ := bcell hb
      have hz : w.heap.size + 1 < w1.heap.size := by have := hb.size; simp at this; omega
      have HB : Hid (Below w.heap.size w w1) := (below2 w _ _).trans (hb.mono (by simp; omega))
      clear hb
      go_wp2
      refine bodyPost_ret (v := .tuple #[.agg #[.string s, .int .i64 at0, .int .i64 4], .int .i64 0]) (by simp [results, Try.results28, go_sem, hc]) rfl ⟨rfl, ?_⟩
      exact ((HB.out.setCell (by simp) _).setCell (by simp) _).setCell (by simp) _
    · rw [h3]
      rw [h2] at HN
      have t1 : decide (max 0 most < n) = true := decide_eq_true (by omega)
      clear h2 h3
      go_enter Try.func28, Try.ntmps28
      go_wp2_with fail
      refine (HN.out _).mono ?_
      rintro e' wx ⟨rfl, rfl⟩
      go_wp2_with fail
      refine (wrong_any s at0 0 5 _).mono ?_
      rintro e' w1 ⟨rfl, hb⟩
      obtain ⟨hc, hf⟩ := bcell hb
      have hz : w.heap.size + 1 < w1.heap.size := by have := hb.size; simp at this; omega
      have HB : Hid (Below w.heap.size w w1) := (below2 w _ _).trans (hb.mono (by simp; omega))
      clear hb
      go_wp2
      refine bodyPost_ret (v := .tuple #[.agg #[.string s, .int .i64 at0, .int .i64 5], .int .i64 0]) (by simp [results, Try.results28, go_sem, hc]) rfl ⟨rfl, ?_⟩
      exact ((HB.out.setCell (by simp) _).setCell (by simp) _).setCell (by simp) _
    · rw [h3]
      rw [h2] at HN
      have t1 : decide (max 0 most < n) = false := decide_eq_false (by omega)
      clear h2 h3
      go_enter Try.func28, Try.ntmps28
      go_wp2_with fail
      refine (HN.out _).mono ?_
      rintro e' wx ⟨rfl, rfl⟩
      go_wp2
      exact bodyPost_ret (v := .tuple #[.agg #[.string s, .int .i64 k, .int .i64 0], .int .i64 n]) (by simp [results, Try.results28, go_sem]) rfl ⟨rfl, below2 _ _ _⟩
end Go.Proofs.Ytffedjgbhdaecaa
