/- The document's reader: wrong, Int, Bool, Count, Text, End of the reference. -/
import Derived.Test.YtffedjgbhdaecaaWRefNum
namespace Go.Proofs.Ytffedjgbhdaecaa
open Go.RowKit

theorem below2 (w : World) (a b : Obj) : Below w.heap.size w ((w.alloc a).alloc b) := ((Below.refl _ _).alloc (Nat.le_refl _) _).alloc (by simp) _

set_option maxHeartbeats 1000000 in
set_option maxRecDepth 100000 in
theorem wrong_any (s : ByteArray) (a e0 : Nat) (e1 : Int) (w : World) :
    Calls Try.prog 42 #[.agg #[.string s, .int .i64 a, .int .i64 e0], .int .i64 e1] w fun e w' => e = .returned (.agg #[.string s, .int .i64 a, .int .i64 e1]) ∧ Below w.heap.size w w' := by
  go_enter Try.func42, Try.ntmps42
  go_wp2
  exact bodyPost_ret (v := .agg #[.string s, .int .i64 a, .int .i64 e1]) (by simp [results, Try.results42, go_sem]) rfl ⟨rfl, below2 _ _ _⟩

theorem bcell {W w1 : World} (hb : Below W.heap.size W w1) : (∀ b o, b < W.heap.size → w1.cell? ⟨b, o, none⟩ = W.cell? ⟨b, o, none⟩) ∧ (∀ b o, b < W.heap.size → w1.frozen? ⟨b, o, none⟩ = W.frozen? ⟨b, o, none⟩) :=
  ⟨fun b o h => hb.cell (p := ⟨b, o, none⟩) h, fun b o h => hb.frozen (p := ⟨b, o, none⟩) h⟩

theorem numR_step (l : List UInt8) (at0 : Nat) : (∃ e, e ≠ 0 ∧ e ≤ 9 ∧ numR l at0 = (0, 0, e) ∧ stepR (0 : Int) at0 0 (getI (l.drop at0)) = (0, at0, e)) ∨ (∃ n k, numR l at0 = (n, k, 0) ∧ stepR (0 : Int) at0 0 (getI (l.drop at0)) = (n, k, 0)) := by
  obtain ⟨v, k, e, hq⟩ : ∃ v k e, getI (l.drop at0) = (v, k, e) := ⟨_, _, _, rfl⟩
  have h9 := getI_e (l.drop at0)
  rw [hq] at h9
  by_cases he : e = 0
  · subst he
    right
    refine ⟨v, at0 + k, numR_ok hq, ?_⟩
    rw [hq]; unfold stepR; simp
  · left
    refine ⟨e, he, h9, ?_, ?_⟩
    · unfold numR; rw [hq]; simp [he]
    · rw [hq]; unfold stepR; simp [he]

set_option maxHeartbeats 2000000 in
set_option maxRecDepth 100000 in
theorem refRInt_any (s : ByteArray) (at0 er : Nat) (w : World) (hs : s.size ≤ 9223372036854775000) (ha : at0 ≤ s.size) :
    Calls Try.prog 32 #[.agg #[.string s, .int .i64 at0, .int .i64 er]] w fun e w' =>
      e = .returned (.tuple #[.agg #[.string s, .int .i64 (stepR (0 : Int) at0 er (getI (s.data.toList.drop at0))).2.1, .int .i64 (stepR (0 : Int) at0 er (getI (s.data.toList.drop at0))).2.2], .int .i64 (stepR (0 : Int) at0 er (getI (s.data.toList.drop at0))).1]) ∧ Below w.heap.size w w' := by
  by_cases her : er ≠ 0
  · have HS : Hid (stepR (0 : Int) at0 er (getI (s.data.toList.drop at0)) = (0, at0, er)) := if_pos her
    have t0 : ((er : Int) != 0) = true := by rw [bne_iff_ne]; omega
    clear her
    rw [HS.out]
    go_enter Try.func32, Try.ntmps32
    go_wp2
    exact bodyPost_ret (v := .tuple #[.agg #[.string s, .int .i64 at0, .int .i64 er], .int .i64 0]) (by simp [results, Try.results32, go_sem]) rfl ⟨rfl, below2 _ _ _⟩
  · have e9 : er = 0 := by omega
    subst e9
    clear her
    have HN : Hid (∀ wx, Calls Try.prog 45 #[.string s, .int .i64 at0] wx fun e w' => e = .returned (.tuple #[.int .i64 (numR s.data.toList at0).1, .int .i64 (numR s.data.toList at0).2.1, .int .i64 (numR s.data.toList at0).2.2]) ∧ wx = w') := fun wx => number_any s at0 wx hs ha
    rcases numR_step s.data.toList at0 with ⟨e, h1, _, h2, h3⟩ | ⟨n, k, h2, h3⟩
    · rw [h3]
      rw [h2] at HN
      have t0 : ((e : Int) != 0) = true := by rw [bne_iff_ne]; omega
      clear h1 h2 h3
      go_enter Try.func32, Try.ntmps32
      go_wp2_with fail
      refine (HN.out _).mono ?_
      rintro e' wx ⟨rfl, rfl⟩
      go_wp2_with fail
      refine (wrong_any s at0 0 e _).mono ?_
      rintro e' w1 ⟨rfl, hb⟩
      obtain ⟨hc, hf⟩ := bcell hb
      have hz : w.heap.size + 1 < w1.heap.size := by have := hb.size; simp at this; omega
      have hB : Below w.heap.size w w1 := (below2 w _ _).trans (hb.mono (by simp; omega))
      have HB : Hid (Below w.heap.size w w1) := hB
      clear hB hb
      go_wp2
      refine bodyPost_ret (v := .tuple #[.agg #[.string s, .int .i64 at0, .int .i64 e], .int .i64 0]) (by simp [results, Try.results32, go_sem, hc]) rfl ⟨rfl, ?_⟩
      exact ((HB.out.setCell (by simp) _).setCell (by simp) _).setCell (by simp) _
    · rw [h3]
      rw [h2] at HN
      clear h2 h3
      go_enter Try.func32, Try.ntmps32
      go_wp2_with fail
      refine (HN.out _).mono ?_
      rintro e' wx ⟨rfl, rfl⟩
      go_wp2
      exact bodyPost_ret (v := .tuple #[.agg #[.string s, .int .i64 k, .int .i64 0], .int .i64 n]) (by simp [results, Try.results32, go_sem]) rfl ⟨rfl, below2 _ _ _⟩
end Go.Proofs.Ytffedjgbhdaecaa
