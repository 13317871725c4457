/- lex: what is read is written as it stands. -/
import Derived.Test.YtjhfkiighphepaaDoorXTextMath2
namespace Go.Proofs.YtjhfkiighphepaaDoor
open Go.RowKit Go.Shelf

theorem quote_noend {m : List UInt8} (h : m.all okC = true) : (10 : UInt8) ∉ quoteB m := by
  have key : ∀ m : List UInt8, m.all okC = true → (10 : UInt8) ∉ m.flatMap escB := by
    intro m
    induction m with
    | nil => intro _ h; simp at h
    | cons c m ih =>
      intro h hm
      rw [List.all_cons, Bool.and_eq_true] at h
      rw [List.flatMap_cons, List.mem_append] at hm
      rcases hm with hm | hm
      · unfold escB at hm
        by_cases h1 : c.toNat = 92
        · rw [if_pos h1] at hm; revert hm; decide
        · rw [if_neg h1] at hm
          by_cases h2 : c.toNat = 34
          · rw [if_pos h2] at hm; revert hm; decide
          · rw [if_neg h2] at hm
            by_cases h3 : c.toNat = 10
            · rw [if_pos h3] at hm; revert hm; decide
            · rw [if_neg h3, List.mem_singleton] at hm
              exact h3 (by rw [← hm]; rfl)
      · exact ih h.2 hm
  unfold quoteB
  intro hm
  rcases List.mem_cons.1 hm with hm | hm
  · revert hm; decide
  · rcases List.mem_append.1 hm with hm | hm
    · exact key m h hm
    · rw [List.mem_singleton] at hm; revert hm; decide

theorem noend_of {p : Nat → Bool} (hp : p 10 = false) (l : List UInt8) : (10 : UInt8) ∉ l.takeWhile (fun c => p c.toNat) := by
  intro h
  have := mem_row (p := fun c => p c.toNat) l 10 h
  have e : p (10 : UInt8).toNat = p 10 := rfl
  rw [e, hp] at this
  cases this

/-- Of a token that is read: it is written, and so it stands (but for a number); no line's end is in it. -/
theorem tok_read (r : List UInt8) (he : (tokT r).e = 0) : backB (tokT r).k (tokT r).n (tokT r).s ∧ (tokT r).sz ≤ r.length ∧ (10 : UInt8) ∉ r.take (tokT r).sz ∧ ((tokT r).k ≠ 2 → wrB (tokT r).k (tokT r).n (tokT r).s = r.take (tokT r).sz) ∧ (tokT r).k ≤ 5 := by
  cases r with
  | nil => exact ⟨(back_plain (by decide) (by decide)).2 (.inl ⟨rfl, rfl, rfl⟩), Nat.le_refl _, by simp, fun _ => rfl, by decide⟩
  | cons x r =>
    have hsz := (tokT_sz (x :: r) he).1
    cases h1 : letterN x.toNat with
    | true =>
      rw [tokT_letter h1] at he hsz ⊢
      have htk : (x :: r).take (nameL (x :: r)).length = nameL (x :: r) := take_row _ _
      have hne : (10 : UInt8) ∉ nameL (x :: r) := noend_of (by decide) _
      have hall : (nameL (x :: r)).all (fun c => nameN c.toNat) = true := by
        rw [List.all_eq_true]
        exact fun c hc => mem_row (p := fun c => nameN c.toNat) _ c hc
      unfold nameR at he hsz ⊢
      by_cases hq : isWord (nameL (x :: r)) = true
      · rw [if_pos hq] at he hsz ⊢
        simp only at he hsz ⊢
        refine ⟨(back_plain (by decide) (by decide)).2 (.inr (.inr (.inr ⟨rfl, hq, rfl⟩))), hsz, by rw [htk]; exact hne, fun _ => ?_, by decide⟩
        rw [htk]; rfl
      · rw [if_neg hq] at he hsz ⊢
        by_cases h20 : 20 < (nameL (x :: r)).length
        · rw [if_pos h20] at he; simp at he
        · rw [if_neg h20] at he hsz ⊢
          simp only at he hsz ⊢
          refine ⟨(back_plain (by decide) (by decide)).2 (.inr (.inl ⟨rfl, ?_, rfl⟩)), hsz, by rw [htk]; exact hne, fun _ => ?_, by decide⟩
          · have hc : nameL (x :: r) = x :: nameL r := by unfold nameL; rw [List.takeWhile_cons_of_pos (by simp [nameN, h1])]
            rw [hc] at hall hq h20 ⊢
            unfold nameQ
            simp only
            rw [List.all_cons, Bool.and_eq_true] at hall
            rw [h1, hall.2, decide_eq_true (by omega)]
            simp [hq]
          · rw [htk]; rfl
    | false =>
      cases h4 : digitN x.toNat with
      | true =>
        rw [tokT_digit h1 h4] at he hsz ⊢
        have htk : (x :: r).take (digL (x :: r)).length = digL (x :: r) := take_row _ _
        have hne : (10 : UInt8) ∉ digL (x :: r) := noend_of (by decide) _
        unfold numT at he hsz ⊢
        by_cases hv : valA 0 (digL (x :: r)) < 9223372036854775808
        · rw [if_pos hv] at he hsz ⊢
          simp only at he hsz ⊢
          exact ⟨(back_num (by omega)).2 ⟨rfl, by omega⟩, hsz, by rw [htk]; exact hne, fun h => absurd rfl h, by decide⟩
        · rw [if_neg hv] at he; simp at he
      | false =>
        by_cases h34 : x.toNat = 34
        · have hx : x = 34 := UInt8.toNat_inj.1 h34
          have hT := tokT_text (r := r) h1 h4 h34
          rw [hT] at he
          unfold textT at he
          rw [List.drop_succ_cons, List.drop_zero] at he
          obtain ⟨m1, rest, -, i2, i3, i4⟩ := textF_read _ [] 1 r (by simp) he
          rw [List.nil_append] at i4
          have hpl : plainQ m1 = true := by unfold plainQ; rw [i3, decide_eq_true i4]; rfl
          have hr : x :: r = quoteB m1 ++ rest := by rw [hx, i2]; unfold quoteB; simp
          rw [hr, tokT_quote m1 rest hpl]
          simp only
          rw [List.take_left]
          exact ⟨back_text.2 ⟨hpl, rfl⟩, by rw [List.length_append]; omega, quote_noend i3, fun _ => rfl, by decide⟩
        · rw [tokT_sign h1 h4 h34] at he hsz ⊢
          unfold signT at he hsz ⊢
          by_cases hb : bestS (x :: r) 25 = []
          · rw [if_pos hb] at he; simp at he
          · rw [if_neg hb] at hsz ⊢
            simp only at hsz ⊢
            rcases (best_all (x :: r)).2 with h9 | ⟨h9, h8⟩
            · exact absurd h9 hb
            · have htk : (x :: r).take (bestS (x :: r) 25).length = bestS (x :: r) 25 := by
                unfold Lib.hasPrefix at h8
                exact (List.prefix_iff_eq_take.1 (List.isPrefixOf_iff_prefix.1 h8)).symm
              have hne : ∀ y ∈ signsL, (10 : UInt8) ∉ y := by decide
              refine ⟨(back_plain (by decide) (by decide)).2 (.inr (.inr (.inl ⟨rfl, h9, rfl⟩))), hsz, by rw [htk]; exact hne _ h9, fun _ => ?_, by decide⟩
              rw [htk]; rfl

/-- What holds of each token of a text. -/
def partP (s : List UInt8) (t : Tk) : Prop := t.at0 ≤ s.length ∧ t.line = 1 + Lib.countByte (s.take t.at0) 10 ∧ backB t.k t.n t.s ∧ (t.k ≠ 2 → t.at0 + (wrB t.k t.n t.s).length ≤ s.length ∧ (s.drop t.at0).take (wrB t.k t.n t.s).length = wrB t.k t.n t.s) ∧ t.n < 9223372036854775808 ∧ t.s.length ≤ 5000

def partsP (s : List UInt8) : Nat → List Tk → Prop
  | _, [] => True
  | a, t :: ts => a ≤ t.at0 ∧ partP s t ∧ partsP s t.at0 ts

theorem tokT_n (r : List UInt8) : (tokT r).n < 9223372036854775808 := by
  cases r with
  | nil => decide
  | cons x r =>
    cases h1 : letterN x.toNat with
    | true =>
      rw [tokT_letter h1]
      unfold nameR
      split
      · exact (show (0 : Nat) < 9223372036854775808 by decide)
      · split <;> exact (show (0 : Nat) < 9223372036854775808 by decide)
    | false =>
      cases h4 : digitN x.toNat with
      | true =>
        rw [tokT_digit h1 h4]
        unfold numT
        split
        · assumption
        · decide
      | false =>
        by_cases h34 : x.toNat = 34
        · rw [tokT_text h1 h4 h34]
          unfold textT
          have key : ∀ (f : Nat) (m : List UInt8) (a : Nat) (r : List UInt8), (textF f m a r).n = 0 := by
            intro f
            induction f with
            | zero => intro m a r; rfl
            | succ f ih =>
              intro m a r
              cases r with
              | nil => rfl
              | cons y r =>
                unfold textF
                split
                · rfl
                · split
                  · rfl
                  · split
                    · rfl
                    · exact ih _ _ _
          rw [key]
          decide
        · rw [tokT_sign h1 h4 h34]
          unfold signT
          split <;> exact (show (0 : Nat) < 9223372036854775808 by decide)

theorem scanS_parts (s : List UInt8) (hs : s.length ≤ 4096) : ∀ (f line a : Nat), a ≤ s.length → line = 1 + Lib.countByte (s.take a) 10 → (scanS s f line a).2.2 = 0 → partsP s a (scanS s f line a).1
  | 0, _, _, _, _, _ => trivial
  | f + 1, line, a, ha, hl, he0 => by
    have hp := placeT_le ha
    rw [scanS] at he0 ⊢
    by_cases he : (nextT s a).e ≠ 0
    · rw [if_pos he] at he0; exact absurd he0 he
    · rw [if_neg he] at he0 ⊢
      have he1 : (tokT (s.drop (placeT s a))).e = 0 := by
        show (nextT s a).e = 0
        omega
      obtain ⟨r1, r2, r3, r4, -⟩ := tok_read (s.drop (placeT s a)) he1
      have hln : lineT s line a = 1 + Lib.countByte (s.take (placeT s a)) 10 := by
        unfold lineT placeT
        rw [hl, List.take_add, count_split]
        omega
      have hpt : partP s (tkT s line a) := by
        refine ⟨hp, hln, r1, fun hk => ?_, tokT_n _, ?_⟩
        · have h9 := r4 hk
          have e1 : wrB (tkT s line a).k (tkT s line a).n (tkT s line a).s = (s.drop (placeT s a)).take (tokT (s.drop (placeT s a))).sz := h9
          rw [e1]
          have e2 : ((s.drop (placeT s a)).take (tokT (s.drop (placeT s a))).sz).length = (tokT (s.drop (placeT s a))).sz := by rw [List.length_take]; omega
          rw [e2]
          rw [List.length_drop] at r2
          refine ⟨?_, rfl⟩
          show placeT s a + (tokT (s.drop (placeT s a))).sz ≤ s.length
          omega
        · have := tokT_s (s.drop (placeT s a))
          rw [List.length_drop] at this
          show (tokT (s.drop (placeT s a))).s.length ≤ 5000
          omega
      have hat : a ≤ (tkT s line a).at0 := by show a ≤ placeT s a; unfold placeT; omega
      by_cases hk : (nextT s a).k = 0
      · rw [if_pos hk] at he0 ⊢
        exact ⟨hat, hpt, trivial⟩
      · rw [if_neg hk] at he0 ⊢
        have hm := nextT_move ha he1 hk
        have hln2 : lineT s line a = 1 + Lib.countByte (s.take (placeT s a + (nextT s a).sz)) 10 := by
          rw [hln, List.take_add, count_split]
          have : Lib.countByte ((s.drop (placeT s a)).take (nextT s a).sz) 10 = 0 := by
            unfold Lib.countByte
            exact List.count_eq_zero.2 r3
          omega
        have ih := scanS_parts s hs f (lineT s line a) (placeT s a + (nextT s a).sz) hm.2 hln2
        generalize scanS s f (lineT s line a) (placeT s a + (nextT s a).sz) = A at he0 ih ⊢
        by_cases hA : A.2.2 ≠ 0
        · rw [if_pos hA] at he0; exact absurd he0 hA
        · rw [if_neg hA] at he0 ⊢
          have i1 := ih (by omega)
          refine ⟨hat, hpt, ?_⟩
          cases hA1 : A.1 with
          | nil => trivial
          | cons t ts =>
            rw [hA1] at i1
            refine ⟨?_, i1.2⟩
            have h9 : placeT s a + (nextT s a).sz ≤ t.at0 := i1.1
            show placeT s a ≤ t.at0
            omega

theorem scanS_last (s : List UInt8) : ∀ (f line a : Nat), a ≤ s.length → s.length < a + f → (scanS s f line a).2.2 = 0 → ∃ ts line', (scanS s f line a).1 = ts ++ [⟨0, [], 0, line', s.length⟩]
  | 0, _, _, h1, h2, _ => by omega
  | f + 1, line, a, ha, hf, he0 => by
    have hp := placeT_le ha
    rw [scanS] at he0 ⊢
    by_cases he : (nextT s a).e ≠ 0
    · rw [if_pos he] at he0; exact absurd he0 he
    · rw [if_neg he] at he0 ⊢
      have he1 : (nextT s a).e = 0 := by omega
      by_cases hk : (nextT s a).k = 0
      · rw [if_pos hk] at he0 ⊢
        have h9 := (tokT_sz (s.drop (placeT s a)) he1).2.2 hk
        have hl := congrArg List.length h9
        rw [List.length_drop, List.length_nil] at hl
        have hpe : placeT s a = s.length := by omega
        have hn : nextT s a = ⟨0, [], 0, 0, 0⟩ := by
          show tokT (s.drop (placeT s a)) = _
          rw [h9]; rfl
        refine ⟨[], lineT s line a, ?_⟩
        unfold tkT
        rw [hn, hpe]
        rfl
      · rw [if_neg hk] at he0 ⊢
        have hm := nextT_move ha he1 hk
        have ih := scanS_last s f (lineT s line a) (placeT s a + (nextT s a).sz) hm.2 (by omega)
        generalize scanS s f (lineT s line a) (placeT s a + (nextT s a).sz) = A at he0 ih ⊢
        by_cases hA : A.2.2 ≠ 0
        · rw [if_pos hA] at he0; exact absurd he0 hA
        · rw [if_neg hA] at he0 ⊢
          obtain ⟨ts, line', i1⟩ := ih (by omega)
          exact ⟨tkT s line a :: ts, line', by rw [i1]; rfl⟩

theorem scanS_none (s : List UInt8) (f line a : Nat) (h : (scanS s f line a).2.2 ≠ 0) : (scanS s f line a).1 = [] := by
  cases f with
  | zero => rfl
  | succ f =>
    rw [scanS] at h ⊢
    by_cases he : (nextT s a).e ≠ 0
    · rw [if_pos he]
    · rw [if_neg he] at h ⊢
      by_cases hk : (nextT s a).k = 0
      · rw [if_pos hk] at h; exact absurd rfl h
      · rw [if_neg hk] at h ⊢
        generalize scanS s f (lineT s line a) (placeT s a + (nextT s a).sz) = A at h ⊢
        by_cases hA : A.2.2 ≠ 0
        · rw [if_pos hA]
        · rw [if_neg hA] at h; exact absurd rfl h

/-- All of LexParts. -/
theorem scanB_parts (s : List UInt8) : ((scanB s).2.2 ≠ 0 → (scanB s).1 = []) ∧ ((scanB s).2.2 = 0 → s.length ≤ 4096 ∧ partsP s 0 (scanB s).1 ∧ ∃ ts line', (scanB s).1 = ts ++ [⟨0, [], 0, line', s.length⟩]) := by
  unfold scanB
  by_cases h : 4096 < s.length
  · rw [if_pos h]
    exact ⟨fun _ => rfl, fun h => by simp at h⟩
  · rw [if_neg h]
    refine ⟨scanS_none s _ 1 0, fun he => ⟨by omega, scanS_parts s (by omega) _ 1 0 (Nat.zero_le _) (by simp [Lib.countByte]) he, scanS_last s _ 1 0 (Nat.zero_le _) (by omega) he⟩⟩

end Go.Proofs.YtjhfkiighphepaaDoor
