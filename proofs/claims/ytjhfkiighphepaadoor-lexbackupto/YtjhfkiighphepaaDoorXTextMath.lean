/- lex: which tokens are written, and how they are read again. -/
import Derived.Test.YtjhfkiighphepaaDoorXText2
import Derived.Test.YtjhfkiighphepaaDoorXBlank2
namespace Go.Proofs.YtjhfkiighphepaaDoor
open Go.RowKit Go.Shelf

/-- May a byte stand in a text? -/
def okC (c : UInt8) : Bool := c.toNat == 10 || (decide (32 ≤ c.toNat) && decide (c.toNat ≤ 126))
/-- May a text be written? -/
def plainQ (s : List UInt8) : Bool := s.all okC && decide (s.length ≤ 255)

theorem okC_iff (c : UInt8) : okC c = true ↔ (c.toNat = 10 ∨ (32 ≤ c.toNat ∧ c.toNat ≤ 126)) := by
  unfold okC; simp

theorem esc_ok {c : UInt8} (h : okC c = true) (t : List UInt8) : tbR (escB c ++ t) = (c.toNat, (escB c).length) ∧ (escB c ++ t).head? ≠ some 34 ∧ 1 ≤ (escB c).length := by
  rw [okC_iff] at h
  unfold escB
  by_cases h1 : c.toNat = 92
  · rw [if_pos h1, h1]
    exact ⟨rfl, by simp, by decide⟩
  · rw [if_neg h1]
    by_cases h2 : c.toNat = 34
    · rw [if_pos h2, h2]
      exact ⟨rfl, by simp, by decide⟩
    · rw [if_neg h2]
      by_cases h3 : c.toNat = 10
      · rw [if_pos h3, h3]
        exact ⟨rfl, by simp, by decide⟩
      · rw [if_neg h3]
        refine ⟨?_, ?_, by simp⟩
        · rw [List.cons_append, tbR_one (by omega) h1]; rfl
        · intro e
          simp at e
          rw [e] at h2
          exact h2 rfl

theorem esc_bad {c : UInt8} (h : okC c = false) (t : List UInt8) : escB c = [c] ∧ tbR (c :: t) = (0, 0) ∧ c.toNat ≠ 34 := by
  have h' : ¬ (c.toNat = 10 ∨ (32 ≤ c.toNat ∧ c.toNat ≤ 126)) := fun e => by rw [(okC_iff c).2 e] at h; cases h
  refine ⟨?_, tbR_bad (by omega), by omega⟩
  unfold escB
  rw [if_neg (by omega), if_neg (by omega), if_neg (by omega)]

theorem toUInt8_of (c : UInt8) : c.toNat.toUInt8 = c := UInt8.toNat_inj.1 (Lib.toUInt8_toNat (UInt8.toNat_lt c))

theorem textF_step {f : Nat} {meant t : List UInt8} {at0 : Nat} {x : UInt8} {r : List UInt8} (h34 : x.toNat ≠ 34) {c sz : Nat} (htb : tbR (x :: r) = (c, sz)) (hsz : sz ≠ 0) (hd : (x :: r).drop sz = t) :
    textF (f + 1) meant at0 (x :: r) = if meant.length = 255 then ⟨0, [], 0, 0, 5⟩ else textF f (meant ++ [c.toUInt8]) (at0 + sz) t := by
  conv => lhs; unfold textF
  rw [if_neg h34, htb, if_neg hsz]
  simp only [hd]

/-- A text that is written is read. -/
theorem textF_esc (t : List UInt8) : ∀ (s meant : List UInt8) (f at0 : Nat), (s.flatMap escB).length < f → s.all okC = true → meant.length + s.length ≤ 255 →
    textF f meant at0 (s.flatMap escB ++ 34 :: t) = ⟨3, meant ++ s, 0, at0 + (s.flatMap escB).length + 1, 0⟩
  | [], meant, f, at0, hf, _, _ => by
    obtain ⟨f, rfl⟩ : ∃ g, f = g + 1 := ⟨f - 1, by simp at hf; omega⟩
    simp only [List.flatMap_nil, List.nil_append, List.append_nil, List.length_nil, Nat.add_zero]
    unfold textF
    rw [if_pos (by decide)]
  | c :: s, meant, f, at0, hf, hok, hl => by
    rw [List.all_cons, Bool.and_eq_true] at hok
    rw [List.flatMap_cons, List.length_append] at hf
    rw [List.length_cons] at hl
    obtain ⟨f, rfl⟩ : ∃ g, f = g + 1 := ⟨f - 1, by omega⟩
    obtain ⟨h1, h2, h3⟩ := esc_ok hok.1 (s.flatMap escB ++ 34 :: t)
    have hcat : (c :: s).flatMap escB ++ 34 :: t = escB c ++ (s.flatMap escB ++ 34 :: t) := by rw [List.flatMap_cons, List.append_assoc]
    have ih := textF_esc t s (meant ++ [c]) f (at0 + (escB c).length) (by omega) hok.2 (by rw [List.length_append, List.length_singleton]; omega)
    rw [hcat]
    obtain ⟨x, r, hxr⟩ : ∃ x r, escB c ++ (s.flatMap escB ++ 34 :: t) = x :: r := by
      cases h9 : escB c ++ (s.flatMap escB ++ 34 :: t) with
      | nil =>
        have := congrArg List.length h9
        rw [List.length_append, List.length_nil] at this
        omega
      | cons x r => exact ⟨x, r, rfl⟩
    have hdr : (x :: r).drop (escB c).length = s.flatMap escB ++ 34 :: t := by rw [← hxr, List.drop_left]
    rw [hxr] at h1 h2
    rw [hxr, textF_step (fun e => h2 (by rw [List.head?_cons, show x = 34 from UInt8.toNat_inj.1 e])) h1 (by omega) hdr, if_neg (by omega), toUInt8_of, ih, List.flatMap_cons, List.length_append]
    simp only [TR.mk.injEq, List.append_assoc, List.singleton_append, true_and, and_true]
    omega

theorem textF_esc_bad (t : List UInt8) : ∀ (s meant : List UInt8) (f at0 : Nat), meant.length ≤ 255 → (s.all okC = false ∨ 255 < meant.length + s.length) → (textF f meant at0 (s.flatMap escB ++ 34 :: t)).e ≠ 0
  | [], meant, f, at0, hm, h => by
    rcases h with h | h
    · simp at h
    · simp at h; omega
  | c :: s, meant, 0, at0, hm, h => by
    show (textF 0 _ _ _).e ≠ 0
    unfold textF
    simp
  | c :: s, meant, f + 1, at0, hm, h => by
    have hcat : (c :: s).flatMap escB ++ 34 :: t = escB c ++ (s.flatMap escB ++ 34 :: t) := by rw [List.flatMap_cons, List.append_assoc]
    rw [hcat]
    cases hok : okC c with
    | false =>
      obtain ⟨h1, h2, h3⟩ := esc_bad hok (s.flatMap escB ++ 34 :: t)
      rw [h1, List.singleton_append]
      unfold textF
      rw [if_neg h3, h2, if_pos rfl]
      simp
    | true =>
      obtain ⟨h1, h2, h3⟩ := esc_ok hok (s.flatMap escB ++ 34 :: t)
      obtain ⟨x, r, hxr⟩ : ∃ x r, escB c ++ (s.flatMap escB ++ 34 :: t) = x :: r := by
        cases h9 : escB c ++ (s.flatMap escB ++ 34 :: t) with
        | nil =>
          have := congrArg List.length h9
          rw [List.length_append, List.length_nil] at this
          omega
        | cons x r => exact ⟨x, r, rfl⟩
      have hdr : (x :: r).drop (escB c).length = s.flatMap escB ++ 34 :: t := by rw [← hxr, List.drop_left]
      rw [hxr] at h1 h2
      rw [hxr, textF_step (fun e => h2 (by rw [List.head?_cons, show x = 34 from UInt8.toNat_inj.1 e])) h1 (by omega) hdr]
      by_cases h255 : meant.length = 255
      · rw [if_pos h255]; simp
      · rw [if_neg h255]
        refine textF_esc_bad t s _ f _ (by rw [List.length_append, List.length_singleton]; omega) ?_
        rcases h with h | h
        · rw [List.all_cons, hok, Bool.true_and] at h; exact .inl h
        · rw [List.length_cons] at h; right; rw [List.length_append, List.length_singleton]; omega

theorem tokT_quote (s t : List UInt8) (hp : plainQ s = true) : tokT (quoteB s ++ t) = ⟨3, s, 0, (quoteB s).length, 0⟩ := by
  unfold plainQ at hp
  rw [Bool.and_eq_true, decide_eq_true_eq] at hp
  have hq : quoteB s ++ t = 34 :: (s.flatMap escB ++ 34 :: t) := by unfold quoteB; simp
  have hlen : (quoteB s).length = (s.flatMap escB).length + 2 := by unfold quoteB; simp
  rw [hq]
  have h1 : tokT (34 :: (s.flatMap escB ++ 34 :: t)) = textT (34 :: (s.flatMap escB ++ 34 :: t)) := rfl
  rw [h1]
  unfold textT
  rw [List.drop_succ_cons, List.drop_zero, textF_esc t s [] _ 1 (by simp; omega) hp.1 (by simp; omega), hlen]
  simp only [List.nil_append, TR.mk.injEq, true_and, and_true]
  omega

theorem tokT_quote_bad (s : List UInt8) (hp : plainQ s = false) : (tokT (quoteB s)).e ≠ 0 := by
  have hq : quoteB s = 34 :: (s.flatMap escB ++ 34 :: []) := rfl
  rw [hq]
  have h1 : tokT (34 :: (s.flatMap escB ++ 34 :: [])) = textT (34 :: (s.flatMap escB ++ 34 :: [])) := rfl
  rw [h1]
  unfold textT
  rw [List.drop_succ_cons, List.drop_zero]
  refine textF_esc_bad [] s [] _ 1 (by simp) ?_
  unfold plainQ at hp
  rw [Bool.and_eq_false_iff] at hp
  rcases hp with h | h
  · exact .inl h
  · right
    rw [decide_eq_false_iff_not] at h
    simp
    omega

/-- What is read as a text is written as it stands. -/
theorem textF_read : ∀ (f : Nat) (meant : List UInt8) (at0 : Nat) (r : List UInt8), meant.length ≤ 255 → (textF f meant at0 r).e = 0 →
    ∃ m1 rest, (textF f meant at0 r).s = meant ++ m1 ∧ r = m1.flatMap escB ++ 34 :: rest ∧ m1.all okC = true ∧ (meant ++ m1).length ≤ 255
  | 0, _, _, _, _, h => by simp [textF] at h
  | _ + 1, _, _, [], _, h => by simp [textF] at h
  | f + 1, meant, at0, x :: r, hm, h => by
    by_cases h1 : x.toNat = 34
    · have hx : x = 34 := UInt8.toNat_inj.1 h1
      refine ⟨[], r, ?_, ?_, rfl, by simpa using hm⟩
      · unfold textF; rw [if_pos h1]; simp
      · rw [hx]; rfl
    · by_cases hbad : x.toNat < 32 ∨ 126 < x.toNat
      · unfold textF at h
        rw [if_neg h1, tbR_bad hbad, if_pos rfl] at h
        simp at h
      · by_cases h92 : x.toNat = 92
        · cases r with
          | nil =>
            unfold textF at h
            rw [if_neg h1, tbR_end hbad h92, if_pos rfl] at h
            simp at h
          | cons y t =>
            have htb : tbR (x :: y :: t) = tbE y.toNat := tbR_two hbad h92
            have hx : x = 92 := UInt8.toNat_inj.1 h92
            have key : ∀ c : Nat, c < 256 → okC c.toUInt8 = true → escB c.toUInt8 = [92, y] → tbE y.toNat = (c, 2) → ∃ m1 rest, (textF (f + 1) meant at0 (x :: y :: t)).s = meant ++ m1 ∧ x :: y :: t = m1.flatMap escB ++ 34 :: rest ∧ m1.all okC = true ∧ (meant ++ m1).length ≤ 255 := by
              intro c hc hok hesc hte
              rw [hte] at htb
              have hst := textF_step (f := f) (meant := meant) (at0 := at0) h1 htb (by decide) rfl
              rw [hst] at h ⊢
              by_cases h255 : meant.length = 255
              · rw [if_pos h255] at h; simp at h
              · rw [if_neg h255] at h ⊢
                obtain ⟨m1, rest, i1, i2, i3, i4⟩ := textF_read f _ _ _ (by rw [List.length_append, List.length_singleton]; omega) h
                refine ⟨c.toUInt8 :: m1, rest, by rw [i1]; simp, ?_, by rw [List.all_cons, hok, i3]; rfl, by simpa using i4⟩
                rw [List.flatMap_cons, hesc, List.append_assoc, ← i2, hx]
                rfl
            by_cases y92 : y.toNat = 92
            · have hy : y = 92 := UInt8.toNat_inj.1 y92
              exact key 92 (by decide) (by decide) (by rw [hy]; decide) (by rw [y92]; rfl)
            · by_cases y34 : y.toNat = 34
              · have hy : y = 34 := UInt8.toNat_inj.1 y34
                exact key 34 (by decide) (by decide) (by rw [hy]; decide) (by rw [y34]; rfl)
              · by_cases y110 : y.toNat = 110
                · have hy : y = 110 := UInt8.toNat_inj.1 y110
                  exact key 10 (by decide) (by decide) (by rw [hy]; decide) (by rw [y110]; rfl)
                · have hte : tbE y.toNat = (0, 0) := by unfold tbE; rw [if_neg y92, if_neg y34, if_neg y110]
                  unfold textF at h
                  rw [if_neg h1, htb, hte, if_pos rfl] at h
                  simp at h
        · have htb : tbR (x :: r) = (x.toNat, 1) := tbR_one hbad h92
          have hst := textF_step (f := f) (meant := meant) (at0 := at0) h1 htb (by decide) rfl
          rw [hst] at h ⊢
          by_cases h255 : meant.length = 255
          · rw [if_pos h255] at h; simp at h
          · rw [if_neg h255, toUInt8_of] at h ⊢
            obtain ⟨m1, rest, i1, i2, i3, i4⟩ := textF_read f _ _ _ (by rw [List.length_append, List.length_singleton]; omega) h
            have hok : okC x = true := (okC_iff x).2 (.inr (by omega))
            have hesc : escB x = [x] := by unfold escB; rw [if_neg h92, if_neg h1, if_neg (by omega)]
            refine ⟨x :: m1, rest, by rw [i1]; simp, ?_, by rw [List.all_cons, hok, i3]; rfl, by simpa using i4⟩
            rw [List.flatMap_cons, hesc, List.append_assoc, ← i2]
            rfl
end Go.Proofs.YtjhfkiighphepaaDoor
