/- lex: which tokens are written: numbers, names, signs. -/
import Derived.Test.YtjhfkiighphepaaDoorXTextMath
import Derived.Test.YtjhfkiighphepaaDoorXRefMath
namespace Go.Proofs.YtjhfkiighphepaaDoor
open Go.RowKit Go.Shelf

theorem dec_all (u : Nat) : ∀ c ∈ Lib.decDigits u, digitN c.toNat = true := by
  induction u using Nat.strongRecOn with
  | _ u ih =>
    have key : ∀ d : Nat, d < 10 → digitN (UInt8.ofNat (48 + d)).toNat = true := by decide
    intro c hc
    rw [Lib.decDigits] at hc
    by_cases h : u < 10
    · rw [dif_pos h, List.mem_singleton] at hc
      rw [hc]; exact key u h
    · rw [dif_neg h, List.mem_append, List.mem_singleton] at hc
      rcases hc with hc | hc
      · exact ih (u / 10) (by omega) c hc
      · rw [hc]; exact key (u % 10) (by omega)

theorem dec_ne (u : Nat) : Lib.decDigits u ≠ [] := by
  intro h
  have := congrArg List.length h
  rw [Lib.decDigits_length, List.length_nil] at this
  have := Lib.nDigits_pos u
  omega

theorem dec_val (u : Nat) : valA 0 (Lib.decDigits u) = u := by
  induction u using Nat.strongRecOn with
  | _ u ih =>
    have key : ∀ d : Nat, d < 10 → (UInt8.ofNat (48 + d)).toNat - 48 = d := by decide
    rw [Lib.decDigits]
    by_cases h : u < 10
    · rw [dif_pos h]
      show 0 * 10 + ((UInt8.ofNat (48 + u)).toNat - 48) = u
      rw [key u h]; omega
    · rw [dif_neg h, valA_snoc, ih (u / 10) (by omega), key (u % 10) (by omega)]
      omega

theorem digL_dec (u : Nat) (t : List UInt8) (ht : ∀ x ∈ t.head?, digitN x.toNat = false) : digL (Lib.decDigits u ++ t) = Lib.decDigits u := by
  unfold digL
  rw [takeWhile_out t _ (by rw [takeWhile_every _ (dec_all u)])]
  cases t with
  | nil => simp
  | cons x t => rw [List.takeWhile_cons_of_neg (by rw [ht x rfl]; simp), List.append_nil]

theorem tokT_dec (u : Nat) (hu : u < 9223372036854775808) (t : List UInt8) (ht : ∀ x ∈ t.head?, digitN x.toNat = false) : tokT (Lib.decDigits u ++ t) = ⟨2, [], u, (Lib.decDigits u).length, 0⟩ := by
  obtain ⟨x, r, hxr⟩ : ∃ x r, Lib.decDigits u = x :: r := by
    cases h : Lib.decDigits u with
    | nil => exact absurd h (dec_ne u)
    | cons x r => exact ⟨x, r, rfl⟩
  have hx : digitN x.toNat = true := dec_all u x (by rw [hxr]; exact List.mem_cons_self ..)
  have hl : letterN x.toNat = false := by
    unfold digitN at hx
    rw [Bool.and_eq_true, decide_eq_true_eq, decide_eq_true_eq] at hx
    unfold letterN
    rw [Bool.or_eq_false_iff, Bool.or_eq_false_iff]
    refine ⟨⟨by rw [beq_eq_false_iff_ne]; omega, ?_⟩, ?_⟩ <;> (rw [Bool.and_eq_false_iff, decide_eq_false_iff_not, decide_eq_false_iff_not]; omega)
  have hd := digL_dec u t ht
  have h1 : tokT (Lib.decDigits u ++ t) = numT (Lib.decDigits u ++ t) := by
    rw [hxr, List.cons_append]
    unfold tokT
    simp only
    rw [if_neg (by rw [hl]; simp), if_pos hx]
  rw [h1]
  unfold numT
  rw [hd, dec_val, if_pos hu]

theorem textF_k' : ∀ (f : Nat) (meant : List UInt8) (at0 : Nat) (r : List UInt8), (textF f meant at0 r).e = 0 → (textF f meant at0 r).k = 3
  | 0, _, _, _, h => by simp [textF] at h
  | _ + 1, _, _, [], h => by simp [textF] at h
  | f + 1, meant, at0, x :: r, h => by
    unfold textF at h ⊢
    by_cases h1 : x.toNat = 34
    · rw [if_pos h1]
    · rw [if_neg h1] at h ⊢
      by_cases h2 : (tbR (x :: r)).2 = 0
      · rw [if_pos h2] at h; simp at h
      · rw [if_neg h2] at h ⊢
        by_cases h3 : meant.length = 255
        · rw [if_pos h3] at h; simp at h
        · rw [if_neg h3] at h ⊢
          exact textF_k' f _ _ _ h

/-- Is a text a name? -/
def nameQ (s : List UInt8) : Bool := match s with | [] => false | x :: r => letterN x.toNat && r.all (fun c => nameN c.toNat) && !isWord s && decide (s.length ≤ 20)

theorem nameL_all {s : List UInt8} (h : s.all (fun c => nameN c.toNat) = true) : nameL s = s := takeWhile_every s (fun x hx => List.all_eq_true.1 h x hx)
theorem all_of_nameL {s : List UInt8} (h : nameL s = s) : s.all (fun c => nameN c.toNat) = true := by
  rw [List.all_eq_true]
  intro x hx
  exact mem_row (p := fun c => nameN c.toNat) s x (by rw [← h] at hx; exact hx)

theorem letter_word : ∀ x ∈ wordsL, ∃ c r, x = c :: r ∧ letterN c.toNat = true ∧ x.all (fun c => nameN c.toNat) = true := by
  intro x hx
  have h1 : ∀ x ∈ wordsL, x ≠ [] := by decide
  have h2 : ∀ x ∈ wordsL, x.all (fun c => nameN c.toNat) = true := by decide
  have h3 : ∀ x ∈ wordsL, letterN (x.headD 0).toNat = true := by decide
  cases x with
  | nil => exact absurd rfl (h1 _ hx)
  | cons c r => exact ⟨c, r, rfl, h3 _ hx, h2 _ hx⟩

theorem sign_head : ∀ x ∈ signsL, ∃ c r, x = c :: r ∧ letterN c.toNat = false ∧ digitN c.toNat = false ∧ c.toNat ≠ 34 ∧ blankN c.toNat = false := by
  intro x hx
  have h1 : ∀ x ∈ signsL, x ≠ [] := by decide
  have h3 : ∀ x ∈ signsL, letterN (x.headD 0).toNat = false ∧ digitN (x.headD 0).toNat = false ∧ (x.headD 0).toNat ≠ 34 ∧ blankN (x.headD 0).toNat = false := by decide
  cases x with
  | nil => exact absurd rfl (h1 _ hx)
  | cons c r => exact ⟨c, r, rfl, h3 _ hx⟩

theorem tokT_letter {x : UInt8} {r : List UInt8} (h : letterN x.toNat = true) : tokT (x :: r) = nameR (x :: r) := by
  unfold tokT; simp only; rw [if_pos h]
theorem tokT_digit {x : UInt8} {r : List UInt8} (h : letterN x.toNat = false) (h2 : digitN x.toNat = true) : tokT (x :: r) = numT (x :: r) := by
  unfold tokT; simp only; rw [if_neg (by rw [h]; simp), if_pos h2]
theorem tokT_text {x : UInt8} {r : List UInt8} (h : letterN x.toNat = false) (h2 : digitN x.toNat = false) (h3 : x.toNat = 34) : tokT (x :: r) = textT (x :: r) := by
  unfold tokT; simp only; rw [if_neg (by rw [h]; simp), if_neg (by rw [h2]; simp), if_pos h3]
theorem tokT_sign {x : UInt8} {r : List UInt8} (h : letterN x.toNat = false) (h2 : digitN x.toNat = false) (h3 : x.toNat ≠ 34) : tokT (x :: r) = signT (x :: r) := by
  unfold tokT; simp only; rw [if_neg (by rw [h]; simp), if_neg (by rw [h2]; simp), if_neg h3]

theorem best_sign : ∀ x ∈ signsL, bestS x 25 = x := by decide +kernel

theorem tokT_minus (t : List UInt8) : (tokT (45 :: t)).e = 0 → (tokT (45 :: t)).k = 4 := by
  have h1 : tokT (45 :: t) = signT (45 :: t) := tokT_sign (by decide) (by decide) (by decide)
  rw [h1]
  unfold signT
  split
  · intro h; simp at h
  · intro _; rfl


theorem signT_in {x : List UInt8} (hx : x ∈ signsL) : tokT x = ⟨4, x, 0, x.length, 0⟩ := by
  obtain ⟨c, r, rfl, h1, h2, h3, -⟩ := sign_head x hx
  rw [tokT_sign h1 h2 h3]
  unfold signT
  rw [best_sign _ hx, if_neg (by simp)]

theorem wordR {x : List UInt8} (hx : isWord x = true) : tokT x = ⟨5, x, 0, x.length, 0⟩ := by
  obtain ⟨c, r, rfl, h1, h2⟩ := letter_word x (by unfold isWord at hx; exact List.contains_iff_mem.1 hx)
  rw [tokT_letter h1]
  unfold nameR
  rw [nameL_all h2, if_pos hx]

theorem nameQ_R {x : List UInt8} (hx : nameQ x = true) : tokT x = ⟨1, x, 0, x.length, 0⟩ := by
  cases x with
  | nil => simp [nameQ] at hx
  | cons c r =>
    unfold nameQ at hx
    simp only at hx
    rw [Bool.and_eq_true, Bool.and_eq_true, Bool.and_eq_true, decide_eq_true_eq] at hx
    obtain ⟨⟨⟨h1, h2⟩, h3⟩, h4⟩ := hx
    have h5 : (c :: r).all (fun c => nameN c.toNat) = true := by rw [List.all_cons, h2, Bool.and_true]; simp [nameN, h1]
    rw [tokT_letter h1]
    unfold nameR
    rw [nameL_all h5, if_neg (by intro e; rw [e] at h3; cases h3), if_neg (by omega)]

theorem notQ_digit {x : UInt8} {r : List UInt8} (h : letterN x.toNat = false) : nameQ (x :: r) = false ∧ isWord (x :: r) = false := by
  refine ⟨by unfold nameQ; simp only; rw [h]; rfl, ?_⟩
  rw [Bool.eq_false_iff]
  intro hw
  obtain ⟨c, r', he, h1, -⟩ := letter_word _ (by unfold isWord at hw; exact List.contains_iff_mem.1 hw)
  cases he
  rw [h] at h1; cases h1

/-- The document's answer. -/
def refT (k n : Int) (s : List UInt8) : List UInt8 × Nat :=
  if k = 0 ∧ s = [] ∧ n = 0 then ([], 0)
  else if (k = 1 ∧ nameQ s = true ∧ n = 0) ∨ (k = 4 ∧ s ∈ signsL ∧ n = 0) ∨ (k = 5 ∧ isWord s = true ∧ n = 0) then (s, 0)
  else if k = 2 ∧ s = [] ∧ 0 ≤ n then (Lib.decDigits n.toNat, 0)
  else if k = 3 ∧ plainQ s = true ∧ n = 0 then (quoteB s, 0)
  else ([], 2)

/-- What is neither a number nor a text. -/
theorem back_plain {k n : Int} {s : List UInt8} (h2 : k ≠ 2) (h3 : k ≠ 3) : backB k n s ↔ (k = 0 ∧ s = [] ∧ n = 0) ∨ (k = 1 ∧ nameQ s = true ∧ n = 0) ∨ (k = 4 ∧ s ∈ signsL ∧ n = 0) ∨ (k = 5 ∧ isWord s = true ∧ n = 0) := by
  have hw : wrB k n s = s := by unfold wrB; rw [if_neg h2, if_neg h3]
  unfold backB
  rw [hw]
  constructor
  · rintro ⟨he, hk, hs, hn⟩
    cases s with
    | nil => exact .inl ⟨hk.symm, rfl, hn.symm⟩
    | cons x r =>
      right
      cases h1 : letterN x.toNat with
      | true =>
        rw [tokT_letter h1] at he hk hs hn
        unfold nameR at he hk hs hn
        by_cases hq : isWord (nameL (x :: r)) = true
        · rw [if_pos hq] at he hk hs hn
          simp only at he hk hs hn
          rw [hs] at hq
          exact .inr (.inr ⟨hk.symm, hq, hn.symm⟩)
        · rw [if_neg hq] at he hk hs hn
          by_cases h20 : 20 < (nameL (x :: r)).length
          · rw [if_pos h20] at he; simp at he
          · rw [if_neg h20] at he hk hs hn
            simp only at he hk hs hn
            have hall := all_of_nameL hs
            rw [hs] at hq h20
            refine .inl ⟨hk.symm, ?_, hn.symm⟩
            unfold nameQ
            simp only
            rw [List.all_cons, Bool.and_eq_true] at hall
            rw [h1, hall.2, decide_eq_true (by omega)]
            simp [hq]
      | false =>
        cases h4 : digitN x.toNat with
        | true =>
          rw [tokT_digit h1 h4] at he hk hs hn
          unfold numT at he hk hs hn
          split at hs
          · simp at hs
          · simp at hs
        | false =>
          by_cases h34 : x.toNat = 34
          · rw [tokT_text h1 h4 h34] at he hk
            have := (textF_k' _ _ _ _ he)
            unfold textT at hk
            rw [this] at hk
            exact absurd hk.symm h3
          · rw [tokT_sign h1 h4 h34] at he hk hs hn
            unfold signT at he hk hs hn
            by_cases hb : bestS (x :: r) 25 = []
            · rw [if_pos hb] at he; simp at he
            · rw [if_neg hb] at hk hs hn
              simp only at hk hs hn
              rcases (best_all (x :: r)).2 with h9 | ⟨h9, -⟩
              · exact absurd h9 hb
              · rw [hs] at h9
                exact .inr (.inl ⟨hk.symm, h9, hn.symm⟩)
  · rintro (⟨rfl, rfl, rfl⟩ | ⟨rfl, h, rfl⟩ | ⟨rfl, h, rfl⟩ | ⟨rfl, h, rfl⟩)
    · exact ⟨rfl, rfl, rfl, rfl⟩
    · rw [nameQ_R h]; exact ⟨rfl, rfl, rfl, rfl⟩
    · rw [signT_in h]; exact ⟨rfl, rfl, rfl, rfl⟩
    · rw [wordR h]; exact ⟨rfl, rfl, rfl, rfl⟩

theorem back_num {n : Int} {s : List UInt8} (hn1 : n ≤ 9223372036854775807) : backB 2 n s ↔ s = [] ∧ 0 ≤ n := by
  unfold backB
  have hw : wrB 2 n s = Lib.itoa n := rfl
  rw [hw]
  unfold Lib.itoa
  by_cases h : n < 0
  · rw [if_pos h]
    constructor
    · rintro ⟨he, hk, -, -⟩
      have := tokT_minus _ he
      rw [this] at hk
      cases hk
    · rintro ⟨-, h9⟩; omega
  · rw [if_neg h]
    have ht := tokT_dec n.toNat (by omega) [] (fun x hx => by simp at hx)
    rw [List.append_nil] at ht
    rw [ht]
    constructor
    · rintro ⟨-, -, hs, -⟩; exact ⟨hs.symm, by omega⟩
    · rintro ⟨rfl, h9⟩
      refine ⟨rfl, rfl, rfl, ?_⟩
      show ((n.toNat : Nat) : Int) = n
      omega

theorem back_text {n : Int} {s : List UInt8} : backB 3 n s ↔ plainQ s = true ∧ n = 0 := by
  unfold backB
  have hw : wrB 3 n s = quoteB s := rfl
  rw [hw]
  cases hp : plainQ s with
  | false =>
    constructor
    · rintro ⟨he, -⟩; exact absurd he (tokT_quote_bad s hp)
    · rintro ⟨h, -⟩; cases h
  | true =>
    have ht := tokT_quote s [] hp
    rw [List.append_nil] at ht
    rw [ht]
    constructor
    · rintro ⟨-, -, -, hn⟩; exact ⟨rfl, hn.symm⟩
    · rintro ⟨-, rfl⟩; exact ⟨rfl, rfl, rfl, rfl⟩

theorem tkB_refT (k n : Int) (s : List UInt8) (hn1 : n ≤ 9223372036854775807) : tkB k n s = refT k n s := by
  unfold tkB refT
  by_cases h2 : k = 2
  · subst h2
    rw [if_neg (c := (2 : Int) = 0 ∧ _) (by omega), if_neg (c := ((2 : Int) = 1 ∧ _) ∨ _) (by omega)]
    by_cases hb : backB 2 n s
    · obtain ⟨h3, h4⟩ := (back_num hn1).1 hb
      rw [if_pos hb, if_pos ⟨rfl, h3, h4⟩]
      have : wrB 2 n s = Lib.itoa n := rfl
      rw [this]
      unfold Lib.itoa
      rw [if_neg (by omega)]
    · rw [if_neg hb, if_neg (fun h => hb ((back_num hn1).2 h.2)), if_neg (by omega)]
  · by_cases h3 : k = 3
    · subst h3
      rw [if_neg (c := (3 : Int) = 0 ∧ _) (by omega), if_neg (c := ((3 : Int) = 1 ∧ _) ∨ _) (by omega), if_neg (c := (3 : Int) = 2 ∧ _) (by omega)]
      by_cases hb : backB 3 n s
      · rw [if_pos hb, if_pos ⟨rfl, back_text.1 hb⟩]; rfl
      · rw [if_neg hb, if_neg (fun h => hb (back_text.2 h.2))]
    · have hw : wrB k n s = s := by unfold wrB; rw [if_neg h2, if_neg h3]
      rw [hw, if_neg (c := k = 2 ∧ _) (fun h => h2 h.1), if_neg (c := k = 3 ∧ _) (fun h => h3 h.1)]
      by_cases h0 : k = 0 ∧ s = [] ∧ n = 0
      · rw [if_pos h0, if_pos ((back_plain h2 h3).2 (.inl h0)), h0.2.1]
      · rw [if_neg h0]
        by_cases h1 : (k = 1 ∧ nameQ s = true ∧ n = 0) ∨ (k = 4 ∧ s ∈ signsL ∧ n = 0) ∨ (k = 5 ∧ isWord s = true ∧ n = 0)
        · rw [if_pos h1, if_pos ((back_plain h2 h3).2 (.inr h1))]
        · rw [if_neg h1, if_neg (fun hb => by rcases (back_plain h2 h3).1 hb with h | h; exact h0 h; exact h1 h)]
end Go.Proofs.YtjhfkiighphepaaDoor
