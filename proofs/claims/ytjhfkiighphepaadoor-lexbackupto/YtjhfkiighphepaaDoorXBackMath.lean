/- lex: the texts of tokens, a blank ahead of each, are read as these tokens. -/
import Derived.Test.YtjhfkiighphepaaDoorXTextMath2
namespace Go.Proofs.YtjhfkiighphepaaDoor
open Go.RowKit Go.Shelf

/-- A token as it came in: its kind, its number, its text. -/
structure TT where
  k : Int
  n : Int
  s : List UInt8

/-- It is written, and is not the end. -/
def okTT (t : TT) : Prop := backB t.k t.n t.s ∧ t.k ≠ 0 ∧ t.n ≤ 9223372036854775807
def catT (L : List TT) : List UInt8 := L.flatMap fun t => 32 :: wrB t.k t.n t.s

theorem pre_tail_c {c : UInt8} {x : List UInt8} (hx : c ∉ x) (r m : List UInt8) : Lib.hasPrefix (r ++ c :: m) x = Lib.hasPrefix r x := by
  unfold Lib.hasPrefix
  induction x generalizing r with
  | nil => simp
  | cons y x ih =>
    have hy : c ≠ y := fun e => hx (by rw [e]; exact List.mem_cons_self ..)
    have hx' : c ∉ x := fun h => hx (List.mem_cons_of_mem _ h)
    cases r with
    | nil =>
      show (y == c && x.isPrefixOf m) = false
      rw [beq_false_of_ne (Ne.symm hy)]
      rfl
    | cons z r =>
      have := ih hx' r
      simp only [List.cons_append, List.isPrefixOf] at this ⊢
      rw [this]

theorem best_tail (r m : List UInt8) : bestS (r ++ 32 :: m) 25 = bestS r 25 := by
  have key : ∀ (xs : List (List UInt8)) (b : List UInt8), (∀ x ∈ xs, (32 : UInt8) ∉ x) → xs.foldl (longer (r ++ 32 :: m)) b = xs.foldl (longer r) b := by
    intro xs
    induction xs with
    | nil => intro b _; rfl
    | cons x xs ih =>
      intro b h
      have h1 : longer (r ++ 32 :: m) b x = longer r b x := by
        unfold longer
        rw [pre_tail_c (h x (List.mem_cons_self ..)) r m]
      rw [List.foldl_cons, List.foldl_cons, h1, ih _ (fun y hy => h y (List.mem_cons_of_mem _ hy))]
  exact key _ _ (fun x hx => by
    have := List.mem_of_mem_take hx
    revert this x
    decide)

/-- What may stand behind. -/
def endM (m : List UInt8) : Prop := m = [] ∨ ∃ m', m = 32 :: m'

theorem nameL_end {x m : List UInt8} (hx : x.all (fun c => nameN c.toNat) = true) (hm : endM m) : nameL (x ++ m) = x := by
  unfold nameL
  rw [takeWhile_out m _ (by rw [takeWhile_every _ (fun c hc => List.all_eq_true.1 hx c hc)])]
  rcases hm with rfl | ⟨m', rfl⟩
  · simp
  · rw [List.takeWhile_cons_of_neg (by decide), List.append_nil]

theorem digit_not_letter {x : Nat} (hx : digitN x = true) : letterN x = false ∧ x ≠ 47 ∧ blankN x = false := by
  unfold digitN at hx
  rw [Bool.and_eq_true, decide_eq_true_eq, decide_eq_true_eq] at hx
  refine ⟨?_, by omega, ?_⟩
  · unfold letterN
    rw [Bool.or_eq_false_iff, Bool.or_eq_false_iff]
    refine ⟨⟨by rw [beq_eq_false_iff_ne]; omega, ?_⟩, ?_⟩ <;> (rw [Bool.and_eq_false_iff, decide_eq_false_iff_not, decide_eq_false_iff_not]; omega)
  · unfold blankN
    rw [Bool.or_eq_false_iff, Bool.or_eq_false_iff]
    exact ⟨⟨by rw [beq_eq_false_iff_ne]; omega, by rw [beq_eq_false_iff_ne]; omega⟩, by rw [beq_eq_false_iff_ne]; omega⟩

theorem letter_not {x : Nat} (hx : letterN x = true) : x ≠ 47 ∧ blankN x = false := by
  unfold letterN at hx
  rw [Bool.or_eq_true, Bool.or_eq_true, beq_iff_eq, Bool.and_eq_true, Bool.and_eq_true, decide_eq_true_eq, decide_eq_true_eq, decide_eq_true_eq, decide_eq_true_eq] at hx
  refine ⟨by omega, ?_⟩
  unfold blankN
  rw [Bool.or_eq_false_iff, Bool.or_eq_false_iff]
  exact ⟨⟨by rw [beq_eq_false_iff_ne]; omega, by rw [beq_eq_false_iff_ne]; omega⟩, by rw [beq_eq_false_iff_ne]; omega⟩

theorem gap_of {c : UInt8} {t : List UInt8} (hb : blankN c.toNat = false) (h47 : c.toNat ≠ 47) : gapN (c :: t) = 0 := by
  refine gapN_tok hb ?_
  rw [remB_cons, decide_eq_false h47]
  rfl

/-- A token that is written is read, whatever token stands behind it. -/
theorem tok_written {t : TT} (h : okTT t) (m : List UInt8) (hm : endM m) :
    tokT (wrB t.k t.n t.s ++ m) = ⟨t.k.toNat, t.s, t.n.toNat, (wrB t.k t.n t.s).length, 0⟩ ∧ gapN (wrB t.k t.n t.s ++ m) = 0 ∧ 1 ≤ (wrB t.k t.n t.s).length ∧ 0 ≤ t.k ∧ 0 ≤ t.n := by
  obtain ⟨k, n, s⟩ := t
  obtain ⟨hb, hk, hn⟩ := h
  simp only at hb hk hn ⊢
  by_cases h2 : k = 2
  · subst h2
    obtain ⟨rfl, hn0⟩ := (back_num hn).1 hb
    have hw : wrB 2 n [] = Lib.decDigits n.toNat := by
      show Lib.itoa n = _
      unfold Lib.itoa
      rw [if_neg (by omega)]
    rw [hw]
    refine ⟨tokT_dec n.toNat (by omega) m (fun x hx => ?_), ?_, ?_, by decide, hn0⟩
    · rcases hm with rfl | ⟨m', rfl⟩
      · simp at hx
      · simp at hx; rw [← hx]; decide
    · cases hd : Lib.decDigits n.toNat with
      | nil => exact absurd hd (dec_ne _)
      | cons c r =>
        have hc := digit_not_letter (dec_all n.toNat c (by rw [hd]; exact List.mem_cons_self ..))
        rw [List.cons_append]
        exact gap_of hc.2.2 hc.2.1
    · rw [Lib.decDigits_length]; exact Lib.nDigits_pos _
  · by_cases h3 : k = 3
    · subst h3
      obtain ⟨hp, rfl⟩ := back_text.1 hb
      have hw : wrB 3 0 s = quoteB s := rfl
      rw [hw]
      refine ⟨tokT_quote s m hp, ?_, by unfold quoteB; simp, by decide, by decide⟩
      unfold quoteB
      rw [List.cons_append]
      exact gap_of (by decide) (by decide)
    · have hw : wrB k n s = s := by unfold wrB; rw [if_neg h2, if_neg h3]
      rw [hw]
      rcases (back_plain h2 h3).1 hb with ⟨h0, -⟩ | ⟨rfl, hq, rfl⟩ | ⟨rfl, hq, rfl⟩ | ⟨rfl, hq, rfl⟩
      · exact absurd h0 hk
      · cases s with
        | nil => simp [nameQ] at hq
        | cons c r =>
          unfold nameQ at hq
          simp only at hq
          rw [Bool.and_eq_true, Bool.and_eq_true, Bool.and_eq_true, decide_eq_true_eq] at hq
          obtain ⟨⟨⟨g1, g2⟩, g3⟩, g4⟩ := hq
          have g5 : (c :: r).all (fun c => nameN c.toNat) = true := by rw [List.all_cons, g2, Bool.and_true]; simp [nameN, g1]
          have hc := letter_not g1
          have hnl := nameL_end g5 hm
          refine ⟨?_, by rw [List.cons_append]; exact gap_of hc.2 hc.1, by simp, by decide, by decide⟩
          rw [List.cons_append] at hnl ⊢
          rw [tokT_letter g1]
          unfold nameR
          rw [hnl, if_neg (by intro e; rw [e] at g3; cases g3), if_neg (by omega)]
          rfl
      · obtain ⟨c, r, hcr, g1, g2, g3, g4⟩ := sign_head s hq
        have hbs : bestS (s ++ m) 25 = s := by
          rcases hm with rfl | ⟨m', rfl⟩
          · rw [List.append_nil]; exact best_sign s hq
          · rw [best_tail]; exact best_sign s hq
        have hrm : remB (s ++ m) = false := by
          have hall : ∀ x ∈ signsL, remB x = false := by decide
          rcases hm with rfl | ⟨m', rfl⟩
          · rw [List.append_nil]; exact hall s hq
          · unfold remB
            rw [pre_tail_c (by decide)]
            exact hall s hq
        rw [hcr] at hbs hrm ⊢
        refine ⟨?_, by rw [List.cons_append] at hrm ⊢; exact gapN_tok g4 hrm, by simp, by decide, by decide⟩
        rw [List.cons_append] at hbs ⊢
        rw [tokT_sign g1 g2 g3]
        unfold signT
        rw [hbs, if_neg (by simp)]
        rfl
      · obtain ⟨c, r, hcr, g1, g2⟩ := letter_word s (by unfold isWord at hq; exact List.contains_iff_mem.1 hq)
        subst hcr
        have hc := letter_not g1
        have hnl := nameL_end g2 hm
        refine ⟨?_, by rw [List.cons_append]; exact gap_of hc.2 hc.1, by simp, by decide, by decide⟩
        rw [List.cons_append] at hnl ⊢
        rw [tokT_letter g1]
        unfold nameR
        rw [hnl, if_pos hq]
        rfl

def sameT (t : Tk) (u : TT) : Prop := (t.k : Int) = u.k ∧ t.s = u.s ∧ (t.n : Int) = u.n ∧ t.line = 1

theorem catT_end (L : List TT) : endM (catT L) := by
  cases L with
  | nil => exact .inl rfl
  | cons t L => exact .inr ⟨wrB t.k t.n t.s ++ catT L, rfl⟩

theorem scan_cat : ∀ (L : List TT), (∀ t ∈ L, okTT t) → ∀ (p : List UInt8) (f : Nat), (p ++ catT L).length < p.length + f →
    ∃ ts e, scanS (p ++ catT L) f 1 p.length = (ts ++ [e], 0, 0) ∧ ts.length = L.length ∧ ∀ i (h1 : i < ts.length) (h2 : i < L.length), sameT ts[i] L[i]
  | [], _, p, f, hf => by
    obtain ⟨f, rfl⟩ : ∃ g, f = g + 1 := ⟨f - 1, by simp [catT] at hf; omega⟩
    have e : p ++ catT [] = p := by simp [catT]
    rw [e]
    have h := scanS_out p f 1 []
    rw [joinS_nil] at h
    exact ⟨[], _, h, rfl, fun i h1 => by cases h1⟩
  | t :: L, hL, p, f, hf => by
    obtain ⟨w1, w2, w3, w4, w5⟩ := tok_written (hL t (List.mem_cons_self ..)) (catT L) (catT_end L)
    obtain ⟨x, hx⟩ : ∃ x, x = wrB t.k t.n t.s := ⟨_, rfl⟩
    rw [← hx] at w1 w2 w3
    have hc : catT (t :: L) = 32 :: (x ++ catT L) := by rw [hx]; rfl
    obtain ⟨l, hl⟩ : ∃ l, l = p ++ catT (t :: L) := ⟨_, rfl⟩
    rw [← hl] at hf ⊢
    have hl2 : l = (p ++ 32 :: x) ++ catT L := by rw [hl, hc]; simp
    have hlen : l.length = p.length + (1 + (x.length + (catT L).length)) := by rw [hl, hc]; simp; omega
    have hlt : p.length < l.length := by omega
    have hch : l[p.length] = 32 := by
      have : l[p.length]? = some 32 := by rw [hl, hc, List.getElem?_append_right (Nat.le_refl _)]; simp
      rw [List.getElem?_eq_getElem hlt] at this
      exact Option.some.inj this
    have hd : l.drop (p.length + 1) = x ++ catT L := by
      rw [hl, hc, List.drop_append, List.drop_of_length_le (by omega), List.nil_append, Nat.add_sub_cancel_left]
      rfl
    have hb := scanS_blank f 1 hlt (by rw [hch]; decide)
    rw [if_neg (by rw [hch]; decide)] at hb
    obtain ⟨f, rfl⟩ : ∃ g, f = g + 1 := ⟨f - 1, by omega⟩
    have hk := (scanS_tok f 1 [] (l := l) (a := p.length + 1) (by rw [hd]; exact w2) (by omega)).2
    rw [hd, w1, joinS_nil] at hk
    obtain ⟨k1, -, -⟩ := hk rfl
    simp only at k1
    have ih := scan_cat L (fun u hu => hL u (List.mem_cons_of_mem _ hu)) (p ++ 32 :: x) f (by rw [← hl2, hlen]; simp; omega)
    rw [← hl2] at ih
    obtain ⟨ts, e, i1, i2, i3⟩ := ih
    have hp2 : (p ++ 32 :: x).length = p.length + 1 + x.length := by simp; omega
    rw [hp2] at i1
    rw [hb, k1, i1]
    refine ⟨⟨t.k.toNat, t.s, t.n.toNat, 1, p.length + 1⟩ :: ts, e, rfl, by simp [i2], fun i h1 h2 => ?_⟩
    cases i with
    | zero => exact ⟨by show ((t.k.toNat : Nat) : Int) = t.k; omega, rfl, by show ((t.n.toNat : Nat) : Int) = t.n; omega, rfl⟩
    | succ i => exact i3 i (by simpa using h1) (by simpa using h2)

theorem scanB_cat (L : List TT) (hL : ∀ t ∈ L, okTT t) (h : (catT L).length ≤ 4096) : ∃ ts e, scanB (catT L) = (ts ++ [e], 0, 0) ∧ ts.length = L.length ∧ ∀ i (h1 : i < ts.length) (h2 : i < L.length), sameT ts[i] L[i] := by
  have := scan_cat L hL [] ((catT L).length + 1) (by simp)
  unfold scanB
  rw [if_neg (by omega)]
  exact this

theorem catT_snoc (L : List TT) (t : TT) : catT (L ++ [t]) = catT L ++ (32 :: wrB t.k t.n t.s) := by
  unfold catT
  rw [List.flatMap_append]
  simp
end Go.Proofs.YtjhfkiighphepaaDoor
