import Derived.Test.YtbdgniiafdjmiaaGreatDoorMX
import Derived.Deep.RegionHeld3
import Derived.Deep.RegionWith
/- lex: line ends ahead, a remark behind. -/
namespace Go.Proofs.YtbdgniiafdjmiaaGreatDoor
open Go.RowKit

theorem takeWhile_tail {p : UInt8 → Bool} {x : UInt8} (hx : p x = false) (m : List UInt8) : ∀ r : List UInt8, (r ++ x :: m).takeWhile p = r.takeWhile p
  | [] => by simp [hx]
  | y :: r => by
    rw [List.cons_append]
    by_cases h : p y = true
    · rw [List.takeWhile_cons_of_pos h, List.takeWhile_cons_of_pos h, takeWhile_tail hx m r]
    · rw [List.takeWhile_cons_of_neg h, List.takeWhile_cons_of_neg h]

theorem nameR_tail (r m : List UInt8) : nameR (r ++ 10 :: m) = nameR r := by
  have : nameL (r ++ 10 :: m) = nameL r := takeWhile_tail (by decide) m r
  unfold nameR
  rw [this]

theorem numT_tail (r m : List UInt8) : numT (r ++ 10 :: m) = numT r := by
  have : digL (r ++ 10 :: m) = digL r := takeWhile_tail (by decide) m r
  unfold numT
  rw [this]

theorem pre_tail {x : List UInt8} (hx : (10 : UInt8) ∉ x) (r m : List UInt8) : Lib.hasPrefix (r ++ 10 :: m) x = Lib.hasPrefix r x := by
  unfold Lib.hasPrefix
  induction x generalizing r with
  | nil => simp
  | cons y x ih =>
    have hy : (10 : UInt8) ≠ y := fun e => hx (by rw [e]; exact List.mem_cons_self ..)
    have hx' : (10 : UInt8) ∉ x := fun h => hx (List.mem_cons_of_mem _ h)
    cases r with
    | nil =>
      show (y == (10 : UInt8) && x.isPrefixOf m) = false
      rw [beq_false_of_ne (Ne.symm hy)]
      rfl
    | cons z r =>
      have := ih hx' r
      simp only [List.cons_append, List.isPrefixOf] at this ⊢
      rw [this]

theorem signT_tail (r m : List UInt8) : signT (r ++ 10 :: m) = signT r := by
  have key : ∀ (xs : List (List UInt8)) (b : List UInt8), (∀ x ∈ xs, (10 : UInt8) ∉ x) → xs.foldl (longer (r ++ 10 :: m)) b = xs.foldl (longer r) b := by
    intro xs
    induction xs with
    | nil => intro b _; rfl
    | cons x xs ih =>
      intro b h
      have h1 : longer (r ++ 10 :: m) b x = longer r b x := by
        unfold longer
        rw [pre_tail (h x (List.mem_cons_self ..)) r m]
      rw [List.foldl_cons, List.foldl_cons, h1, ih _ (fun y hy => h y (List.mem_cons_of_mem _ hy))]
  have : bestS (r ++ 10 :: m) 25 = bestS r 25 := key _ _ (fun x hx => by
    have := List.mem_of_mem_take hx
    revert this x
    decide)
  unfold signT
  rw [this]

theorem tbR_tail (x : UInt8) (r m : List UInt8) : tbR (x :: r ++ 10 :: m) = tbR (x :: r) := by
  rw [List.cons_append]
  by_cases h : x.toNat < 32 ∨ 126 < x.toNat
  · rw [tbR_bad h, tbR_bad h]
  · by_cases h2 : x.toNat = 92
    · cases r with
      | nil =>
        rw [tbR_end h h2, List.nil_append, tbR_two h h2]
        decide
      | cons y r => rw [List.cons_append, tbR_two h h2, tbR_two h h2]
    · rw [tbR_one h h2, tbR_one h h2]

theorem textF_tail (m : List UInt8) : ∀ (f f' : Nat) (meant : List UInt8) (at0 : Nat) (r : List UInt8), r.length ≤ f → r.length ≤ f' → textF f' meant at0 (r ++ 10 :: m) = textF f meant at0 r
  | f, f', meant, at0, [], _, _ => by
    have h1 : textF f meant at0 [] = ⟨0, [], 0, 0, 6⟩ := by cases f <;> rfl
    rw [h1, List.nil_append]
    cases f' with
    | zero => rfl
    | succ f' =>
      unfold textF
      rw [if_neg (by decide), tbR_bad (.inl (by decide)), if_pos rfl]
  | 0, _, _, _, _ :: _, h, _ => by simp at h
  | _ + 1, 0, _, _, _ :: _, _, h => by simp at h
  | f + 1, f' + 1, meant, at0, x :: r, h, h' => by
    have ht := tbR_tail x r m
    have hle := (tbR_le (x :: r)).1
    rw [List.cons_append] at ht ⊢
    unfold textF
    rw [ht]
    by_cases c1 : x.toNat = 34
    · rw [if_pos c1, if_pos c1]
    · rw [if_neg c1, if_neg c1]
      by_cases c2 : (tbR (x :: r)).2 = 0
      · rw [if_pos c2, if_pos c2]
      · rw [if_neg c2, if_neg c2]
        by_cases c3 : meant.length = 255
        · rw [if_pos c3, if_pos c3]
        · rw [if_neg c3, if_neg c3, ← List.cons_append, List.drop_append_of_le_length hle]
          rw [List.length_cons] at h h'
          exact textF_tail m f f' _ _ _ (by rw [List.length_drop, List.length_cons]; omega) (by rw [List.length_drop, List.length_cons]; omega)

/-- A line's end behind it changes no token. -/
theorem tokT_tail {r : List UInt8} (hr : r ≠ []) (m : List UInt8) : tokT (r ++ 10 :: m) = tokT r := by
  cases r with
  | nil => exact absurd rfl hr
  | cons x r =>
    have h1 := nameR_tail (x :: r) m
    have h2 := numT_tail (x :: r) m
    have h3 := signT_tail (x :: r) m
    have h4 : textT (x :: r ++ 10 :: m) = textT (x :: r) := by
      unfold textT
      exact textF_tail m _ _ _ _ r (by simp) (by simp; omega)
    rw [List.cons_append] at h1 h2 h3 h4 ⊢
    unfold tokT
    simp only
    rw [h1, h2, h3, h4]
end Go.Proofs.YtbdgniiafdjmiaaGreatDoor
/- lex: what Scan answers with line ends ahead and a remark behind. -/
namespace Go.Proofs.YtbdgniiafdjmiaaGreatDoor
open Go.RowKit

theorem takeWhile_in {p : UInt8 → Bool} (z : List UInt8) : ∀ r : List UInt8, (r.takeWhile p).length < r.length → (r ++ z).takeWhile p = r.takeWhile p
  | [], h => by simp at h
  | y :: r, h => by
    rw [List.cons_append]
    by_cases hy : p y = true
    · rw [List.takeWhile_cons_of_pos hy] at h ⊢
      rw [List.takeWhile_cons_of_pos hy, takeWhile_in z r (by simpa using h)]
    · rw [List.takeWhile_cons_of_neg hy, List.takeWhile_cons_of_neg hy]

theorem takeWhile_out {p : UInt8 → Bool} (z : List UInt8) : ∀ r : List UInt8, (r.takeWhile p).length = r.length → (r ++ z).takeWhile p = r ++ z.takeWhile p
  | [], _ => rfl
  | y :: r, h => by
    rw [List.cons_append]
    by_cases hy : p y = true
    · rw [List.takeWhile_cons_of_pos hy] at h ⊢
      rw [takeWhile_out z r (by simpa using h)]; rfl
    · rw [List.takeWhile_cons_of_neg hy] at h; simp at h

theorem takeWhile_every {p : UInt8 → Bool} : ∀ r : List UInt8, (∀ x ∈ r, p x = true) → r.takeWhile p = r
  | [], _ => rfl
  | y :: r, h => by rw [List.takeWhile_cons_of_pos (h y (List.mem_cons_self ..)), takeWhile_every r (fun x hx => h x (List.mem_cons_of_mem _ hx))]

theorem gapN_nil : gapN [] = 0 := by
  rw [gapN_eq]
  rfl

theorem remB_tail (r m : List UInt8) : remB (r ++ 10 :: m) = remB r := pre_tail (by decide) r m

/-- A remark on a line of its own behind: what stands ahead of the next token. -/
theorem gapN_tail {more : List UInt8} (hm : (10 : UInt8) ∉ more) : ∀ (k : Nat) (r : List UInt8), r.length ≤ k →
    gapN (r ++ 10 :: 47 :: 47 :: more) = if gapN r < r.length then gapN r else r.length + (3 + more.length)
  | k, r, hk => by
    have hle := rowN_le blankN r
    by_cases hb : rowN blankN r < r.length
    · have e1 : rowN blankN (r ++ 10 :: 47 :: 47 :: more) = rowN blankN r := by
        unfold rowN at hb ⊢
        rw [takeWhile_in _ _ hb]
      obtain ⟨r1, hr1⟩ : ∃ r1, r1 = r.drop (rowN blankN r) := ⟨_, rfl⟩
      have e2 : (r ++ 10 :: 47 :: 47 :: more).drop (rowN blankN r) = r1 ++ 10 :: 47 :: 47 :: more := by
        rw [hr1, List.drop_append_of_le_length hle]
      have l1 : r1.length = r.length - rowN blankN r := by rw [hr1, List.length_drop]
      rw [gapN_eq, gapN_eq r, e1, e2, ← hr1]
      unfold remN
      rw [remB_tail]
      by_cases hr : remB r1 = true
      · rw [if_pos hr, if_pos hr]
        have e3 : rowN noEndN (r1 ++ 10 :: 47 :: 47 :: more) = rowN noEndN r1 := by
          unfold rowN
          rw [takeWhile_tail (by decide)]
        have h2 := remB_row hr
        have h3 := rowN_le noEndN r1
        rw [e3, List.drop_append_of_le_length h3]
        obtain ⟨r2, hr2⟩ : ∃ r2, r2 = r1.drop (rowN noEndN r1) := ⟨_, rfl⟩
        have l2 : r2.length = r1.length - rowN noEndN r1 := by rw [hr2, List.length_drop]
        rw [← hr2]
        obtain ⟨k, rfl⟩ : ∃ k', k = k' + 1 := ⟨k - 1, by omega⟩
        rw [gapN_tail hm k r2 (by omega)]
        by_cases hg : gapN r2 < r2.length
        · rw [if_pos hg, if_pos (by omega)]
        · have := gapN_le _ r2 (Nat.le_refl _)
          rw [if_neg hg, if_neg (by omega)]
          omega
      · rw [if_neg hr, if_neg hr, if_pos (by omega)]
    · have e0 : rowN blankN r = r.length := by omega
      have e1 : rowN blankN (r ++ 10 :: 47 :: 47 :: more) = r.length + 1 := by
        unfold rowN at e0 ⊢
        rw [takeWhile_out _ _ e0, List.length_append, List.takeWhile_cons_of_pos (by decide), List.takeWhile_cons_of_neg (by decide)]
        rfl
      have e2 : (r ++ 10 :: 47 :: 47 :: more).drop (r.length + 1) = 47 :: 47 :: more := by
        rw [List.drop_append, List.drop_of_length_le (by omega)]
        simp
      have e3 : rowN noEndN (47 :: 47 :: more) = 2 + more.length := by
        unfold rowN
        rw [List.takeWhile_cons_of_pos (by decide), List.takeWhile_cons_of_pos (by decide), takeWhile_every more (fun x hx => by
          have : x ≠ 10 := fun e => hm (e ▸ hx)
          have h9 : x.toNat ≠ 10 := fun e => this (UInt8.toNat_inj.1 e)
          simp [noEndN, h9])]
        simp; omega
      have e4 : gapN r = r.length := by
        rw [gapN_eq, e0, List.drop_of_length_le (Nat.le_refl _)]
        rfl
      rw [gapN_eq, e1, e2, e4, if_neg (by omega)]
      unfold remN
      rw [if_pos (by rfl), e3, List.drop_of_length_le (by simp; omega), gapN_nil]
      omega

theorem rowN_ends (n : Nat) (r : List UInt8) : rowN blankN (List.replicate n 10 ++ r) = n + rowN blankN r := by
  unfold rowN
  rw [takeWhile_out _ _ (by rw [takeWhile_every _ (fun x hx => by rw [(List.mem_replicate.1 hx).2]; decide)]), List.length_append, List.length_replicate]

theorem gapN_ends (n : Nat) (r : List UInt8) : gapN (List.replicate n 10 ++ r) = n + gapN r := by
  rw [gapN_eq, gapN_eq r, rowN_ends, List.drop_append, List.drop_of_length_le (by simp), List.nil_append, List.length_replicate, Nat.add_sub_cancel_left, Nat.add_assoc]
end Go.Proofs.YtbdgniiafdjmiaaGreatDoor
/- lex: Scan with line ends ahead and a remark behind: the same tokens, further on. -/
namespace Go.Proofs.YtbdgniiafdjmiaaGreatDoor
open Go.RowKit

def shiftT (n : Nat) (t : Tk) : Tk := ⟨t.k, t.s, t.n, t.line + n, t.at0 + n⟩
/-- Line ends ahead, a remark behind. -/
def longL (n : Nat) (s more : List UInt8) : List UInt8 := List.replicate n 10 ++ (s ++ 10 :: 47 :: 47 :: more)

theorem longL_len (n : Nat) (s more : List UInt8) : (longL n s more).length = n + (s.length + (3 + more.length)) := by
  unfold longL
  simp
  omega

theorem longL_drop (n : Nat) (s more : List UInt8) {a : Nat} (ha : a ≤ s.length) : (longL n s more).drop (a + n) = s.drop a ++ 10 :: 47 :: 47 :: more := by
  unfold longL
  rw [List.drop_append, List.drop_of_length_le (by simp), List.nil_append, List.length_replicate, Nat.add_sub_cancel, List.drop_append_of_le_length ha]

theorem count_take_tail (r z : List UInt8) {k : Nat} (h : k ≤ r.length) : (r ++ z).take k = r.take k := by
  rw [List.take_append_of_le_length h]

/-- Where a token is left. -/
theorem long_in {n : Nat} {s more : List UInt8} (hm : (10 : UInt8) ∉ more) {line a : Nat} (ha : a ≤ s.length) (hg : gapN (s.drop a) < (s.drop a).length) :
    nextT (longL n s more) (a + n) = nextT s a ∧ placeT (longL n s more) (a + n) = placeT s a + n ∧ lineT (longL n s more) (line + n) (a + n) = lineT s line a + n := by
  have hd := longL_drop n s more ha
  have hgap := gapN_tail hm _ (s.drop a) (Nat.le_refl _)
  rw [if_pos hg] at hgap
  have hl : (s.drop a).length = s.length - a := List.length_drop
  refine ⟨?_, ?_, ?_⟩
  · unfold nextT
    rw [hd, hgap, show a + n + gapN (s.drop a) = (a + gapN (s.drop a)) + n by omega, longL_drop n s more (by omega)]
    refine tokT_tail (fun e => ?_) _
    have := congrArg List.length e
    rw [List.length_drop, List.length_nil] at this
    omega
  · unfold placeT
    rw [hd, hgap]
    omega
  · unfold lineT
    rw [hd, hgap, count_take_tail _ _ (by omega)]
    omega

/-- Where none is left. -/
theorem long_out {n : Nat} {s more : List UInt8} (hm : (10 : UInt8) ∉ more) {a : Nat} (ha : a ≤ s.length) (hg : gapN (s.drop a) = (s.drop a).length) :
    nextT (longL n s more) (a + n) = ⟨0, [], 0, 0, 0⟩ ∧ nextT s a = ⟨0, [], 0, 0, 0⟩ := by
  have hd := longL_drop n s more ha
  have hgap := gapN_tail hm _ (s.drop a) (Nat.le_refl _)
  rw [if_neg (by omega)] at hgap
  have hl : (s.drop a).length = s.length - a := List.length_drop
  constructor
  · unfold nextT
    rw [hd, hgap, List.drop_of_length_le (by rw [longL_len]; omega)]
    rfl
  · unfold nextT
    rw [hg, List.drop_of_length_le (by omega)]
    rfl

theorem scan_long {n : Nat} {s more : List UInt8} (hm : (10 : UInt8) ∉ more) : ∀ (f f' line a : Nat), a ≤ s.length → s.length < a + f → f ≤ f' →
    ((scanS s f line a).2.2 ≠ 0 → (scanS (longL n s more) f' (line + n) (a + n)).2.2 = (scanS s f line a).2.2 ∧ (scanS (longL n s more) f' (line + n) (a + n)).2.1 = (scanS s f line a).2.1 + n) ∧
    ((scanS s f line a).2.2 = 0 → (scanS (longL n s more) f' (line + n) (a + n)).2.2 = 0 ∧ ∃ ts t t', (scanS s f line a).1 = ts ++ [t] ∧ (scanS (longL n s more) f' (line + n) (a + n)).1 = ts.map (shiftT n) ++ [t'])
  | 0, _, _, _, h1, h2, _ => by omega
  | _ + 1, 0, _, _, _, _, h => by omega
  | f + 1, f' + 1, line, a, ha, hf, hff => by
    have hgl := gapN_le _ (s.drop a) (Nat.le_refl _)
    by_cases hg : gapN (s.drop a) < (s.drop a).length
    · obtain ⟨e1, e2, e3⟩ := long_in (n := n) hm (line := line) ha hg
      have e4 : tkT (longL n s more) (line + n) (a + n) = shiftT n (tkT s line a) := by
        unfold tkT shiftT
        rw [e1, e2, e3]
      by_cases he : (nextT s a).e ≠ 0
      · unfold scanS
        rw [e1, if_pos he, if_pos he, e2]
        exact ⟨fun _ => ⟨rfl, rfl⟩, fun h => absurd h he⟩
      · have he0 : (nextT s a).e = 0 := by omega
        have hk : (nextT s a).k ≠ 0 := fun hk => by
          have h9 := (tokT_sz (s.drop (a + gapN (s.drop a))) he0).2.2 hk
          have := congrArg List.length h9
          rw [List.length_drop, List.length_nil] at this
          rw [List.length_drop] at hg
          omega
        have hmv := nextT_move ha he0 hk
        have ih := scan_long (n := n) hm f f' (lineT s line a) (placeT s a + (nextT s a).sz) hmv.2 (by omega) (by omega)
        rw [scanS, scanS, e1, if_neg he, if_neg he, if_neg hk, if_neg hk, e2, e3, e4, show placeT s a + n + (nextT s a).sz = placeT s a + (nextT s a).sz + n by omega]
        generalize scanS s f (lineT s line a) (placeT s a + (nextT s a).sz) = A at ih ⊢
        generalize scanS (longL n s more) f' (lineT s line a + n) (placeT s a + (nextT s a).sz + n) = B at ih ⊢
        by_cases hA : A.2.2 ≠ 0
        · obtain ⟨i1, i2⟩ := ih.1 hA
          rw [if_pos hA, if_pos (by rw [i1]; exact hA)]
          exact ⟨fun _ => ⟨i1, i2⟩, fun h => absurd h hA⟩
        · have hA0 : A.2.2 = 0 := by omega
          obtain ⟨i1, ts, t, t', i2, i3⟩ := ih.2 hA0
          rw [if_neg hA, if_neg (by omega)]
          exact ⟨fun h => absurd rfl h, fun _ => ⟨rfl, tkT s line a :: ts, t, t', by rw [i2]; rfl, by rw [i3]; rfl⟩⟩
    · obtain ⟨e1, e2⟩ := long_out (n := n) hm ha (by omega)
      rw [scanS, scanS, e1, e2]
      rw [if_neg (by simp), if_pos rfl, if_neg (by simp), if_pos rfl]
      exact ⟨fun h => absurd rfl h, fun _ => ⟨rfl, [], _, _, rfl, rfl⟩⟩

/-- From the first byte on. -/
theorem scan_ends (n : Nat) (s more : List UInt8) (f : Nat) : scanS (longL n s more) f 1 0 = scanS (longL n s more) f (1 + n) n := by
  have hd : (longL n s more).drop n = s ++ 10 :: 47 :: 47 :: more := by
    have := longL_drop n s more (Nat.zero_le _)
    rw [Nat.zero_add] at this
    exact this
  have hg : gapN (longL n s more) = n + gapN (s ++ 10 :: 47 :: 47 :: more) := gapN_ends n _
  have hgl := gapN_le _ (s ++ 10 :: 47 :: 47 :: more) (Nat.le_refl _)
  have e1 : nextT (longL n s more) 0 = nextT (longL n s more) n := by
    unfold nextT
    rw [List.drop_zero, hd, hg, Nat.zero_add]
  have e2 : placeT (longL n s more) 0 = placeT (longL n s more) n := by
    unfold placeT
    rw [List.drop_zero, hd, hg, Nat.zero_add]
  have e3 : lineT (longL n s more) 1 0 = lineT (longL n s more) (1 + n) n := by
    unfold lineT
    rw [List.drop_zero, hd, hg]
    unfold longL
    rw [List.take_append, List.take_of_length_le (by simp), List.length_replicate, Nat.add_sub_cancel_left]
    unfold Lib.countByte
    rw [List.count_append, List.count_replicate_self]
    omega
  have e4 : tkT (longL n s more) 1 0 = tkT (longL n s more) (1 + n) n := by
    unfold tkT
    rw [e1, e2, e3]
  cases f with
  | zero => rfl
  | succ f =>
    rw [scanS, scanS, e1, e2, e3, e4]

theorem scanB_long {n : Nat} {s more : List UInt8} (hm : (10 : UInt8) ∉ more) (hs : s.length ≤ 3000) (hl : more.length ≤ 500) (hn : n ≤ 100) :
    ((scanB s).2.2 ≠ 0 → (scanB (longL n s more)).2.2 = (scanB s).2.2 ∧ (scanB (longL n s more)).2.1 = (scanB s).2.1 + n) ∧
    ((scanB s).2.2 = 0 → (scanB (longL n s more)).2.2 = 0 ∧ ∃ ts t t', (scanB s).1 = ts ++ [t] ∧ (scanB (longL n s more)).1 = ts.map (shiftT n) ++ [t']) := by
  unfold scanB
  rw [if_neg (by omega), if_neg (by rw [longL_len]; omega), scan_ends]
  have := scan_long (n := n) (s := s) hm (s.length + 1) ((longL n s more).length + 1) 1 0 (Nat.zero_le _) (by omega) (by rw [longL_len]; omega)
  rw [Nat.zero_add] at this
  exact this

theorem lineT_le {l : List UInt8} {line a : Nat} (hl : line ≤ a + 1) : lineT l line a ≤ placeT l a + 1 := by
  unfold lineT placeT
  have := count_le ((l.drop a).take (gapN (l.drop a))) 10
  have h2 : ((l.drop a).take (gapN (l.drop a))).length ≤ gapN (l.drop a) := List.length_take_le ..
  omega

theorem scanS_bound (l : List UInt8) : ∀ (f line a : Nat), a ≤ l.length → line ≤ a + 1 → (scanS l f line a).2.1 ≤ l.length ∧ ∀ t ∈ (scanS l f line a).1, t.line ≤ l.length + 1 ∧ t.at0 ≤ l.length
  | 0, _, _, _, _ => ⟨Nat.zero_le _, fun t h => by cases h⟩
  | f + 1, line, a, ha, hl => by
    have hp := placeT_le ha
    have hc := lineT_le (l := l) hl
    have htk : (tkT l line a).line ≤ l.length + 1 ∧ (tkT l line a).at0 ≤ l.length := by
      show lineT l line a ≤ l.length + 1 ∧ placeT l a ≤ l.length
      omega
    rw [scanS]
    by_cases he : (nextT l a).e ≠ 0
    · rw [if_pos he]; exact ⟨hp, fun t h => by cases h⟩
    · rw [if_neg he]
      have he0 : (nextT l a).e = 0 := by omega
      by_cases hk : (nextT l a).k = 0
      · rw [if_pos hk]; exact ⟨Nat.zero_le _, fun t h => by rw [List.mem_singleton] at h; rw [h]; exact htk⟩
      · rw [if_neg hk]
        have hm := nextT_move ha he0 hk
        have hz := (tokT_sz (l.drop (a + gapN (l.drop a))) he0).2.1 hk
        have ih := scanS_bound l f (lineT l line a) (placeT l a + (nextT l a).sz) hm.2 (by omega)
        generalize scanS l f (lineT l line a) (placeT l a + (nextT l a).sz) = A at ih ⊢
        by_cases hA : A.2.2 ≠ 0
        · rw [if_pos hA]; exact ⟨ih.1, fun t h => by cases h⟩
        · rw [if_neg hA]
          refine ⟨Nat.zero_le _, fun t h => ?_⟩
          rcases List.mem_cons.1 h with h | h
          · rw [h]; exact htk
          · exact ih.2 t h

theorem scanB_bound (l : List UInt8) : (scanB l).2.1 ≤ l.length ∧ ∀ t ∈ (scanB l).1, t.line ≤ l.length + 1 ∧ t.at0 ≤ l.length := by
  unfold scanB
  split
  · exact ⟨Nat.zero_le _, fun t h => by cases h⟩
  · exact scanS_bound l _ 1 0 (Nat.zero_le _) (Nat.le_refl _)
end Go.Proofs.YtbdgniiafdjmiaaGreatDoor
/- lex: which tokens are written, and how they are read again. -/
namespace Go.Proofs.YtbdgniiafdjmiaaGreatDoor
open Go.RowKit Go.Shelf

/-- May a byte stand in a text? -/
def okC (c : UInt8) : Bool := c.toNat == 10 || (decide (32 ≤ c.toNat) && decide (c.toNat ≤ 126))
/-- May a text be written? -/
def plainQ (s : List UInt8) : Bool := s.all okC && decide (s.length ≤ 255)

theorem okC_iff (c : UInt8) : okC c = true ↔ (c.toNat = 10 ∨ (32 ≤ c.toNat ∧ c.toNat ≤ 126)) := by
  unfold okC; simp

theorem esc_ok {c : UInt8} (h : okC c = true) (t : List UInt8) : tbR (escB c ++ t) = (c.toNat, (escB c).length) ∧ (escB c ++ t).head? ≠ some 34 ∧ 1 ≤ (escB c).length := by
  rw [okC_iff] at h
  unfold escB
  by_cases h1 : c.toNat = 92
  · rw [if_pos h1, h1]
    exact ⟨rfl, by simp, by decide⟩
  · rw [if_neg h1]
    by_cases h2 : c.toNat = 34
    · rw [if_pos h2, h2]
      exact ⟨rfl, by simp, by decide⟩
    · rw [if_neg h2]
      by_cases h3 : c.toNat = 10
      · rw [if_pos h3, h3]
        exact ⟨rfl, by simp, by decide⟩
      · rw [if_neg h3]
        refine ⟨?_, ?_, by simp⟩
        · rw [List.cons_append, tbR_one (by omega) h1]; rfl
        · intro e
          simp at e
          rw [e] at h2
          exact h2 rfl

theorem esc_bad {c : UInt8} (h : okC c = false) (t : List UInt8) : escB c = [c] ∧ tbR (c :: t) = (0, 0) ∧ c.toNat ≠ 34 := by
  have h' : ¬ (c.toNat = 10 ∨ (32 ≤ c.toNat ∧ c.toNat ≤ 126)) := fun e => by rw [(okC_iff c).2 e] at h; cases h
  refine ⟨?_, tbR_bad (by omega), by omega⟩
  unfold escB
  rw [if_neg (by omega), if_neg (by omega), if_neg (by omega)]

theorem toUInt8_of (c : UInt8) : c.toNat.toUInt8 = c := UInt8.toNat_inj.1 (Lib.toUInt8_toNat (UInt8.toNat_lt c))

theorem textF_step {f : Nat} {meant t : List UInt8} {at0 : Nat} {x : UInt8} {r : List UInt8} (h34 : x.toNat ≠ 34) {c sz : Nat} (htb : tbR (x :: r) = (c, sz)) (hsz : sz ≠ 0) (hd : (x :: r).drop sz = t) :
    textF (f + 1) meant at0 (x :: r) = if meant.length = 255 then ⟨0, [], 0, 0, 5⟩ else textF f (meant ++ [c.toUInt8]) (at0 + sz) t := by
  conv => lhs; unfold textF
  rw [if_neg h34, htb, if_neg hsz]
  simp only [hd]

/-- A text that is written is read. -/
theorem textF_esc (t : List UInt8) : ∀ (s meant : List UInt8) (f at0 : Nat), (s.flatMap escB).length < f → s.all okC = true → meant.length + s.length ≤ 255 →
    textF f meant at0 (s.flatMap escB ++ 34 :: t) = ⟨3, meant ++ s, 0, at0 + (s.flatMap escB).length + 1, 0⟩
  | [], meant, f, at0, hf, _, _ => by
    obtain ⟨f, rfl⟩ : ∃ g, f = g + 1 := ⟨f - 1, by simp at hf; omega⟩
    simp only [List.flatMap_nil, List.nil_append, List.append_nil, List.length_nil, Nat.add_zero]
    unfold textF
    rw [if_pos (by decide)]
  | c :: s, meant, f, at0, hf, hok, hl => by
    rw [List.all_cons, Bool.and_eq_true] at hok
    rw [List.flatMap_cons, List.length_append] at hf
    rw [List.length_cons] at hl
    obtain ⟨f, rfl⟩ : ∃ g, f = g + 1 := ⟨f - 1, by omega⟩
    obtain ⟨h1, h2, h3⟩ := esc_ok hok.1 (s.flatMap escB ++ 34 :: t)
    have hcat : (c :: s).flatMap escB ++ 34 :: t = escB c ++ (s.flatMap escB ++ 34 :: t) := by rw [List.flatMap_cons, List.append_assoc]
    have ih := textF_esc t s (meant ++ [c]) f (at0 + (escB c).length) (by omega) hok.2 (by rw [List.length_append, List.length_singleton]; omega)
    rw [hcat]
    obtain ⟨x, r, hxr⟩ : ∃ x r, escB c ++ (s.flatMap escB ++ 34 :: t) = x :: r := by
      cases h9 : escB c ++ (s.flatMap escB ++ 34 :: t) with
      | nil =>
        have := congrArg List.length h9
        rw [List.length_append, List.length_nil] at this
        omega
      | cons x r => exact ⟨x, r, rfl⟩
    have hdr : (x :: r).drop (escB c).length = s.flatMap escB ++ 34 :: t := by rw [← hxr, List.drop_left]
    rw [hxr] at h1 h2
    rw [hxr, textF_step (fun e => h2 (by rw [List.head?_cons, show x = 34 from UInt8.toNat_inj.1 e])) h1 (by omega) hdr, if_neg (by omega), toUInt8_of, ih, List.flatMap_cons, List.length_append]
    simp only [TR.mk.injEq, List.append_assoc, List.singleton_append, true_and, and_true]
    omega

theorem textF_esc_bad (t : List UInt8) : ∀ (s meant : List UInt8) (f at0 : Nat), meant.length ≤ 255 → (s.all okC = false ∨ 255 < meant.length + s.length) → (textF f meant at0 (s.flatMap escB ++ 34 :: t)).e ≠ 0
  | [], meant, f, at0, hm, h => by
    rcases h with h | h
    · simp at h
    · simp at h; omega
  | c :: s, meant, 0, at0, hm, h => by
    show (textF 0 _ _ _).e ≠ 0
    unfold textF
    simp
  | c :: s, meant, f + 1, at0, hm, h => by
    have hcat : (c :: s).flatMap escB ++ 34 :: t = escB c ++ (s.flatMap escB ++ 34 :: t) := by rw [List.flatMap_cons, List.append_assoc]
    rw [hcat]
    cases hok : okC c with
    | false =>
      obtain ⟨h1, h2, h3⟩ := esc_bad hok (s.flatMap escB ++ 34 :: t)
      rw [h1, List.singleton_append]
      unfold textF
      rw [if_neg h3, h2, if_pos rfl]
      simp
    | true =>
      obtain ⟨h1, h2, h3⟩ := esc_ok hok (s.flatMap escB ++ 34 :: t)
      obtain ⟨x, r, hxr⟩ : ∃ x r, escB c ++ (s.flatMap escB ++ 34 :: t) = x :: r := by
        cases h9 : escB c ++ (s.flatMap escB ++ 34 :: t) with
        | nil =>
          have := congrArg List.length h9
          rw [List.length_append, List.length_nil] at this
          omega
        | cons x r => exact ⟨x, r, rfl⟩
      have hdr : (x :: r).drop (escB c).length = s.flatMap escB ++ 34 :: t := by rw [← hxr, List.drop_left]
      rw [hxr] at h1 h2
      rw [hxr, textF_step (fun e => h2 (by rw [List.head?_cons, show x = 34 from UInt8.toNat_inj.1 e])) h1 (by omega) hdr]
      by_cases h255 : meant.length = 255
      · rw [if_pos h255]; simp
      · rw [if_neg h255]
        refine textF_esc_bad t s _ f _ (by rw [List.length_append, List.length_singleton]; omega) ?_
        rcases h with h | h
        · rw [List.all_cons, hok, Bool.true_and] at h; exact .inl h
        · rw [List.length_cons] at h; right; rw [List.length_append, List.length_singleton]; omega

theorem tokT_quote (s t : List UInt8) (hp : plainQ s = true) : tokT (quoteB s ++ t) = ⟨3, s, 0, (quoteB s).length, 0⟩ := by
  unfold plainQ at hp
  rw [Bool.and_eq_true, decide_eq_true_eq] at hp
  have hq : quoteB s ++ t = 34 :: (s.flatMap escB ++ 34 :: t) := by unfold quoteB; simp
  have hlen : (quoteB s).length = (s.flatMap escB).length + 2 := by unfold quoteB; simp
  rw [hq]
  have h1 : tokT (34 :: (s.flatMap escB ++ 34 :: t)) = textT (34 :: (s.flatMap escB ++ 34 :: t)) := rfl
  rw [h1]
  unfold textT
  rw [List.drop_succ_cons, List.drop_zero, textF_esc t s [] _ 1 (by simp; omega) hp.1 (by simp; omega), hlen]
  simp only [List.nil_append, TR.mk.injEq, true_and, and_true]
  omega

theorem tokT_quote_bad (s : List UInt8) (hp : plainQ s = false) : (tokT (quoteB s)).e ≠ 0 := by
  have hq : quoteB s = 34 :: (s.flatMap escB ++ 34 :: []) := rfl
  rw [hq]
  have h1 : tokT (34 :: (s.flatMap escB ++ 34 :: [])) = textT (34 :: (s.flatMap escB ++ 34 :: [])) := rfl
  rw [h1]
  unfold textT
  rw [List.drop_succ_cons, List.drop_zero]
  refine textF_esc_bad [] s [] _ 1 (by simp) ?_
  unfold plainQ at hp
  rw [Bool.and_eq_false_iff] at hp
  rcases hp with h | h
  · exact .inl h
  · right
    rw [decide_eq_false_iff_not] at h
    simp
    omega

/-- What is read as a text is written as it stands. -/
theorem textF_read : ∀ (f : Nat) (meant : List UInt8) (at0 : Nat) (r : List UInt8), meant.length ≤ 255 → (textF f meant at0 r).e = 0 →
    ∃ m1 rest, (textF f meant at0 r).s = meant ++ m1 ∧ r = m1.flatMap escB ++ 34 :: rest ∧ m1.all okC = true ∧ (meant ++ m1).length ≤ 255
  | 0, _, _, _, _, h => by simp [textF] at h
  | _ + 1, _, _, [], _, h => by simp [textF] at h
  | f + 1, meant, at0, x :: r, hm, h => by
    by_cases h1 : x.toNat = 34
    · have hx : x = 34 := UInt8.toNat_inj.1 h1
      refine ⟨[], r, ?_, ?_, rfl, by simpa using hm⟩
      · unfold textF; rw [if_pos h1]; simp
      · rw [hx]; rfl
    · by_cases hbad : x.toNat < 32 ∨ 126 < x.toNat
      · unfold textF at h
        rw [if_neg h1, tbR_bad hbad, if_pos rfl] at h
        simp at h
      · by_cases h92 : x.toNat = 92
        · cases r with
          | nil =>
            unfold textF at h
            rw [if_neg h1, tbR_end hbad h92, if_pos rfl] at h
            simp at h
          | cons y t =>
            have htb : tbR (x :: y :: t) = tbE y.toNat := tbR_two hbad h92
            have hx : x = 92 := UInt8.toNat_inj.1 h92
            have key : ∀ c : Nat, c < 256 → okC c.toUInt8 = true → escB c.toUInt8 = [92, y] → tbE y.toNat = (c, 2) → ∃ m1 rest, (textF (f + 1) meant at0 (x :: y :: t)).s = meant ++ m1 ∧ x :: y :: t = m1.flatMap escB ++ 34 :: rest ∧ m1.all okC = true ∧ (meant ++ m1).length ≤ 255 := by
              intro c hc hok hesc hte
              rw [hte] at htb
              have hst := textF_step (f := f) (meant := meant) (at0 := at0) h1 htb (by decide) rfl
              rw [hst] at h ⊢
              by_cases h255 : meant.length = 255
              · rw [if_pos h255] at h; simp at h
              · rw [if_neg h255] at h ⊢
                obtain ⟨m1, rest, i1, i2, i3, i4⟩ := textF_read f _ _ _ (by rw [List.length_append, List.length_singleton]; omega) h
                refine ⟨c.toUInt8 :: m1, rest, by rw [i1]; simp, ?_, by rw [List.all_cons, hok, i3]; rfl, by simpa using i4⟩
                rw [List.flatMap_cons, hesc, List.append_assoc, ← i2, hx]
                rfl
            by_cases y92 : y.toNat = 92
            · have hy : y = 92 := UInt8.toNat_inj.1 y92
              exact key 92 (by decide) (by decide) (by rw [hy]; decide) (by rw [y92]; rfl)
            · by_cases y34 : y.toNat = 34
              · have hy : y = 34 := UInt8.toNat_inj.1 y34
                exact key 34 (by decide) (by decide) (by rw [hy]; decide) (by rw [y34]; rfl)
              · by_cases y110 : y.toNat = 110
                · have hy : y = 110 := UInt8.toNat_inj.1 y110
                  exact key 10 (by decide) (by decide) (by rw [hy]; decide) (by rw [y110]; rfl)
                · have hte : tbE y.toNat = (0, 0) := by unfold tbE; rw [if_neg y92, if_neg y34, if_neg y110]
                  unfold textF at h
                  rw [if_neg h1, htb, hte, if_pos rfl] at h
                  simp at h
        · have htb : tbR (x :: r) = (x.toNat, 1) := tbR_one hbad h92
          have hst := textF_step (f := f) (meant := meant) (at0 := at0) h1 htb (by decide) rfl
          rw [hst] at h ⊢
          by_cases h255 : meant.length = 255
          · rw [if_pos h255] at h; simp at h
          · rw [if_neg h255, toUInt8_of] at h ⊢
            obtain ⟨m1, rest, i1, i2, i3, i4⟩ := textF_read f _ _ _ (by rw [List.length_append, List.length_singleton]; omega) h
            have hok : okC x = true := (okC_iff x).2 (.inr (by omega))
            have hesc : escB x = [x] := by unfold escB; rw [if_neg h92, if_neg h1, if_neg (by omega)]
            refine ⟨x :: m1, rest, by rw [i1]; simp, ?_, by rw [List.all_cons, hok, i3]; rfl, by simpa using i4⟩
            rw [List.flatMap_cons, hesc, List.append_assoc, ← i2]
            rfl
end Go.Proofs.YtbdgniiafdjmiaaGreatDoor
/- LexBlanks. -/
namespace Go.Proofs.YtbdgniiafdjmiaaGreatDoor
open Go.RowKit Go.Shelf

theorem strB_append (a b : List UInt8) : strB a ++ strB b = strB (a ++ b) := by
  apply ByteArray.ext
  rw [ByteArray.data_append]
  unfold strB
  simp

theorem row_max {w : World} {B e sz n : Nat} {v : Value} {xs : List Value} (h : w.ownsRow B e sz v n xs) : n ≤ maxLen := by
  obtain ⟨-, ⟨-, h0⟩ | ⟨g, cap, cur, -, -, -, hc, hm, -⟩⟩ := h
  · omega
  · omega

theorem tkCells_at : ∀ (ts : List Tk) (i : Nat) (h : i < ts.length), (tkCells ts)[i * 5]? = some (.int .i64 (ts[i]).k) ∧ (tkCells ts)[i * 5 + 1]? = some (.string (strB (ts[i]).s)) ∧ (tkCells ts)[i * 5 + 2]? = some (.int .i64 (ts[i]).n) ∧
    (tkCells ts)[i * 5 + 3]? = some (.int .i64 (ts[i]).line) ∧ (tkCells ts)[i * 5 + 4]? = some (.int .i64 (ts[i]).at0)
  | [], _, h => by cases h
  | t :: ts, 0, _ => ⟨rfl, rfl, rfl, rfl, rfl⟩
  | t :: ts, i + 1, h => by
    have ih := tkCells_at ts i (by simpa using h)
    have e : tkCells (t :: ts) = [.int .i64 t.k, .string (strB t.s), .int .i64 t.n, .int .i64 t.line, .int .i64 t.at0] ++ tkCells ts := rfl
    have key : ∀ q, (tkCells (t :: ts))[(i + 1) * 5 + q]? = (tkCells ts)[i * 5 + q]? := fun q => by
      rw [e, List.getElem?_append_right (by simp; omega)]
      congr 1
      simp
      omega
    have k0 := key 0
    simp only [Nat.add_zero] at k0
    rw [k0, key 1, key 2, key 3, key 4]
    exact ih

end Go.Proofs.YtbdgniiafdjmiaaGreatDoor
/- The document's own functions of layer 3: a text in a list; a word. -/
namespace Go.Proofs.YtbdgniiafdjmiaaGreatDoor
open Go.RowKit Go.Shelf

/-- Is a text one of a list's? -/
def inL (xs : List (List UInt8)) (l : List UInt8) : Bool := xs.contains l

set_option maxRecDepth 100000 in
set_option maxHeartbeats 2000000 in
theorem refIn_any (xs : List (List UInt8)) (l : List UInt8) (g cap : Nat) (w : World) (hx : xs.length ≤ 1000) (hc : ∀ j (h : j < xs.length), w.cell? ⟨g, j, none⟩ = some (.string (strB xs[j]))) :
    Calls Tryz.prog 115 #[.slice (some ⟨g, 0, none⟩) xs.length cap, .string (strB l)] w fun e w' => e = .returned (.bool (inL xs l)) ∧ w = w' := by
  have HC : Hid (∀ j (h : j < xs.length), w.cell? ⟨g, j, none⟩ = some (.string (strB xs[j]))) := hc
  clear hc
  go_enter Tryz.func115, Tryz.ntmps115
  go_wp2
  go_loop [5] (fun v => ∃ i : Nat, i ≤ xs.length ∧ v = .int .i64 i ∧ ∀ x ∈ xs.take i, x ≠ l) (fun v => xs.length - (intOf v).toNat)
  case atStart => exact ⟨0, Nat.zero_le _, rfl, fun x hx => by simp at hx⟩
  case round =>
    obtain ⟨i, hi, rfl, hall⟩ := hrel
    have HA : Hid (∀ x ∈ xs.take i, x ≠ l) := hall
    clear hall
    by_cases hlt : i < xs.length
    · have hcell := HC.out i hlt
      obtain ⟨x, hx⟩ : ∃ x, x = xs[i]'hlt := ⟨_, rfl⟩
      rw [← hx] at hcell
      have HX : Hid (x = xs[i]'hlt) := hx
      clear hx
      by_cases he : x = l
      · subst he
        have HW : Hid (inL xs x = true) := show xs.contains x = true by rw [List.contains_iff_mem, HX.out]; exact List.getElem_mem hlt
        go_wp2
        go_ret
        rw [HW.out]
        exact ⟨rfl, rfl⟩
      · have HE : Hid (x ≠ l) := he
        have hb : (x == l) = false := by rw [beqL]; exact decide_eq_false he
        clear he
        go_wp2
        refine ⟨⟨i + 1, by omega, by go_num, fun y hy => ?_⟩, ?_⟩
        · rw [List.take_succ_eq_append_getElem hlt] at hy
          rcases List.mem_append.1 hy with h | h
          · exact HA.out y h
          · rw [List.mem_singleton] at h; rw [h, ← HX.out]; exact HE.out
        · simp [intOf]; omega
    · obtain rfl : i = xs.length := by omega
      have HW : Hid (inL xs l = false) := show xs.contains l = false by
        rw [Bool.eq_false_iff, ne_eq, List.contains_iff_mem]
        intro h
        exact HA.out l (by rw [List.take_length]; exact h) rfl
      go_wp2
      go_ret
      rw [HW.out]
      exact ⟨rfl, rfl⟩

set_option maxRecDepth 100000 in
set_option maxHeartbeats 2000000 in
theorem refWords_any (w : World) :
    Calls Tryz.prog 116 #[] w fun e w' => e = .returned (.slice (some ⟨w.heap.size, 0, none⟩) 10 10) ∧ w' = w.alloc (.cells (wordsL.map fun x => Value.string (strB x)).toArray 9) := by
  go_enter Tryz.func116, Tryz.ntmps116
  go_wp2
  go_ret
  exact ⟨rfl, rfl⟩

set_option maxRecDepth 100000 in
set_option maxHeartbeats 2000000 in
theorem refWord_any (l : List UInt8) (w : World) :
    Calls Tryz.prog 100 #[.string (strB l)] w fun e w' => e = .returned (.bool (isWord l)) ∧ Below w.heap.size w w' := by
  have hB : Below w.heap.size w (w.alloc (.cells (wordsL.map fun x => Value.string (strB x)).toArray 9)) := (Below.refl _ w).alloc (Nat.le_refl _) _
  have HI : Hid (Calls Tryz.prog 115 #[.slice (some ⟨w.heap.size, 0, none⟩) 10 10, .string (strB l)] (w.alloc (.cells (wordsL.map fun x => Value.string (strB x)).toArray 9)) fun e w' => e = .returned (.bool (inL wordsL l)) ∧ (w.alloc (.cells (wordsL.map fun x => Value.string (strB x)).toArray 9)) = w') :=
    refIn_any wordsL l w.heap.size 10 _ (by decide) (fun j h => by
      rw [cell_of_row _ _ _ _ _ _ (World.alloc_heap_new w _)]
      simp [h])
  have HB : Hid (Below w.heap.size w (w.alloc (.cells (wordsL.map fun x => Value.string (strB x)).toArray 9))) := hB
  clear hB
  go_enter Tryz.func100, Tryz.ntmps100
  go_wp2_with fail
  refine (refWords_any w).mono ?_
  rintro e w1 ⟨rfl, rfl⟩
  go_wp2_with fail
  refine HI.out.mono ?_
  rintro e w2 ⟨rfl, rfl⟩
  go_wp2
  go_ret
  exact ⟨rfl, HB.out⟩
end Go.Proofs.YtbdgniiafdjmiaaGreatDoor
/- The document's own functions of layer 3: bytes. -/
namespace Go.Proofs.YtbdgniiafdjmiaaGreatDoor
open Go.RowKit Go.Shelf

set_option maxRecDepth 100000 in
set_option maxHeartbeats 2000000 in
theorem refDigit_any (n : Nat) (w : World) (hn : n < 256) :
    Calls Tryz.prog 101 #[.int .u8 n] w fun e w' => e = .returned (.bool (digitN n)) ∧ w = w' := by
  go_enter Tryz.func101, Tryz.ntmps101
  go_wp2
  all_goals go_ret
  all_goals refine ⟨retb ?_, rfl⟩
  all_goals (rw [Bool.eq_iff_iff]; simp [digitN]; try omega)

set_option maxRecDepth 100000 in
set_option maxHeartbeats 2000000 in
theorem refLetter_any (n : Nat) (w : World) (hn : n < 256) :
    Calls Tryz.prog 99 #[.int .u8 n] w fun e w' => e = .returned (.bool (letterN n)) ∧ w = w' := by
  go_enter Tryz.func99, Tryz.ntmps99
  go_wp2
  all_goals go_ret
  all_goals refine ⟨retb ?_, rfl⟩
  all_goals (rw [Bool.eq_iff_iff]; simp [letterN]; try omega)
end Go.Proofs.YtbdgniiafdjmiaaGreatDoor
/- The document's own functions of layer 3: numbers. -/
namespace Go.Proofs.YtbdgniiafdjmiaaGreatDoor
open Go.RowKit Go.Shelf

theorem valA_snoc (c : UInt8) : ∀ (l : List UInt8) (a : Nat), valA a (l ++ [c]) = valA a l * 10 + (c.toNat - 48)
  | [], _ => rfl
  | x :: l, a => valA_snoc c l (a * 10 + (x.toNat - 48))

theorem valA_split (a b : List UInt8) : ∀ acc, valA acc (a ++ b) = valA (valA acc a) b := by
  induction a with
  | nil => intro acc; rfl
  | cons x a ih => intro acc; exact ih _

theorem valA_take_le (l : List UInt8) (i : Nat) : valA 0 (l.take i) ≤ valA 0 l := by
  have h := valA_split (l.take i) (l.drop i) 0
  rw [List.take_append_drop] at h
  rw [h]
  exact valA_ge _ _

/-- A number that is not too great; else -1. -/
def numV (l : List UInt8) : Int := if valA 0 l < 9223372036854775808 then ((valA 0 l : Nat) : Int) else -1

end Go.Proofs.YtbdgniiafdjmiaaGreatDoor
/- lex: the document's way of reading a text, byte by byte, comes to the same tokens. -/
namespace Go.Proofs.YtbdgniiafdjmiaaGreatDoor
open Go.RowKit

theorem gapN_blank {c : UInt8} (t : List UInt8) (h : blankN c.toNat = true) : gapN (c :: t) = gapN t + 1 := by
  have e : rowN blankN (c :: t) = rowN blankN t + 1 := by
    unfold rowN; rw [List.takeWhile_cons_of_pos (p := fun c : UInt8 => blankN c.toNat) h, List.length_cons]
  rw [gapN_eq, gapN_eq t, e, List.drop_succ_cons]; omega

theorem gapN_rem {r : List UInt8} (h : remB r = true) : gapN r = rowN noEndN r + gapN (r.drop (rowN noEndN r)) := by
  have e : rowN blankN r = 0 := by
    obtain ⟨t, rfl⟩ := remB_form h
    unfold rowN
    rw [List.takeWhile_cons_of_neg (by decide)]
    rfl
  rw [gapN_eq, e, List.drop_zero, Nat.zero_add]
  unfold remN
  rw [if_pos h]

theorem gapN_tok {c : UInt8} {t : List UInt8} (hb : blankN c.toNat = false) (hr : remB (c :: t) = false) : gapN (c :: t) = 0 := by
  have e : rowN blankN (c :: t) = 0 := by
    unfold rowN; rw [List.takeWhile_cons_of_neg (by simp [hb])]; rfl
  rw [gapN_eq, e, List.drop_zero, Nat.zero_add]
  unfold remN
  rw [if_neg (by simp [hr])]

theorem remB_cons {x : UInt8} {r : List UInt8} : remB (x :: r) = (decide (x.toNat = 47) && (match r with | [] => false | y :: _ => decide (y.toNat = 47))) := by
  have key : ∀ y : UInt8, ((47 : UInt8) == y) = decide (y.toNat = 47) := fun y => by
    by_cases h : y = 47
    · subst h; rfl
    · have h9 : y.toNat ≠ 47 := fun e => h (UInt8.toNat_inj.1 e)
      rw [decide_eq_false h9, beq_eq_false_iff_ne]
      exact Ne.symm h
  unfold remB Lib.hasPrefix
  cases r with
  | nil => simp [List.isPrefixOf]
  | cons y r => simp only [List.isPrefixOf]; rw [key, key, Bool.and_true]

theorem count_split (a b : List UInt8) (c : UInt8) : Lib.countByte (a ++ b) c = Lib.countByte a c + Lib.countByte b c := by
  unfold Lib.countByte
  exact List.count_append

theorem scanS_same {l : List UInt8} {line line' a b : Nat} (f : Nat) (hp : placeT l a = placeT l b) (hl : lineT l line a = lineT l line' b) : scanS l f line a = scanS l f line' b := by
  have hn : nextT l a = nextT l b := by
    show tokT (l.drop (placeT l a)) = tokT (l.drop (placeT l b))
    rw [hp]
  have ht : tkT l line a = tkT l line' b := by
    unfold tkT
    rw [hn, hl, hp]
  cases f with
  | zero => rfl
  | succ f =>
    unfold scanS
    rw [hn, ht, hl, hp]

theorem scanS_blank {l : List UInt8} {a : Nat} (f line : Nat) (h : a < l.length) (hb : blankN (l[a]).toNat = true) :
    scanS l f line a = scanS l f (if (l[a]).toNat = 10 then line + 1 else line) (a + 1) := by
  have hd : l.drop a = l[a] :: l.drop (a + 1) := List.drop_eq_getElem_cons h
  have hg : gapN (l.drop a) = gapN (l.drop (a + 1)) + 1 := by rw [hd]; exact gapN_blank _ hb
  refine scanS_same f ?_ ?_
  · unfold placeT; omega
  · unfold lineT
    rw [hg, hd, List.take_succ_cons]
    show line + Lib.countByte ([l[a]] ++ (l.drop (a + 1)).take (gapN (l.drop (a + 1)))) 10 = _
    rw [count_split]
    by_cases h10 : (l[a]).toNat = 10
    · rw [if_pos h10]
      have : l[a] = 10 := UInt8.toNat_inj.1 h10
      rw [this]
      have : Lib.countByte [10] 10 = 1 := by decide
      omega
    · rw [if_neg h10]
      have h9 : l[a] ≠ 10 := fun e => h10 (by rw [e]; rfl)
      have : Lib.countByte [l[a]] 10 = 0 := by
        unfold Lib.countByte
        simp [h9]
      omega

theorem count_row (r : List UInt8) : Lib.countByte (r.take (rowN noEndN r)) 10 = 0 := by
  unfold rowN
  rw [take_row]
  have key : ∀ c ∈ r.takeWhile (fun c => noEndN c.toNat), c ≠ 10 := fun c hc => by
    have := mem_row (p := fun c => noEndN c.toNat) r c hc
    intro e
    rw [e] at this
    exact absurd this (by decide)
  generalize r.takeWhile (fun c => noEndN c.toNat) = x at key
  unfold Lib.countByte
  simp only [List.count_eq_zero]
  intro h
  exact key 10 h rfl

theorem scanS_rem {l : List UInt8} {a : Nat} (f line : Nat) (h : remB (l.drop a) = true) :
    scanS l f line a = scanS l f line (a + rowN noEndN (l.drop a)) := by
  have hg := gapN_rem h
  rw [List.drop_drop] at hg
  refine scanS_same f ?_ ?_
  · unfold placeT; omega
  · unfold lineT
    rw [hg, List.take_add, count_split, count_row, List.drop_drop]
    omega

/-- What stands ahead, and what is read from a place on. -/
def joinS (pre : List Tk) (X : List Tk × Nat × Nat) : List Tk × Nat × Nat := if X.2.2 ≠ 0 then ([], X.2.1, X.2.2) else (pre ++ X.1, 0, 0)

theorem joinS_nil (f : Nat) (l : List UInt8) (line a : Nat) : joinS [] (scanS l f line a) = scanS l f line a := by
  unfold joinS
  cases f with
  | zero => rfl
  | succ f =>
    rw [scanS]
    by_cases he : (nextT l a).e ≠ 0
    · rw [if_pos he, if_pos he]
    · rw [if_neg he]
      by_cases hk : (nextT l a).k = 0
      · rw [if_pos hk]; rfl
      · rw [if_neg hk]
        generalize scanS l f (lineT l line a) (placeT l a + (nextT l a).sz) = A
        by_cases hA : A.2.2 ≠ 0
        · rw [if_pos hA, if_pos hA]
        · rw [if_neg hA]; rfl

/-- At a token. -/
theorem scanS_tok {l : List UInt8} {a : Nat} (f line : Nat) (pre : List Tk) (hg : gapN (l.drop a) = 0) (ha : a < l.length) :
    ((tokT (l.drop a)).e ≠ 0 → joinS pre (scanS l (f + 1) line a) = ([], a, (tokT (l.drop a)).e)) ∧
    ((tokT (l.drop a)).e = 0 → joinS pre (scanS l (f + 1) line a) = joinS (pre ++ [⟨(tokT (l.drop a)).k, (tokT (l.drop a)).s, (tokT (l.drop a)).n, line, a⟩]) (scanS l f line (a + (tokT (l.drop a)).sz)) ∧ 1 ≤ (tokT (l.drop a)).sz ∧ a + (tokT (l.drop a)).sz ≤ l.length) := by
  have hp : placeT l a = a := by unfold placeT; rw [hg]; rfl
  have hn : nextT l a = tokT (l.drop a) := by show tokT (l.drop (placeT l a)) = _; rw [hp]
  have hl : lineT l line a = line := by unfold lineT; rw [hg]; rfl
  have ht : tkT l line a = ⟨(tokT (l.drop a)).k, (tokT (l.drop a)).s, (tokT (l.drop a)).n, line, a⟩ := by unfold tkT; rw [hn, hl, hp]
  constructor
  · intro he
    unfold scanS
    rw [hn, if_pos he, hp]
    unfold joinS
    rw [if_pos he]
  · intro he
    have hz := tokT_sz (l.drop a) he
    have hk : (tokT (l.drop a)).k ≠ 0 := fun hk => by
      have h9 := hz.2.2 hk
      have := congrArg List.length h9
      rw [List.length_drop, List.length_nil] at this
      omega
    refine ⟨?_, hz.2.1 hk, by have := hz.1; rw [List.length_drop] at this; omega⟩
    rw [scanS, hn, if_neg (by simp [he]), if_neg hk, hl, hp, ht]
    generalize scanS l f line (a + (tokT (l.drop a)).sz) = A
    unfold joinS
    by_cases hA : A.2.2 ≠ 0
    · rw [if_pos hA, if_pos hA, if_pos hA]
    · rw [if_neg hA, if_neg (by simp), if_neg hA]
      simp

/-- At the end. -/
theorem scanS_out (l : List UInt8) (f line : Nat) (pre : List Tk) : joinS pre (scanS l (f + 1) line l.length) = (pre ++ [⟨0, [], 0, line, l.length⟩], 0, 0) := by
  have hd : l.drop l.length = [] := List.drop_length
  have hp : placeT l l.length = l.length := by unfold placeT; rw [hd, gapN_nil]; rfl
  have hn : nextT l l.length = ⟨0, [], 0, 0, 0⟩ := by show tokT (l.drop (placeT l l.length)) = _; rw [hp, hd]; rfl
  have hl : lineT l line l.length = line := by unfold lineT; rw [hd, gapN_nil]; rfl
  have ht : tkT l line l.length = ⟨0, [], 0, line, l.length⟩ := by unfold tkT; rw [hn, hl, hp]
  unfold scanS
  rw [hn, if_neg (by simp), if_pos rfl, ht]
  rfl

/-- The document's signs, the longer ones first. -/
def refSigns : List (List UInt8) := [[61, 61], [33, 61], [60, 61], [62, 61], [38, 38], [124, 124], [40], [41], [123], [125], [91], [93], [44], [58], [59], [46], [61], [60], [62], [43], [45], [42], [47], [37], [33]]

theorem pre_same {l x y : List UInt8} (hx : Lib.hasPrefix l x = true) (hy : Lib.hasPrefix l y = true) (h : x.length = y.length) : x = y := by
  unfold Lib.hasPrefix at hx hy
  have h1 := List.prefix_iff_eq_take.1 (List.isPrefixOf_iff_prefix.1 hx)
  have h2 := List.prefix_iff_eq_take.1 (List.isPrefixOf_iff_prefix.1 hy)
  rw [h1, h2, h]

theorem best_key (l : List UInt8) : ∀ (xs : List (List UInt8)) (b : List UInt8), b.length ≤ (xs.foldl (longer l) b).length ∧ (∀ x ∈ xs, Lib.hasPrefix l x = true → x.length ≤ (xs.foldl (longer l) b).length) ∧
    (xs.foldl (longer l) b = b ∨ (xs.foldl (longer l) b ∈ xs ∧ Lib.hasPrefix l (xs.foldl (longer l) b) = true))
  | [], b => ⟨Nat.le_refl _, (fun x h => by cases h), .inl rfl⟩
  | x :: xs, b => by
    rw [List.foldl_cons]
    obtain ⟨i1, i2, i3⟩ := best_key l xs (longer l b x)
    have hb : b.length ≤ (longer l b x).length := by
      unfold longer
      split
      · rename_i h; omega
      · exact Nat.le_refl _
    refine ⟨Nat.le_trans hb i1, fun y hy hp => ?_, ?_⟩
    · rcases List.mem_cons.1 hy with rfl | hy
      · refine Nat.le_trans ?_ i1
        unfold longer
        split
        · exact Nat.le_refl _
        · rename_i h
          rcases Nat.lt_or_ge b.length y.length with h9 | h9
          · exact absurd ⟨h9, hp⟩ h
          · exact h9
      · exact i2 y hy hp
    · rcases i3 with h | ⟨h1, h2⟩
      · rw [h]
        unfold longer
        split
        · rename_i h9; exact .inr ⟨List.mem_cons_self .., h9.2⟩
        · exact .inl rfl
      · exact .inr ⟨List.mem_cons_of_mem _ h1, h2⟩

theorem best_all (l : List UInt8) : (∀ x ∈ signsL, Lib.hasPrefix l x = true → x.length ≤ (bestS l 25).length) ∧ (bestS l 25 = [] ∨ (bestS l 25 ∈ signsL ∧ Lib.hasPrefix l (bestS l 25) = true)) := by
  have h := best_key l signsL []
  have e : bestS l 25 = signsL.foldl (longer l) [] := by unfold bestS; rw [List.take_of_length_le (by decide)]
  rw [e]
  exact h.2

theorem best_hit {l : List UInt8} {i : Nat} (hi : i < refSigns.length) (hno : ∀ x ∈ refSigns.take i, Lib.hasPrefix l x = false) (hp : Lib.hasPrefix l (refSigns[i]'hi) = true) : bestS l 25 = refSigns[i]'hi := by
  obtain ⟨h1, h2⟩ := best_all l
  have m1 : ∀ x ∈ refSigns, x ∈ signsL := by decide
  have m2 : ∀ x ∈ signsL, x ∈ refSigns := by decide
  have m3 : ∀ x ∈ refSigns, 1 ≤ x.length := by decide
  have m4 : ∀ (a : Nat) (ha : a < 25) (b : Nat) (hb : b < 25), a ≤ b → ((refSigns[b]'hb).length ≤ (refSigns[a]'ha).length) := by decide
  have hge := h1 _ (m1 _ (List.getElem_mem hi)) hp
  have hpos := m3 _ (List.getElem_mem hi)
  rcases h2 with h2 | ⟨h2, h3⟩
  · rw [h2, List.length_nil] at hge
    omega
  · obtain ⟨j, hj, he⟩ := List.getElem_of_mem (m2 _ h2)
    have hij : i ≤ j := by
      rcases Nat.lt_or_ge j i with h | h
      · have := hno _ (List.mem_take_iff_getElem.2 ⟨j, by omega, rfl⟩)
        rw [he, h3] at this
        cases this
      · exact h
    have hle := m4 i hi j hj hij
    rw [he] at hle
    exact pre_same h3 hp (Nat.le_antisymm hle hge)

theorem best_none {l : List UInt8} (hno : ∀ x ∈ refSigns, Lib.hasPrefix l x = false) : bestS l 25 = [] := by
  obtain ⟨-, h2⟩ := best_all l
  have m2 : ∀ x ∈ signsL, x ∈ refSigns := by decide
  rcases h2 with h2 | ⟨h2, h3⟩
  · exact h2
  · rw [hno _ (m2 _ h2)] at h3; cases h3
end Go.Proofs.YtbdgniiafdjmiaaGreatDoor
/- lex: which tokens are written: numbers, names, signs. -/
namespace Go.Proofs.YtbdgniiafdjmiaaGreatDoor
open Go.RowKit Go.Shelf

theorem dec_all (u : Nat) : ∀ c ∈ Lib.decDigits u, digitN c.toNat = true := by
  induction u using Nat.strongRecOn with
  | _ u ih =>
    have key : ∀ d : Nat, d < 10 → digitN (UInt8.ofNat (48 + d)).toNat = true := by decide
    intro c hc
    rw [Lib.decDigits] at hc
    by_cases h : u < 10
    · rw [dif_pos h, List.mem_singleton] at hc
      rw [hc]; exact key u h
    · rw [dif_neg h, List.mem_append, List.mem_singleton] at hc
      rcases hc with hc | hc
      · exact ih (u / 10) (by omega) c hc
      · rw [hc]; exact key (u % 10) (by omega)

theorem dec_ne (u : Nat) : Lib.decDigits u ≠ [] := by
  intro h
  have := congrArg List.length h
  rw [Lib.decDigits_length, List.length_nil] at this
  have := Lib.nDigits_pos u
  omega

theorem dec_val (u : Nat) : valA 0 (Lib.decDigits u) = u := by
  induction u using Nat.strongRecOn with
  | _ u ih =>
    have key : ∀ d : Nat, d < 10 → (UInt8.ofNat (48 + d)).toNat - 48 = d := by decide
    rw [Lib.decDigits]
    by_cases h : u < 10
    · rw [dif_pos h]
      show 0 * 10 + ((UInt8.ofNat (48 + u)).toNat - 48) = u
      rw [key u h]; omega
    · rw [dif_neg h, valA_snoc, ih (u / 10) (by omega), key (u % 10) (by omega)]
      omega

theorem digL_dec (u : Nat) (t : List UInt8) (ht : ∀ x ∈ t.head?, digitN x.toNat = false) : digL (Lib.decDigits u ++ t) = Lib.decDigits u := by
  unfold digL
  rw [takeWhile_out t _ (by rw [takeWhile_every _ (dec_all u)])]
  cases t with
  | nil => simp
  | cons x t => rw [List.takeWhile_cons_of_neg (by rw [ht x rfl]; simp), List.append_nil]

theorem tokT_dec (u : Nat) (hu : u < 9223372036854775808) (t : List UInt8) (ht : ∀ x ∈ t.head?, digitN x.toNat = false) : tokT (Lib.decDigits u ++ t) = ⟨2, [], u, (Lib.decDigits u).length, 0⟩ := by
  obtain ⟨x, r, hxr⟩ : ∃ x r, Lib.decDigits u = x :: r := by
    cases h : Lib.decDigits u with
    | nil => exact absurd h (dec_ne u)
    | cons x r => exact ⟨x, r, rfl⟩
  have hx : digitN x.toNat = true := dec_all u x (by rw [hxr]; exact List.mem_cons_self ..)
  have hl : letterN x.toNat = false := by
    unfold digitN at hx
    rw [Bool.and_eq_true, decide_eq_true_eq, decide_eq_true_eq] at hx
    unfold letterN
    rw [Bool.or_eq_false_iff, Bool.or_eq_false_iff]
    refine ⟨⟨by rw [beq_eq_false_iff_ne]; omega, ?_⟩, ?_⟩ <;> (rw [Bool.and_eq_false_iff, decide_eq_false_iff_not, decide_eq_false_iff_not]; omega)
  have hd := digL_dec u t ht
  have h1 : tokT (Lib.decDigits u ++ t) = numT (Lib.decDigits u ++ t) := by
    rw [hxr, List.cons_append]
    unfold tokT
    simp only
    rw [if_neg (by rw [hl]; simp), if_pos hx]
  rw [h1]
  unfold numT
  rw [hd, dec_val, if_pos hu]

theorem textF_k' : ∀ (f : Nat) (meant : List UInt8) (at0 : Nat) (r : List UInt8), (textF f meant at0 r).e = 0 → (textF f meant at0 r).k = 3
  | 0, _, _, _, h => by simp [textF] at h
  | _ + 1, _, _, [], h => by simp [textF] at h
  | f + 1, meant, at0, x :: r, h => by
    unfold textF at h ⊢
    by_cases h1 : x.toNat = 34
    · rw [if_pos h1]
    · rw [if_neg h1] at h ⊢
      by_cases h2 : (tbR (x :: r)).2 = 0
      · rw [if_pos h2] at h; simp at h
      · rw [if_neg h2] at h ⊢
        by_cases h3 : meant.length = 255
        · rw [if_pos h3] at h; simp at h
        · rw [if_neg h3] at h ⊢
          exact textF_k' f _ _ _ h

/-- Is a text a name? -/
def nameQ (s : List UInt8) : Bool := match s with | [] => false | x :: r => letterN x.toNat && r.all (fun c => nameN c.toNat) && !isWord s && decide (s.length ≤ 20)

theorem nameL_all {s : List UInt8} (h : s.all (fun c => nameN c.toNat) = true) : nameL s = s := takeWhile_every s (fun x hx => List.all_eq_true.1 h x hx)
theorem all_of_nameL {s : List UInt8} (h : nameL s = s) : s.all (fun c => nameN c.toNat) = true := by
  rw [List.all_eq_true]
  intro x hx
  exact mem_row (p := fun c => nameN c.toNat) s x (by rw [← h] at hx; exact hx)

theorem letter_word : ∀ x ∈ wordsL, ∃ c r, x = c :: r ∧ letterN c.toNat = true ∧ x.all (fun c => nameN c.toNat) = true := by
  intro x hx
  have h1 : ∀ x ∈ wordsL, x ≠ [] := by decide
  have h2 : ∀ x ∈ wordsL, x.all (fun c => nameN c.toNat) = true := by decide
  have h3 : ∀ x ∈ wordsL, letterN (x.headD 0).toNat = true := by decide
  cases x with
  | nil => exact absurd rfl (h1 _ hx)
  | cons c r => exact ⟨c, r, rfl, h3 _ hx, h2 _ hx⟩

theorem sign_head : ∀ x ∈ signsL, ∃ c r, x = c :: r ∧ letterN c.toNat = false ∧ digitN c.toNat = false ∧ c.toNat ≠ 34 ∧ blankN c.toNat = false := by
  intro x hx
  have h1 : ∀ x ∈ signsL, x ≠ [] := by decide
  have h3 : ∀ x ∈ signsL, letterN (x.headD 0).toNat = false ∧ digitN (x.headD 0).toNat = false ∧ (x.headD 0).toNat ≠ 34 ∧ blankN (x.headD 0).toNat = false := by decide
  cases x with
  | nil => exact absurd rfl (h1 _ hx)
  | cons c r => exact ⟨c, r, rfl, h3 _ hx⟩

theorem tokT_letter {x : UInt8} {r : List UInt8} (h : letterN x.toNat = true) : tokT (x :: r) = nameR (x :: r) := by
  unfold tokT; simp only; rw [if_pos h]
theorem tokT_digit {x : UInt8} {r : List UInt8} (h : letterN x.toNat = false) (h2 : digitN x.toNat = true) : tokT (x :: r) = numT (x :: r) := by
  unfold tokT; simp only; rw [if_neg (by rw [h]; simp), if_pos h2]
theorem tokT_text {x : UInt8} {r : List UInt8} (h : letterN x.toNat = false) (h2 : digitN x.toNat = false) (h3 : x.toNat = 34) : tokT (x :: r) = textT (x :: r) := by
  unfold tokT; simp only; rw [if_neg (by rw [h]; simp), if_neg (by rw [h2]; simp), if_pos h3]
theorem tokT_sign {x : UInt8} {r : List UInt8} (h : letterN x.toNat = false) (h2 : digitN x.toNat = false) (h3 : x.toNat ≠ 34) : tokT (x :: r) = signT (x :: r) := by
  unfold tokT; simp only; rw [if_neg (by rw [h]; simp), if_neg (by rw [h2]; simp), if_neg h3]

theorem best_sign : ∀ x ∈ signsL, bestS x 25 = x := by decide +kernel

theorem tokT_minus (t : List UInt8) : (tokT (45 :: t)).e = 0 → (tokT (45 :: t)).k = 4 := by
  have h1 : tokT (45 :: t) = signT (45 :: t) := tokT_sign (by decide) (by decide) (by decide)
  rw [h1]
  unfold signT
  split
  · intro h; simp at h
  · intro _; rfl


theorem signT_in {x : List UInt8} (hx : x ∈ signsL) : tokT x = ⟨4, x, 0, x.length, 0⟩ := by
  obtain ⟨c, r, rfl, h1, h2, h3, -⟩ := sign_head x hx
  rw [tokT_sign h1 h2 h3]
  unfold signT
  rw [best_sign _ hx, if_neg (by simp)]

theorem wordR {x : List UInt8} (hx : isWord x = true) : tokT x = ⟨5, x, 0, x.length, 0⟩ := by
  obtain ⟨c, r, rfl, h1, h2⟩ := letter_word x (by unfold isWord at hx; exact List.contains_iff_mem.1 hx)
  rw [tokT_letter h1]
  unfold nameR
  rw [nameL_all h2, if_pos hx]

theorem nameQ_R {x : List UInt8} (hx : nameQ x = true) : tokT x = ⟨1, x, 0, x.length, 0⟩ := by
  cases x with
  | nil => simp [nameQ] at hx
  | cons c r =>
    unfold nameQ at hx
    simp only at hx
    rw [Bool.and_eq_true, Bool.and_eq_true, Bool.and_eq_true, decide_eq_true_eq] at hx
    obtain ⟨⟨⟨h1, h2⟩, h3⟩, h4⟩ := hx
    have h5 : (c :: r).all (fun c => nameN c.toNat) = true := by rw [List.all_cons, h2, Bool.and_true]; simp [nameN, h1]
    rw [tokT_letter h1]
    unfold nameR
    rw [nameL_all h5, if_neg (by intro e; rw [e] at h3; cases h3), if_neg (by omega)]

theorem notQ_digit {x : UInt8} {r : List UInt8} (h : letterN x.toNat = false) : nameQ (x :: r) = false ∧ isWord (x :: r) = false := by
  refine ⟨by unfold nameQ; simp only; rw [h]; rfl, ?_⟩
  rw [Bool.eq_false_iff]
  intro hw
  obtain ⟨c, r', he, h1, -⟩ := letter_word _ (by unfold isWord at hw; exact List.contains_iff_mem.1 hw)
  cases he
  rw [h] at h1; cases h1

/-- The document's answer. -/
def refT (k n : Int) (s : List UInt8) : List UInt8 × Nat :=
  if k = 0 ∧ s = [] ∧ n = 0 then ([], 0)
  else if (k = 1 ∧ nameQ s = true ∧ n = 0) ∨ (k = 4 ∧ s ∈ signsL ∧ n = 0) ∨ (k = 5 ∧ isWord s = true ∧ n = 0) then (s, 0)
  else if k = 2 ∧ s = [] ∧ 0 ≤ n then (Lib.decDigits n.toNat, 0)
  else if k = 3 ∧ plainQ s = true ∧ n = 0 then (quoteB s, 0)
  else ([], 2)

/-- What is neither a number nor a text. -/
theorem back_plain {k n : Int} {s : List UInt8} (h2 : k ≠ 2) (h3 : k ≠ 3) : backB k n s ↔ (k = 0 ∧ s = [] ∧ n = 0) ∨ (k = 1 ∧ nameQ s = true ∧ n = 0) ∨ (k = 4 ∧ s ∈ signsL ∧ n = 0) ∨ (k = 5 ∧ isWord s = true ∧ n = 0) := by
  have hw : wrB k n s = s := by unfold wrB; rw [if_neg h2, if_neg h3]
  unfold backB
  rw [hw]
  constructor
  · rintro ⟨he, hk, hs, hn⟩
    cases s with
    | nil => exact .inl ⟨hk.symm, rfl, hn.symm⟩
    | cons x r =>
      right
      cases h1 : letterN x.toNat with
      | true =>
        rw [tokT_letter h1] at he hk hs hn
        unfold nameR at he hk hs hn
        by_cases hq : isWord (nameL (x :: r)) = true
        · rw [if_pos hq] at he hk hs hn
          simp only at he hk hs hn
          rw [hs] at hq
          exact .inr (.inr ⟨hk.symm, hq, hn.symm⟩)
        · rw [if_neg hq] at he hk hs hn
          by_cases h20 : 20 < (nameL (x :: r)).length
          · rw [if_pos h20] at he; simp at he
          · rw [if_neg h20] at he hk hs hn
            simp only at he hk hs hn
            have hall := all_of_nameL hs
            rw [hs] at hq h20
            refine .inl ⟨hk.symm, ?_, hn.symm⟩
            unfold nameQ
            simp only
            rw [List.all_cons, Bool.and_eq_true] at hall
            rw [h1, hall.2, decide_eq_true (by omega)]
            simp [hq]
      | false =>
        cases h4 : digitN x.toNat with
        | true =>
          rw [tokT_digit h1 h4] at he hk hs hn
          unfold numT at he hk hs hn
          split at hs
          · simp at hs
          · simp at hs
        | false =>
          by_cases h34 : x.toNat = 34
          · rw [tokT_text h1 h4 h34] at he hk
            have := (textF_k' _ _ _ _ he)
            unfold textT at hk
            rw [this] at hk
            exact absurd hk.symm h3
          · rw [tokT_sign h1 h4 h34] at he hk hs hn
            unfold signT at he hk hs hn
            by_cases hb : bestS (x :: r) 25 = []
            · rw [if_pos hb] at he; simp at he
            · rw [if_neg hb] at hk hs hn
              simp only at hk hs hn
              rcases (best_all (x :: r)).2 with h9 | ⟨h9, -⟩
              · exact absurd h9 hb
              · rw [hs] at h9
                exact .inr (.inl ⟨hk.symm, h9, hn.symm⟩)
  · rintro (⟨rfl, rfl, rfl⟩ | ⟨rfl, h, rfl⟩ | ⟨rfl, h, rfl⟩ | ⟨rfl, h, rfl⟩)
    · exact ⟨rfl, rfl, rfl, rfl⟩
    · rw [nameQ_R h]; exact ⟨rfl, rfl, rfl, rfl⟩
    · rw [signT_in h]; exact ⟨rfl, rfl, rfl, rfl⟩
    · rw [wordR h]; exact ⟨rfl, rfl, rfl, rfl⟩

theorem back_num {n : Int} {s : List UInt8} (hn1 : n ≤ 9223372036854775807) : backB 2 n s ↔ s = [] ∧ 0 ≤ n := by
  unfold backB
  have hw : wrB 2 n s = Lib.itoa n := rfl
  rw [hw]
  unfold Lib.itoa
  by_cases h : n < 0
  · rw [if_pos h]
    constructor
    · rintro ⟨he, hk, -, -⟩
      have := tokT_minus _ he
      rw [this] at hk
      cases hk
    · rintro ⟨-, h9⟩; omega
  · rw [if_neg h]
    have ht := tokT_dec n.toNat (by omega) [] (fun x hx => by simp at hx)
    rw [List.append_nil] at ht
    rw [ht]
    constructor
    · rintro ⟨-, -, hs, -⟩; exact ⟨hs.symm, by omega⟩
    · rintro ⟨rfl, h9⟩
      refine ⟨rfl, rfl, rfl, ?_⟩
      show ((n.toNat : Nat) : Int) = n
      omega

theorem back_text {n : Int} {s : List UInt8} : backB 3 n s ↔ plainQ s = true ∧ n = 0 := by
  unfold backB
  have hw : wrB 3 n s = quoteB s := rfl
  rw [hw]
  cases hp : plainQ s with
  | false =>
    constructor
    · rintro ⟨he, -⟩; exact absurd he (tokT_quote_bad s hp)
    · rintro ⟨h, -⟩; cases h
  | true =>
    have ht := tokT_quote s [] hp
    rw [List.append_nil] at ht
    rw [ht]
    constructor
    · rintro ⟨-, -, -, hn⟩; exact ⟨rfl, hn.symm⟩
    · rintro ⟨-, rfl⟩; exact ⟨rfl, rfl, rfl, rfl⟩

theorem tkB_refT (k n : Int) (s : List UInt8) (hn1 : n ≤ 9223372036854775807) : tkB k n s = refT k n s := by
  unfold tkB refT
  by_cases h2 : k = 2
  · subst h2
    rw [if_neg (c := (2 : Int) = 0 ∧ _) (by omega), if_neg (c := ((2 : Int) = 1 ∧ _) ∨ _) (by omega)]
    by_cases hb : backB 2 n s
    · obtain ⟨h3, h4⟩ := (back_num hn1).1 hb
      rw [if_pos hb, if_pos ⟨rfl, h3, h4⟩]
      have : wrB 2 n s = Lib.itoa n := rfl
      rw [this]
      unfold Lib.itoa
      rw [if_neg (by omega)]
    · rw [if_neg hb, if_neg (fun h => hb ((back_num hn1).2 h.2)), if_neg (by omega)]
  · by_cases h3 : k = 3
    · subst h3
      rw [if_neg (c := (3 : Int) = 0 ∧ _) (by omega), if_neg (c := ((3 : Int) = 1 ∧ _) ∨ _) (by omega), if_neg (c := (3 : Int) = 2 ∧ _) (by omega)]
      by_cases hb : backB 3 n s
      · rw [if_pos hb, if_pos ⟨rfl, back_text.1 hb⟩]; rfl
      · rw [if_neg hb, if_neg (fun h => hb (back_text.2 h.2))]
    · have hw : wrB k n s = s := by unfold wrB; rw [if_neg h2, if_neg h3]
      rw [hw, if_neg (c := k = 2 ∧ _) (fun h => h2 h.1), if_neg (c := k = 3 ∧ _) (fun h => h3 h.1)]
      by_cases h0 : k = 0 ∧ s = [] ∧ n = 0
      · rw [if_pos h0, if_pos ((back_plain h2 h3).2 (.inl h0)), h0.2.1]
      · rw [if_neg h0]
        by_cases h1 : (k = 1 ∧ nameQ s = true ∧ n = 0) ∨ (k = 4 ∧ s ∈ signsL ∧ n = 0) ∨ (k = 5 ∧ isWord s = true ∧ n = 0)
        · rw [if_pos h1, if_pos ((back_plain h2 h3).2 (.inr h1))]
        · rw [if_neg h1, if_neg (fun hb => by rcases (back_plain h2 h3).1 hb with h | h; exact h0 h; exact h1 h)]
end Go.Proofs.YtbdgniiafdjmiaaGreatDoor
/- The document's own functions of layer 3: digits, plain texts, names, a text as it is written. -/
namespace Go.Proofs.YtbdgniiafdjmiaaGreatDoor
open Go.RowKit Go.Shelf

theorem dec_len (u : Nat) (hu : u ≤ 9223372036854775808) : (Lib.decDigits u).length ≤ 100 := by
  have h := wrB_len 2 (u : Int) []
  by_cases h9 : (u : Int) ≤ 9223372036854775807
  · have h8 := h (by omega) h9
    have e : wrB 2 (u : Int) [] = Lib.decDigits u := by
      show Lib.itoa (u : Int) = _
      unfold Lib.itoa
      rw [if_neg (by omega), Int.toNat_natCast]
    rw [e] at h8
    simp at h8
    omega
  · have e : u = 9223372036854775808 := by omega
    subst e
    rw [Lib.decDigits_length]
    decide +kernel

set_option maxRecDepth 100000 in
theorem conv_one (wx : World) (g c : Nat) (hc : c < 256) (h : wx.cell? ⟨g, 0, none⟩ = some (.int .u8 (c : Int))) : (convert 30 9 (.slice (some ⟨g, 0, none⟩) 1 1)).run Tryz.prog wx = .ok (.string (strB [c.toUInt8])) wx :=
  conv_row wx (some ⟨g, 0, none⟩) [c.toUInt8] 1 (bytesAt_row (bytesAt_one hc h)).2.1

set_option maxRecDepth 100000 in
set_option maxHeartbeats 2000000 in
theorem refPlain_any (s : List UInt8) (w : World) (hl : s.length ≤ 100000000) :
    Calls Tryz.prog 102 #[.string (strB s)] w fun e w' => e = .returned (.bool (plainQ s)) ∧ w = w' := by
  have hsz : (strB s).size = s.length := rfl
  go_enter Tryz.func102, Tryz.ntmps102
  go_wp2
  go_loop [3] (fun v => ∃ i : Nat, i ≤ s.length ∧ v = .int .i64 i ∧ (s.take i).all okC = true) (fun v => s.length - (intOf v).toNat)
  case atStart => exact ⟨0, Nat.zero_le _, rfl, rfl⟩
  case round =>
    obtain ⟨i, hi, rfl, hall⟩ := hrel
    have HA : Hid ((s.take i).all okC = true) := hall
    clear hall
    by_cases hlt : i < s.length
    · have hidx := fun wx => str_at wx s i hlt
      obtain ⟨c, hc⟩ : ∃ c, c = (s[i]).toNat := ⟨_, rfl⟩
      rw [← hc] at hidx
      have hc256 : c < 256 := by rw [hc]; exact UInt8.toNat_lt _
      have HNX : Hid ((s.take (i + 1)).all okC = okC s[i]) := by
        show _ = _
        rw [List.take_succ_eq_append_getElem hlt, List.all_append, HA.out, Bool.true_and]
        simp
      have HOK : Hid (okC s[i] = true ↔ (c = 10 ∨ (32 ≤ c ∧ c ≤ 126))) := by rw [hc]; exact okC_iff _
      have HBAD : Hid (okC s[i] = false → plainQ s = false) := fun h => by
        unfold plainQ
        have : s.all okC = false := by
          rw [Bool.eq_false_iff]
          intro h9
          have := List.all_eq_true.1 h9 s[i] (List.getElem_mem hlt)
          rw [h] at this; cases this
        rw [this]; rfl
      clear hc
      by_cases h10 : c = 10
      · have HN : Hid ((s.take (i + 1)).all okC = true) := HNX.out.trans (HOK.out.2 (.inl h10))
        subst h10
        go_wp2
        exact ⟨⟨i + 1, by omega, by go_num, HN.out⟩, by simp [intOf]; omega⟩
      · have h10b : ((c : Int) != 10) = true := by rw [bne_iff_ne]; omega
        by_cases hlo : c < 32
        · have HP : Hid (plainQ s = false) := HBAD.out (by rw [Bool.eq_false_iff]; intro h; rcases HOK.out.1 h with h | h <;> omega)
          go_wp2
          go_ret
          rw [HP.out]
          exact ⟨rfl, rfl⟩
        · by_cases hhi : 126 < c
          · have HP : Hid (plainQ s = false) := HBAD.out (by rw [Bool.eq_false_iff]; intro h; rcases HOK.out.1 h with h | h <;> omega)
            go_wp2
            go_ret
            rw [HP.out]
            exact ⟨rfl, rfl⟩
          · have HN : Hid ((s.take (i + 1)).all okC = true) := HNX.out.trans (HOK.out.2 (.inr (by omega)))
            go_wp2
            exact ⟨⟨i + 1, by omega, by go_num, HN.out⟩, by simp [intOf]; omega⟩
    · obtain rfl : i = s.length := by omega
      have HP : Hid (plainQ s = decide ((s.length : Int) ≤ 255)) := by
        show _ = _
        have h9 := HA.out
        rw [List.take_length] at h9
        unfold plainQ
        rw [h9, Bool.true_and, Bool.eq_iff_iff, decide_eq_true_eq, decide_eq_true_eq]
        omega
      go_wp2
      all_goals go_ret
      all_goals rw [HP.out]
      all_goals exact ⟨rfl, rfl⟩

set_option maxRecDepth 100000 in
set_option maxHeartbeats 4000000 in
theorem refName_any (s : List UInt8) (w : World) (hl : s.length ≤ 100000000) :
    Calls Tryz.prog 76 #[.string (strB s)] w fun e w' => e = .returned (.bool (nameQ s)) ∧ Below w.heap.size w w' := by
  have hsz : (strB s).size = s.length := rfl
  cases s with
  | nil =>
    go_enter Tryz.func76, Tryz.ntmps76
    go_wp2
    go_ret
    exact ⟨rfl, Below.refl _ _⟩
  | cons x r =>
    have hlen : (x :: r).length = r.length + 1 := rfl
    have HQ : Hid (nameQ (x :: r) = (letterN x.toNat && r.all (fun c => nameN c.toNat) && !isWord (x :: r) && decide ((x :: r).length ≤ 20))) := rfl
    have hidx0 := fun wx => str_at wx (x :: r) 0 (by simp)
    rw [show ((0 : Nat) : Int) = 0 from rfl, show (x :: r)[0] = x from rfl] at hidx0
    obtain ⟨n, hn⟩ : ∃ n, n = x.toNat := ⟨_, rfl⟩
    have hn256 : n < 256 := by rw [hn]; exact UInt8.toNat_lt x
    rw [← hn] at hidx0 HQ
    have cl := refLetter_any n w hn256
    have cw := refWord_any (x :: r) w
    rw [hsz] at *
    have hcell : ∀ j (h : j < (x :: r).length) (wx : World), (Instr.index 9 (.string (strB (x :: r))) (.int .i64 (j : Int))).run Tryz.prog wx = .ok (.int .u8 (((x :: r)[j]).toNat : Int)) wx := fun j h wx => str_at wx (x :: r) j h
    have HCE : Hid (∀ j (h : j < (x :: r).length) (wx : World), (Instr.index 9 (.string (strB (x :: r))) (.int .i64 (j : Int))).run Tryz.prog wx = .ok (.int .u8 (((x :: r)[j]).toNat : Int)) wx) := hcell
    clear hn hcell
    by_cases h20 : 20 < r.length + 1
    · have HF : Hid (nameQ (x :: r) = false) := by
        show _ = false
        rw [HQ.out, show decide ((x :: r).length ≤ 20) = false from decide_eq_false (by rw [List.length_cons]; omega), Bool.and_false]
      have h1 : ¬ (r.length : Int) + 1 < 1 := by omega
      have h2 : (20 : Int) < (r.length : Int) + 1 := by omega
      go_enter Tryz.func76, Tryz.ntmps76
      go_wp2
      go_ret
      rw [HF.out]
      exact ⟨rfl, Below.refl _ _⟩
    · have h1 : ¬ (r.length : Int) + 1 < 1 := by omega
      have h2 : ¬ (20 : Int) < (r.length : Int) + 1 := by omega
      go_enter Tryz.func76, Tryz.ntmps76
      go_wp2_with fail
      refine cl.mono ?_
      clear cl
      rintro e w1 ⟨rfl, rfl⟩
      cases hq : letterN n with
      | false =>
        have HF : Hid (nameQ (x :: r) = false) := by show _ = false; rw [HQ.out, hq]; rfl
        go_wp2
        go_ret
        rw [HF.out]
        exact ⟨rfl, Below.refl _ _⟩
      | true =>
        go_wp2_with fail
        refine cw.mono ?_
        clear cw
        rintro e w1 ⟨rfl, hb1⟩
        have HB1 : Hid (Below w.heap.size w w1) := hb1
        clear hb1
        cases hw : isWord (x :: r) with
        | true =>
          have HF : Hid (nameQ (x :: r) = false) := by show _ = false; rw [HQ.out, hw]; simp
          go_wp2
          go_ret
          rw [HF.out]
          exact ⟨rfl, HB1.out⟩
        | false =>
          have HQ2 : Hid (nameQ (x :: r) = r.all (fun c => nameN c.toNat)) := by
            show _ = _
            rw [HQ.out, hq, hw, show decide ((x :: r).length ≤ 20) = true from decide_eq_true (by rw [List.length_cons]; omega)]
            simp
          clear hidx0
          go_wp2
          go_loop [3] (fun v => ∃ i : Nat, 1 ≤ i ∧ i ≤ r.length + 1 ∧ v = .int .i64 i ∧ (r.take (i - 1)).all (fun c => nameN c.toNat) = true) (fun v => r.length + 1 - (intOf v).toNat)
          case atStart => exact ⟨1, Nat.le_refl _, by omega, rfl, rfl⟩
          case round =>
            obtain ⟨i, hi1, hi, rfl, hall⟩ := hrel
            have HA : Hid ((r.take (i - 1)).all (fun c => nameN c.toNat) = true) := hall
            clear hall
            by_cases hlt : i < r.length + 1
            · have hidx := HCE.out i (by rw [List.length_cons]; exact hlt)
              have hxi : (x :: r)[i]'(by rw [List.length_cons]; exact hlt) = r[i - 1]'(by omega) := by
                obtain ⟨j, rfl⟩ : ∃ j, i = j + 1 := ⟨i - 1, by omega⟩
                rfl
              rw [hxi] at hidx
              obtain ⟨c, hc⟩ : ∃ c, c = (r[i - 1]'(by omega)).toNat := ⟨_, rfl⟩
              rw [← hc] at hidx
              have hc256 : c < 256 := by rw [hc]; exact UInt8.toNat_lt _
              have HNX : Hid ((r.take i).all (fun c => nameN c.toNat) = nameN c) := by
                show _ = _
                have e9 : r.take i = r.take (i - 1) ++ [r[i - 1]'(by omega)] := by
                  have := List.take_succ_eq_append_getElem (show i - 1 < r.length by omega)
                  rw [show i - 1 + 1 = i by omega] at this
                  exact this
                rw [e9, List.all_append, HA.out, Bool.true_and, hc]
                simp
              have HBAD : Hid (nameN c = false → r.all (fun c => nameN c.toNat) = false) := fun h => by
                rw [Bool.eq_false_iff]
                intro h9
                have := List.all_eq_true.1 h9 (r[i - 1]'(by omega)) (List.getElem_mem _)
                rw [← hc, h] at this; cases this
              have c2 := refLetter_any c w1 hc256
              have c3 := refDigit_any c w1 hc256
              have hi2 : (i : Int) < (r.length : Int) + 1 := by omega
              clear hc hxi
              go_wp2_with fail
              refine c2.mono ?_
              clear c2
              rintro e w3 ⟨rfl, rfl⟩
              cases hq1 : letterN c with
              | true =>
                have HN : Hid ((r.take i).all (fun c => nameN c.toNat) = true) := HNX.out.trans (by simp [nameN, hq1])
                go_wp2
                exact ⟨⟨i + 1, by omega, by omega, by go_num, by rw [Nat.add_sub_cancel]; exact HN.out⟩, by simp [intOf]; omega⟩
              | false =>
                go_wp2_with fail
                refine c3.mono ?_
                clear c3
                rintro e w3 ⟨rfl, rfl⟩
                cases hq2 : digitN c with
                | true =>
                  have HN : Hid ((r.take i).all (fun c => nameN c.toNat) = true) := HNX.out.trans (by simp [nameN, hq2])
                  go_wp2
                  exact ⟨⟨i + 1, by omega, by omega, by go_num, by rw [Nat.add_sub_cancel]; exact HN.out⟩, by simp [intOf]; omega⟩
                | false =>
                  have HF : Hid (nameQ (x :: r) = false) := HQ2.out.trans (HBAD.out (by simp [nameN, hq1, hq2]))
                  go_wp2
                  go_ret
                  rw [HF.out]
                  exact ⟨rfl, HB1.out⟩
            · obtain rfl : i = r.length + 1 := by omega
              have hi2 : ¬ ((r.length : Int) + 1) < (r.length : Int) + 1 := by omega
              have HF : Hid (nameQ (x :: r) = true) := by
                show _ = true
                rw [HQ2.out]
                have := HA.out
                rw [Nat.add_sub_cancel, List.take_length] at this
                exact this
              go_wp2
              go_ret
              rw [HF.out]
              exact ⟨rfl, HB1.out⟩
end Go.Proofs.YtbdgniiafdjmiaaGreatDoor
/- The document's own functions of layer 3: a text in quotes. -/
namespace Go.Proofs.YtbdgniiafdjmiaaGreatDoor
open Go.RowKit Go.Shelf

/-- What is told of a text in quotes at a place. -/
def qV (a : Nat) (R : TR) : Value := .tuple #[.string (strB R.s), .int .i64 ((if R.e = 0 then a + R.sz else 0 : Nat) : Int), .int .i64 R.e]

end Go.Proofs.YtbdgniiafdjmiaaGreatDoor
/- The document's own functions of layer 3: a token at a place. -/
namespace Go.Proofs.YtbdgniiafdjmiaaGreatDoor
open Go.RowKit Go.Shelf

/-- What is told of a token at a place. -/
def rtV (K N' X E : Nat) (s : List UInt8) : Value := .tuple #[.agg #[.int .i64 K, .string (strB s), .int .i64 N', .int .i64 0, .int .i64 0], .int .i64 X, .int .i64 E]
def rtR (a : Nat) (R : TR) (v : Value) : Prop := ∃ (K N' X : Nat) (s : List UInt8), v = rtV K N' X R.e s ∧ (R.e = 0 → K = R.k ∧ s = R.s ∧ N' = R.n ∧ X = a + R.sz)

theorem rtR_ok {a : Nat} {R R' : TR} (h : R = R') : rtR a R (rtV R'.k R'.n (a + R'.sz) R'.e R'.s) := by
  subst h
  exact ⟨_, _, _, _, rfl, fun _ => ⟨rfl, rfl, rfl, rfl⟩⟩
theorem rtR_err {a K X e : Nat} {R : TR} {s : List UInt8} (h : R.e = e) (he : e ≠ 0) : rtR a R (rtV K 0 X e s) := by
  subst h
  exact ⟨_, _, _, _, rfl, fun h => absurd h he⟩

theorem row_at {p : UInt8 → Bool} {l : List UInt8} {a k : Nat} (hk : a + k ≤ l.length) (h1 : ∀ j (h : a + j < l.length), j < k → p l[a + j] = true) (h2 : ∀ h : a + k < l.length, p l[a + k] = false) : ((l.drop a).takeWhile p).length = k := by
  refine row_len p (l.drop a) k (by rw [List.length_drop]; omega) (fun j h hj => ?_) (fun h => ?_)
  · rw [List.getElem_drop]; exact h1 j (by rw [List.length_drop] at h; omega) hj
  · rw [List.getElem_drop]; exact h2 (by rw [List.length_drop] at h; omega)

theorem sub_row {p : UInt8 → Bool} {l : List UInt8} {a k : Nat} (h : ((l.drop a).takeWhile p).length = k) : (l.drop a).take k = (l.drop a).takeWhile p := by
  rw [← h]; exact take_row p _

theorem textF_k : ∀ (f : Nat) (meant : List UInt8) (at0 : Nat) (r : List UInt8), (textF f meant at0 r).e = 0 → (textF f meant at0 r).k = 3 ∧ (textF f meant at0 r).n = 0
  | 0, _, _, _, h => by simp [textF] at h
  | _ + 1, _, _, [], h => by simp [textF] at h
  | f + 1, meant, at0, x :: r, h => by
    unfold textF at h ⊢
    by_cases h1 : x.toNat = 34
    · rw [if_pos h1]; exact ⟨rfl, rfl⟩
    · rw [if_neg h1] at h ⊢
      by_cases h2 : (tbR (x :: r)).2 = 0
      · rw [if_pos h2] at h; simp at h
      · rw [if_neg h2] at h ⊢
        by_cases h3 : meant.length = 255
        · rw [if_pos h3] at h; simp at h
        · rw [if_neg h3] at h ⊢
          exact textF_k f _ _ _ h

end Go.Proofs.YtbdgniiafdjmiaaGreatDoor
/- The document's own functions of layer 3: a text as it is written; a token's text. -/
namespace Go.Proofs.YtbdgniiafdjmiaaGreatDoor
open Go.RowKit Go.Shelf

/-- What is told of a token's text. -/
def ttV (R : List UInt8 × Nat) : Value := .tuple #[.string (strB R.1), .int .i64 R.2]

end Go.Proofs.YtbdgniiafdjmiaaGreatDoor
