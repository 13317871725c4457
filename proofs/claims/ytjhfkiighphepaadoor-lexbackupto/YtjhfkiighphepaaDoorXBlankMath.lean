/- lex: line ends ahead, a remark behind. -/
import Derived.Test.YtjhfkiighphepaaDoorXConc
namespace Go.Proofs.YtjhfkiighphepaaDoor
open Go.RowKit

theorem takeWhile_tail {p : UInt8 → Bool} {x : UInt8} (hx : p x = false) (m : List UInt8) : ∀ r : List UInt8, (r ++ x :: m).takeWhile p = r.takeWhile p
  | [] => by simp [hx]
  | y :: r => by
    rw [List.cons_append]
    by_cases h : p y = true
    · rw [List.takeWhile_cons_of_pos h, List.takeWhile_cons_of_pos h, takeWhile_tail hx m r]
    · rw [List.takeWhile_cons_of_neg h, List.takeWhile_cons_of_neg h]

theorem nameR_tail (r m : List UInt8) : nameR (r ++ 10 :: m) = nameR r := by
  have : nameL (r ++ 10 :: m) = nameL r := takeWhile_tail (by decide) m r
  unfold nameR
  rw [this]

theorem numT_tail (r m : List UInt8) : numT (r ++ 10 :: m) = numT r := by
  have : digL (r ++ 10 :: m) = digL r := takeWhile_tail (by decide) m r
  unfold numT
  rw [this]

theorem pre_tail {x : List UInt8} (hx : (10 : UInt8) ∉ x) (r m : List UInt8) : Lib.hasPrefix (r ++ 10 :: m) x = Lib.hasPrefix r x := by
  unfold Lib.hasPrefix
  induction x generalizing r with
  | nil => simp
  | cons y x ih =>
    have hy : (10 : UInt8) ≠ y := fun e => hx (by rw [e]; exact List.mem_cons_self ..)
    have hx' : (10 : UInt8) ∉ x := fun h => hx (List.mem_cons_of_mem _ h)
    cases r with
    | nil =>
      show (y == (10 : UInt8) && x.isPrefixOf m) = false
      rw [beq_false_of_ne (Ne.symm hy)]
      rfl
    | cons z r =>
      have := ih hx' r
      simp only [List.cons_append, List.isPrefixOf] at this ⊢
      rw [this]

theorem signT_tail (r m : List UInt8) : signT (r ++ 10 :: m) = signT r := by
  have key : ∀ (xs : List (List UInt8)) (b : List UInt8), (∀ x ∈ xs, (10 : UInt8) ∉ x) → xs.foldl (longer (r ++ 10 :: m)) b = xs.foldl (longer r) b := by
    intro xs
    induction xs with
    | nil => intro b _; rfl
    | cons x xs ih =>
      intro b h
      have h1 : longer (r ++ 10 :: m) b x = longer r b x := by
        unfold longer
        rw [pre_tail (h x (List.mem_cons_self ..)) r m]
      rw [List.foldl_cons, List.foldl_cons, h1, ih _ (fun y hy => h y (List.mem_cons_of_mem _ hy))]
  have : bestS (r ++ 10 :: m) 25 = bestS r 25 := key _ _ (fun x hx => by
    have := List.mem_of_mem_take hx
    revert this x
    decide)
  unfold signT
  rw [this]

theorem tbR_tail (x : UInt8) (r m : List UInt8) : tbR (x :: r ++ 10 :: m) = tbR (x :: r) := by
  rw [List.cons_append]
  by_cases h : x.toNat < 32 ∨ 126 < x.toNat
  · rw [tbR_bad h, tbR_bad h]
  · by_cases h2 : x.toNat = 92
    · cases r with
      | nil =>
        rw [tbR_end h h2, List.nil_append, tbR_two h h2]
        decide
      | cons y r => rw [List.cons_append, tbR_two h h2, tbR_two h h2]
    · rw [tbR_one h h2, tbR_one h h2]

theorem textF_tail (m : List UInt8) : ∀ (f f' : Nat) (meant : List UInt8) (at0 : Nat) (r : List UInt8), r.length ≤ f → r.length ≤ f' → textF f' meant at0 (r ++ 10 :: m) = textF f meant at0 r
  | f, f', meant, at0, [], _, _ => by
    have h1 : textF f meant at0 [] = ⟨0, [], 0, 0, 6⟩ := by cases f <;> rfl
    rw [h1, List.nil_append]
    cases f' with
    | zero => rfl
    | succ f' =>
      unfold textF
      rw [if_neg (by decide), tbR_bad (.inl (by decide)), if_pos rfl]
  | 0, _, _, _, _ :: _, h, _ => by simp at h
  | _ + 1, 0, _, _, _ :: _, _, h => by simp at h
  | f + 1, f' + 1, meant, at0, x :: r, h, h' => by
    have ht := tbR_tail x r m
    have hle := (tbR_le (x :: r)).1
    rw [List.cons_append] at ht ⊢
    unfold textF
    rw [ht]
    by_cases c1 : x.toNat = 34
    · rw [if_pos c1, if_pos c1]
    · rw [if_neg c1, if_neg c1]
      by_cases c2 : (tbR (x :: r)).2 = 0
      · rw [if_pos c2, if_pos c2]
      · rw [if_neg c2, if_neg c2]
        by_cases c3 : meant.length = 255
        · rw [if_pos c3, if_pos c3]
        · rw [if_neg c3, if_neg c3, ← List.cons_append, List.drop_append_of_le_length hle]
          rw [List.length_cons] at h h'
          exact textF_tail m f f' _ _ _ (by rw [List.length_drop, List.length_cons]; omega) (by rw [List.length_drop, List.length_cons]; omega)

/-- A line's end behind it changes no token. -/
theorem tokT_tail {r : List UInt8} (hr : r ≠ []) (m : List UInt8) : tokT (r ++ 10 :: m) = tokT r := by
  cases r with
  | nil => exact absurd rfl hr
  | cons x r =>
    have h1 := nameR_tail (x :: r) m
    have h2 := numT_tail (x :: r) m
    have h3 := signT_tail (x :: r) m
    have h4 : textT (x :: r ++ 10 :: m) = textT (x :: r) := by
      unfold textT
      exact textF_tail m _ _ _ _ r (by simp) (by simp; omega)
    rw [List.cons_append] at h1 h2 h3 h4 ⊢
    unfold tokT
    simp only
    rw [h1, h2, h3, h4]
end Go.Proofs.YtjhfkiighphepaaDoor
