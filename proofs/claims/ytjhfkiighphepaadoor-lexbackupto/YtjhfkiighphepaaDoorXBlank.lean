/- lex: what Scan answers with line ends ahead and a remark behind. -/
import Derived.Test.YtjhfkiighphepaaDoorXBlankMath
namespace Go.Proofs.YtjhfkiighphepaaDoor
open Go.RowKit

theorem takeWhile_in {p : UInt8 → Bool} (z : List UInt8) : ∀ r : List UInt8, (r.takeWhile p).length < r.length → (r ++ z).takeWhile p = r.takeWhile p
  | [], h => by simp at h
  | y :: r, h => by
    rw [List.cons_append]
    by_cases hy : p y = true
    · rw [List.takeWhile_cons_of_pos hy] at h ⊢
      rw [List.takeWhile_cons_of_pos hy, takeWhile_in z r (by simpa using h)]
    · rw [List.takeWhile_cons_of_neg hy, List.takeWhile_cons_of_neg hy]

theorem takeWhile_out {p : UInt8 → Bool} (z : List UInt8) : ∀ r : List UInt8, (r.takeWhile p).length = r.length → (r ++ z).takeWhile p = r ++ z.takeWhile p
  | [], _ => rfl
  | y :: r, h => by
    rw [List.cons_append]
    by_cases hy : p y = true
    · rw [List.takeWhile_cons_of_pos hy] at h ⊢
      rw [takeWhile_out z r (by simpa using h)]; rfl
    · rw [List.takeWhile_cons_of_neg hy] at h; simp at h

theorem takeWhile_every {p : UInt8 → Bool} : ∀ r : List UInt8, (∀ x ∈ r, p x = true) → r.takeWhile p = r
  | [], _ => rfl
  | y :: r, h => by rw [List.takeWhile_cons_of_pos (h y (List.mem_cons_self ..)), takeWhile_every r (fun x hx => h x (List.mem_cons_of_mem _ hx))]

theorem gapN_nil : gapN [] = 0 := by
  rw [gapN_eq]
  rfl

theorem remB_tail (r m : List UInt8) : remB (r ++ 10 :: m) = remB r := pre_tail (by decide) r m

/-- A remark on a line of its own behind: what stands ahead of the next token. -/
theorem gapN_tail {more : List UInt8} (hm : (10 : UInt8) ∉ more) : ∀ (k : Nat) (r : List UInt8), r.length ≤ k →
    gapN (r ++ 10 :: 47 :: 47 :: more) = if gapN r < r.length then gapN r else r.length + (3 + more.length)
  | k, r, hk => by
    have hle := rowN_le blankN r
    by_cases hb : rowN blankN r < r.length
    · have e1 : rowN blankN (r ++ 10 :: 47 :: 47 :: more) = rowN blankN r := by
        unfold rowN at hb ⊢
        rw [takeWhile_in _ _ hb]
      obtain ⟨r1, hr1⟩ : ∃ r1, r1 = r.drop (rowN blankN r) := ⟨_, rfl⟩
      have e2 : (r ++ 10 :: 47 :: 47 :: more).drop (rowN blankN r) = r1 ++ 10 :: 47 :: 47 :: more := by
        rw [hr1, List.drop_append_of_le_length hle]
      have l1 : r1.length = r.length - rowN blankN r := by rw [hr1, List.length_drop]
      rw [gapN_eq, gapN_eq r, e1, e2, ← hr1]
      unfold remN
      rw [remB_tail]
      by_cases hr : remB r1 = true
      · rw [if_pos hr, if_pos hr]
        have e3 : rowN noEndN (r1 ++ 10 :: 47 :: 47 :: more) = rowN noEndN r1 := by
          unfold rowN
          rw [takeWhile_tail (by decide)]
        have h2 := remB_row hr
        have h3 := rowN_le noEndN r1
        rw [e3, List.drop_append_of_le_length h3]
        obtain ⟨r2, hr2⟩ : ∃ r2, r2 = r1.drop (rowN noEndN r1) := ⟨_, rfl⟩
        have l2 : r2.length = r1.length - rowN noEndN r1 := by rw [hr2, List.length_drop]
        rw [← hr2]
        obtain ⟨k, rfl⟩ : ∃ k', k = k' + 1 := ⟨k - 1, by omega⟩
        rw [gapN_tail hm k r2 (by omega)]
        by_cases hg : gapN r2 < r2.length
        · rw [if_pos hg, if_pos (by omega)]
        · have := gapN_le _ r2 (Nat.le_refl _)
          rw [if_neg hg, if_neg (by omega)]
          omega
      · rw [if_neg hr, if_neg hr, if_pos (by omega)]
    · have e0 : rowN blankN r = r.length := by omega
      have e1 : rowN blankN (r ++ 10 :: 47 :: 47 :: more) = r.length + 1 := by
        unfold rowN at e0 ⊢
        rw [takeWhile_out _ _ e0, List.length_append, List.takeWhile_cons_of_pos (by decide), List.takeWhile_cons_of_neg (by decide)]
        rfl
      have e2 : (r ++ 10 :: 47 :: 47 :: more).drop (r.length + 1) = 47 :: 47 :: more := by
        rw [List.drop_append, List.drop_of_length_le (by omega)]
        simp
      have e3 : rowN noEndN (47 :: 47 :: more) = 2 + more.length := by
        unfold rowN
        rw [List.takeWhile_cons_of_pos (by decide), List.takeWhile_cons_of_pos (by decide), takeWhile_every more (fun x hx => by
          have : x ≠ 10 := fun e => hm (e ▸ hx)
          have h9 : x.toNat ≠ 10 := fun e => this (UInt8.toNat_inj.1 e)
          simp [noEndN, h9])]
        simp; omega
      have e4 : gapN r = r.length := by
        rw [gapN_eq, e0, List.drop_of_length_le (Nat.le_refl _)]
        rfl
      rw [gapN_eq, e1, e2, e4, if_neg (by omega)]
      unfold remN
      rw [if_pos (by rfl), e3, List.drop_of_length_le (by simp; omega), gapN_nil]
      omega

theorem rowN_ends (n : Nat) (r : List UInt8) : rowN blankN (List.replicate n 10 ++ r) = n + rowN blankN r := by
  unfold rowN
  rw [takeWhile_out _ _ (by rw [takeWhile_every _ (fun x hx => by rw [(List.mem_replicate.1 hx).2]; decide)]), List.length_append, List.length_replicate]

theorem gapN_ends (n : Nat) (r : List UInt8) : gapN (List.replicate n 10 ++ r) = n + gapN r := by
  rw [gapN_eq, gapN_eq r, rowN_ends, List.drop_append, List.drop_of_length_le (by simp), List.nil_append, List.length_replicate, Nat.add_sub_cancel_left, Nat.add_assoc]
end Go.Proofs.YtjhfkiighphepaaDoor
