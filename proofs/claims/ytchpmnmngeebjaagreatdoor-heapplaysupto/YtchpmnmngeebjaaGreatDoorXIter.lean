/- lex: the function that iterates over tokens. -/
import Derived.RangeFuncNested
import Derived.RangeFuncBound
import Derived.RangeFuncCalls
import Derived.RangeFuncLeaves
import Derived.RangeFuncBox
import Derived.Lib.Bytealg
import Derived.Shelf.Abstract
import Derived.Shelf.RegionOpen
import Derived.WalkKit
import Derived.OwnWalkIn
import Derived.TacticsInMore
import Derived.LoopNIn
import Derived.LoopIn
import Derived.Maps.AppendAt
import Derived.Test.YtchpmnmngeebjaaGreatDoorXTk
namespace Go.Proofs.YtchpmnmngeebjaaGreatDoor
open Go.RowKit Go.Shelf

attribute [local go_sem] Oper.semAt_some

theorem nameL_pos {x : UInt8} {r : List UInt8} (h : letterN x.toNat = true) : 1 ≤ (nameL (x :: r)).length := by
  unfold nameL; simp [nameN, h]

theorem textF_sz : ∀ (f : Nat) (meant : List UInt8) (at0 : Nat) (r : List UInt8), (textF f meant at0 r).e = 0 → 1 ≤ (textF f meant at0 r).sz ∧ (textF f meant at0 r).sz ≤ at0 + r.length
  | 0, _, _, _, h => by simp [textF] at h
  | _ + 1, _, _, [], h => by simp [textF] at h
  | f + 1, meant, at0, x :: r, h => by
    have htb := (tbR_le (x :: r)).1
    unfold textF at h ⊢
    by_cases h1 : x.toNat = 34
    · rw [if_pos h1]; simp
    · rw [if_neg h1] at h ⊢
      by_cases h2 : (tbR (x :: r)).2 = 0
      · rw [if_pos h2] at h; simp at h
      · rw [if_neg h2] at h ⊢
        by_cases h3 : meant.length = 255
        · rw [if_pos h3] at h; simp at h
        · rw [if_neg h3] at h ⊢
          have := textF_sz f _ _ _ h
          rw [List.length_drop] at this
          omega

theorem bestS_pre (l : List UInt8) : bestS l 25 = [] ∨ Lib.hasPrefix l (bestS l 25) = true := by
  have key : ∀ (xs : List (List UInt8)) (b : List UInt8), (b = [] ∨ Lib.hasPrefix l b = true) → (xs.foldl (longer l) b = [] ∨ Lib.hasPrefix l (xs.foldl (longer l) b) = true) := by
    intro xs
    induction xs with
    | nil => intro b hb; exact hb
    | cons x xs ih =>
      intro b hb
      refine ih _ ?_
      unfold longer
      split
      · rename_i h; exact .inr h.2
      · exact hb
  exact key _ _ (.inl rfl)

theorem pre_len {l x : List UInt8} (h : Lib.hasPrefix l x = true) : x.length ≤ l.length := by
  unfold Lib.hasPrefix at h
  exact (List.isPrefixOf_iff_prefix.1 h).length_le

/-- A token that is one has bytes, but for the end; they are the text's. -/
theorem tokT_sz (l : List UInt8) (he : (tokT l).e = 0) : (tokT l).sz ≤ l.length ∧ ((tokT l).k ≠ 0 → 1 ≤ (tokT l).sz) ∧ ((tokT l).k = 0 → l = []) := by
  cases l with
  | nil => simp [tokT]
  | cons x r =>
    unfold tokT at he ⊢
    simp only at he ⊢
    by_cases h1 : letterN x.toNat = true
    · rw [if_pos h1] at he ⊢
      have hp := nameL_pos (r := r) h1
      have hle := nameL_le (x :: r)
      unfold nameR at he ⊢
      split
      · exact ⟨hle, fun _ => hp, fun h => by simp at h⟩
      · rename_i hw
        rw [if_neg hw] at he
        split
        · rename_i h20; rw [if_pos h20] at he; simp at he
        · exact ⟨hle, fun _ => hp, fun h => by simp at h⟩
    · rw [if_neg h1] at he ⊢
      by_cases h2 : digitN x.toNat = true
      · rw [if_pos h2] at he ⊢
        have hp : 1 ≤ (digL (x :: r)).length := by unfold digL; simp [h2]
        have hle := digL_le (x :: r)
        unfold numT at he ⊢
        split
        · exact ⟨hle, fun _ => hp, fun h => by simp at h⟩
        · rename_i h63; rw [if_neg h63] at he; simp at he
      · rw [if_neg h2] at he ⊢
        by_cases h3 : x.toNat = 34
        · rw [if_pos h3] at he ⊢
          have := textF_sz _ _ _ _ he
          unfold textT
          have hk : ∀ (f : Nat) (m : List UInt8) (a : Nat) (q : List UInt8), (textF f m a q).e = 0 → (textF f m a q).k = 3 := by
            intro f
            induction f with
            | zero => intro m a q h; simp [textF] at h
            | succ f ih =>
              intro m a q h
              cases q with
              | nil => simp [textF] at h
              | cons y q =>
                unfold textF at h ⊢
                split
                · rfl
                · rename_i g1; rw [if_neg g1] at h
                  split
                  · rename_i g2; rw [if_pos g2] at h; simp at h
                  · rename_i g2; rw [if_neg g2] at h
                    split
                    · rename_i g3; rw [if_pos g3] at h; simp at h
                    · rename_i g3; rw [if_neg g3] at h; exact ih _ _ _ h
          have hk3 := hk _ _ _ _ he
          refine ⟨?_, fun _ => this.1, fun h => by rw [hk3] at h; simp at h⟩
          have h9 := this.2
          rw [List.length_drop] at h9
          simp at h9 ⊢
          omega
        · rw [if_neg h3] at he ⊢
          have hp0 := bestS_pre (x :: r)
          unfold signT at he ⊢
          generalize bestS (x :: r) 25 = bb at he hp0 ⊢
          cases bb with
          | nil => simp at he
          | cons y ys =>
            rw [if_neg (by simp)]
            exact ⟨pre_len (hp0.resolve_left (by simp)), fun _ => by simp, fun h => by simp at h⟩

/-- A token, and where it is. -/
structure Tk where
  k : Nat
  s : List UInt8
  n : Nat
  line : Nat
  at0 : Nat

def tokV (t : Tk) : Value := .agg #[.int .i64 t.k, .string (strB t.s), .int .i64 t.n, .int .i64 t.line, .int .i64 t.at0]
/-- What is read next, from a place on; its line; its place. -/
def nextT (l : List UInt8) (at0 : Nat) : TR := tokT (l.drop (at0 + gapN (l.drop at0)))
def lineT (l : List UInt8) (line at0 : Nat) : Nat := line + Lib.countByte ((l.drop at0).take (gapN (l.drop at0))) 10
def placeT (l : List UInt8) (at0 : Nat) : Nat := at0 + gapN (l.drop at0)
def tkT (l : List UInt8) (line at0 : Nat) : Tk := ⟨(nextT l at0).k, (nextT l at0).s, (nextT l at0).n, lineT l line at0, placeT l at0⟩

theorem placeT_le {l : List UInt8} {at0 : Nat} (h : at0 ≤ l.length) : placeT l at0 ≤ l.length := by
  unfold placeT
  have := gapN_le _ (l.drop at0) (Nat.le_refl _)
  rw [List.length_drop] at this
  omega

theorem count_le (l : List UInt8) (c : UInt8) : Lib.countByte l c ≤ l.length := List.count_le_length

end Go.Proofs.YtchpmnmngeebjaaGreatDoor
