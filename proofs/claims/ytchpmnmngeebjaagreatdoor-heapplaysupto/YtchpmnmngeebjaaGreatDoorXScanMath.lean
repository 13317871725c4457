/- lex: the tokens of a text. -/
import Derived.Test.YtchpmnmngeebjaaGreatDoorXIter
namespace Go.Proofs.YtchpmnmngeebjaaGreatDoor
open Go.RowKit

/-- From one place on these tokens are read, up to another. -/
def scanTo (l : List UInt8) : Nat → Nat → List Tk → Nat → Nat → Prop
  | line0, a0, [], line, a => line = line0 ∧ a = a0
  | line0, a0, t :: ts, line, a => (nextT l a0).e = 0 ∧ t = tkT l line0 a0 ∧ scanTo l (lineT l line0 a0) (placeT l a0 + (nextT l a0).sz) ts line a

theorem scanTo_snoc {l : List UInt8} {line a : Nat} (he : (nextT l a).e = 0) : ∀ {ts : List Tk} {line0 a0 : Nat}, scanTo l line0 a0 ts line a →
    scanTo l line0 a0 (ts ++ [tkT l line a]) (lineT l line a) (placeT l a + (nextT l a).sz)
  | [], line0, a0, ⟨h1, h2⟩ => by subst h1; subst h2; exact ⟨he, rfl, rfl, rfl⟩
  | t :: ts, line0, a0, ⟨h1, h2, h3⟩ => ⟨h1, h2, scanTo_snoc he h3⟩

theorem scanTo_last {l : List UInt8} {t : Tk} {line a : Nat} : ∀ {ts : List Tk} {line0 a0 : Nat}, scanTo l line0 a0 (ts ++ [t]) line a →
    ∃ line1 a1, scanTo l line0 a0 ts line1 a1 ∧ (nextT l a1).e = 0 ∧ t = tkT l line1 a1
  | [], line0, a0, h => ⟨line0, a0, ⟨rfl, rfl⟩, h.1, h.2.1⟩
  | _ :: ts, line0, a0, h => by
    obtain ⟨line1, a1, h1, h2, h3⟩ := scanTo_last (ts := ts) h.2.2
    exact ⟨line1, a1, ⟨h.1, h.2.1, h1⟩, h2, h3⟩

/-- The tokens from a place on; or where it is wrong, and what. -/
def scanS (l : List UInt8) : Nat → Nat → Nat → List Tk × Nat × Nat
  | 0, _, _ => ([], 0, 0)
  | f + 1, line, a =>
    if (nextT l a).e ≠ 0 then ([], placeT l a, (nextT l a).e) else if (nextT l a).k = 0 then ([tkT l line a], 0, 0)
    else if (scanS l f (lineT l line a) (placeT l a + (nextT l a).sz)).2.2 ≠ 0 then ([], (scanS l f (lineT l line a) (placeT l a + (nextT l a).sz)).2.1, (scanS l f (lineT l line a) (placeT l a + (nextT l a).sz)).2.2)
    else (tkT l line a :: (scanS l f (lineT l line a) (placeT l a + (nextT l a).sz)).1, 0, 0)
def scanB (l : List UInt8) : List Tk × Nat × Nat := if 4096 < l.length then ([], 0, 5) else scanS l (l.length + 1) 1 0

theorem nextT_move {l : List UInt8} {a : Nat} (ha : a ≤ l.length) (he : (nextT l a).e = 0) (hk : (nextT l a).k ≠ 0) : a < placeT l a + (nextT l a).sz ∧ placeT l a + (nextT l a).sz ≤ l.length := by
  have hp := placeT_le ha
  have hz := tokT_sz (l.drop (a + gapN (l.drop a))) he
  have h1 := hz.2.1 hk
  have h2 := hz.1
  rw [List.length_drop] at h2
  unfold placeT at hp ⊢
  unfold nextT
  omega

theorem scanS_err {l : List UInt8} {line a : Nat} (he : (nextT l a).e ≠ 0) : ∀ (ts : List Tk) (line0 a0 f : Nat), scanTo l line0 a0 ts line a → (∀ t ∈ ts, t.k ≠ 0) → a0 ≤ l.length → l.length < a0 + f →
    scanS l f line0 a0 = ([], placeT l a, (nextT l a).e)
  | [], line0, a0, f, ⟨h1, h2⟩, _, ha, hf => by
    subst h1; subst h2
    obtain ⟨f, rfl⟩ : ∃ g, f = g + 1 := ⟨f - 1, by omega⟩
    unfold scanS; rw [if_pos he]
  | t :: ts, line0, a0, f, ⟨h1, h2, h3⟩, hk, ha, hf => by
    obtain ⟨f, rfl⟩ : ∃ g, f = g + 1 := ⟨f - 1, by omega⟩
    have hk0 : (nextT l a0).k ≠ 0 := by have := hk t (List.mem_cons_self ..); rw [h2] at this; exact this
    have hm := nextT_move ha h1 hk0
    have ih := scanS_err he ts _ _ f h3 (fun t ht => hk t (List.mem_cons_of_mem _ ht)) hm.2 (by omega)
    unfold scanS
    rw [if_neg (by simp [h1]), if_neg hk0, ih, if_pos he]

theorem scanS_end {l : List UInt8} {line a : Nat} (he : (nextT l a).e = 0) (hz : (nextT l a).k = 0) : ∀ (ts : List Tk) (line0 a0 f : Nat), scanTo l line0 a0 ts line a → (∀ t ∈ ts, t.k ≠ 0) → a0 ≤ l.length → l.length < a0 + f →
    scanS l f line0 a0 = (ts ++ [tkT l line a], 0, 0)
  | [], line0, a0, f, ⟨h1, h2⟩, _, ha, hf => by
    subst h1; subst h2
    obtain ⟨f, rfl⟩ : ∃ g, f = g + 1 := ⟨f - 1, by omega⟩
    unfold scanS; rw [if_neg (by simp [he]), if_pos hz]; rfl
  | t :: ts, line0, a0, f, ⟨h1, h2, h3⟩, hk, ha, hf => by
    obtain ⟨f, rfl⟩ : ∃ g, f = g + 1 := ⟨f - 1, by omega⟩
    have hk0 : (nextT l a0).k ≠ 0 := by have := hk t (List.mem_cons_self ..); rw [h2] at this; exact this
    have hm := nextT_move ha h1 hk0
    have ih := scanS_end he hz ts _ _ f h3 (fun t ht => hk t (List.mem_cons_of_mem _ ht)) hm.2 (by omega)
    unfold scanS
    rw [if_neg (by simp [h1]), if_neg hk0, ih, if_neg (by simp), h2]
    rfl

theorem scanTo_len {l : List UInt8} {line a : Nat} : ∀ (ts : List Tk) (line0 a0 : Nat), scanTo l line0 a0 ts line a → (∀ t ∈ ts, t.k ≠ 0) → a0 ≤ l.length → line0 ≤ a0 + 1 → a0 + ts.length ≤ a ∧ a ≤ l.length ∧ line ≤ a + 1
  | [], line0, a0, ⟨h1, h2⟩, _, ha, hl => by subst h1; subst h2; exact ⟨by simp, ha, hl⟩
  | t :: ts, line0, a0, ⟨h1, h2, h3⟩, hk, ha, hl => by
    have hk0 : (nextT l a0).k ≠ 0 := by have := hk t (List.mem_cons_self ..); rw [h2] at this; exact this
    have hm := nextT_move ha h1 hk0
    have hc : lineT l line0 a0 ≤ placeT l a0 + 1 := by
      unfold lineT placeT
      have := count_le ((l.drop a0).take (gapN (l.drop a0))) 10
      have h2 : ((l.drop a0).take (gapN (l.drop a0))).length ≤ gapN (l.drop a0) := List.length_take_le ..
      omega
    have := scanTo_len ts _ _ h3 (fun t ht => hk t (List.mem_cons_of_mem _ ht)) hm.2 (by omega)
    rw [List.length_cons]
    omega

/-- The cells of tokens. -/
def tkCells (ts : List Tk) : List Value := ts.flatMap fun t => [.int .i64 t.k, .string (strB t.s), .int .i64 t.n, .int .i64 t.line, .int .i64 t.at0]
theorem tkCells_len (ts : List Tk) : (tkCells ts).length = ts.length * 5 := by
  induction ts with
  | nil => rfl
  | cons t ts ih => unfold tkCells at ih ⊢; rw [List.flatMap_cons, List.length_append, ih, List.length_cons]; simp; omega
theorem tkCells_append (a b : List Tk) : tkCells (a ++ b) = tkCells a ++ tkCells b := by unfold tkCells; rw [List.flatMap_append]
theorem textF_s : ∀ (f : Nat) (meant : List UInt8) (at0 : Nat) (r : List UInt8), meant.length ≤ 255 → (textF f meant at0 r).s.length ≤ 255
  | 0, _, _, _, _ => by simp [textF]
  | _ + 1, _, _, [], _ => by simp [textF]
  | f + 1, meant, at0, x :: r, h => by
    unfold textF
    split
    · exact h
    · split
      · simp
      · split
        · simp
        · rename_i h3
          exact textF_s f _ _ _ (by rw [List.length_append]; simp; omega)

theorem tokT_s (l : List UInt8) : (tokT l).s.length ≤ l.length + 255 := by
  cases l with
  | nil => simp [tokT]
  | cons x r =>
    unfold tokT
    simp only
    split
    · have := nameL_le (x :: r)
      unfold nameR
      split
      · exact Nat.le_trans this (by omega)
      · split
        · simp
        · exact Nat.le_trans this (by omega)
    · split
      · unfold numT; split <;> exact Nat.zero_le _
      · split
        · have h9 : (textT (x :: r)).s.length ≤ 255 := textF_s (x :: r).length [] 1 ((x :: r).drop 1) (Nat.zero_le _)
          exact Nat.le_trans h9 (Nat.le_add_left 255 _)
        · unfold signT
          have h9 := bestS_len (x :: r) 25
          generalize bestS (x :: r) 25 = bb at h9 ⊢
          split
          · exact Nat.zero_le _
          · have h8 : 2 ≤ (x :: r).length + 255 := Nat.le_trans (by decide) (Nat.le_add_left 255 _)
            exact Nat.le_trans h9 h8
end Go.Proofs.YtchpmnmngeebjaaGreatDoor
