/- lex: the document's way of reading a text, byte by byte, comes to the same tokens. -/
import Derived.Test.YtjhfkiighphepaaDoorXRef3
namespace Go.Proofs.YtjhfkiighphepaaDoor
open Go.RowKit

theorem gapN_blank {c : UInt8} (t : List UInt8) (h : blankN c.toNat = true) : gapN (c :: t) = gapN t + 1 := by
  have e : rowN blankN (c :: t) = rowN blankN t + 1 := by
    unfold rowN; rw [List.takeWhile_cons_of_pos (p := fun c : UInt8 => blankN c.toNat) h, List.length_cons]
  rw [gapN_eq, gapN_eq t, e, List.drop_succ_cons]; omega

theorem gapN_rem {r : List UInt8} (h : remB r = true) : gapN r = rowN noEndN r + gapN (r.drop (rowN noEndN r)) := by
  have e : rowN blankN r = 0 := by
    obtain ⟨t, rfl⟩ := remB_form h
    unfold rowN
    rw [List.takeWhile_cons_of_neg (by decide)]
    rfl
  rw [gapN_eq, e, List.drop_zero, Nat.zero_add]
  unfold remN
  rw [if_pos h]

theorem gapN_tok {c : UInt8} {t : List UInt8} (hb : blankN c.toNat = false) (hr : remB (c :: t) = false) : gapN (c :: t) = 0 := by
  have e : rowN blankN (c :: t) = 0 := by
    unfold rowN; rw [List.takeWhile_cons_of_neg (by simp [hb])]; rfl
  rw [gapN_eq, e, List.drop_zero, Nat.zero_add]
  unfold remN
  rw [if_neg (by simp [hr])]

theorem remB_cons {x : UInt8} {r : List UInt8} : remB (x :: r) = (decide (x.toNat = 47) && (match r with | [] => false | y :: _ => decide (y.toNat = 47))) := by
  have key : ∀ y : UInt8, ((47 : UInt8) == y) = decide (y.toNat = 47) := fun y => by
    by_cases h : y = 47
    · subst h; rfl
    · have h9 : y.toNat ≠ 47 := fun e => h (UInt8.toNat_inj.1 e)
      rw [decide_eq_false h9, beq_eq_false_iff_ne]
      exact Ne.symm h
  unfold remB Lib.hasPrefix
  cases r with
  | nil => simp [List.isPrefixOf]
  | cons y r => simp only [List.isPrefixOf]; rw [key, key, Bool.and_true]

theorem count_split (a b : List UInt8) (c : UInt8) : Lib.countByte (a ++ b) c = Lib.countByte a c + Lib.countByte b c := by
  unfold Lib.countByte
  exact List.count_append

theorem scanS_same {l : List UInt8} {line line' a b : Nat} (f : Nat) (hp : placeT l a = placeT l b) (hl : lineT l line a = lineT l line' b) : scanS l f line a = scanS l f line' b := by
  have hn : nextT l a = nextT l b := by
    show tokT (l.drop (placeT l a)) = tokT (l.drop (placeT l b))
    rw [hp]
  have ht : tkT l line a = tkT l line' b := by
    unfold tkT
    rw [hn, hl, hp]
  cases f with
  | zero => rfl
  | succ f =>
    unfold scanS
    rw [hn, ht, hl, hp]

theorem scanS_blank {l : List UInt8} {a : Nat} (f line : Nat) (h : a < l.length) (hb : blankN (l[a]).toNat = true) :
    scanS l f line a = scanS l f (if (l[a]).toNat = 10 then line + 1 else line) (a + 1) := by
  have hd : l.drop a = l[a] :: l.drop (a + 1) := List.drop_eq_getElem_cons h
  have hg : gapN (l.drop a) = gapN (l.drop (a + 1)) + 1 := by rw [hd]; exact gapN_blank _ hb
  refine scanS_same f ?_ ?_
  · unfold placeT; omega
  · unfold lineT
    rw [hg, hd, List.take_succ_cons]
    show line + Lib.countByte ([l[a]] ++ (l.drop (a + 1)).take (gapN (l.drop (a + 1)))) 10 = _
    rw [count_split]
    by_cases h10 : (l[a]).toNat = 10
    · rw [if_pos h10]
      have : l[a] = 10 := UInt8.toNat_inj.1 h10
      rw [this]
      have : Lib.countByte [10] 10 = 1 := by decide
      omega
    · rw [if_neg h10]
      have h9 : l[a] ≠ 10 := fun e => h10 (by rw [e]; rfl)
      have : Lib.countByte [l[a]] 10 = 0 := by
        unfold Lib.countByte
        simp [h9]
      omega

theorem count_row (r : List UInt8) : Lib.countByte (r.take (rowN noEndN r)) 10 = 0 := by
  unfold rowN
  rw [take_row]
  have key : ∀ c ∈ r.takeWhile (fun c => noEndN c.toNat), c ≠ 10 := fun c hc => by
    have := mem_row (p := fun c => noEndN c.toNat) r c hc
    intro e
    rw [e] at this
    exact absurd this (by decide)
  generalize r.takeWhile (fun c => noEndN c.toNat) = x at key
  unfold Lib.countByte
  simp only [List.count_eq_zero]
  intro h
  exact key 10 h rfl

theorem scanS_rem {l : List UInt8} {a : Nat} (f line : Nat) (h : remB (l.drop a) = true) :
    scanS l f line a = scanS l f line (a + rowN noEndN (l.drop a)) := by
  have hg := gapN_rem h
  rw [List.drop_drop] at hg
  refine scanS_same f ?_ ?_
  · unfold placeT; omega
  · unfold lineT
    rw [hg, List.take_add, count_split, count_row, List.drop_drop]
    omega

/-- What stands ahead, and what is read from a place on. -/
def joinS (pre : List Tk) (X : List Tk × Nat × Nat) : List Tk × Nat × Nat := if X.2.2 ≠ 0 then ([], X.2.1, X.2.2) else (pre ++ X.1, 0, 0)

theorem joinS_nil (f : Nat) (l : List UInt8) (line a : Nat) : joinS [] (scanS l f line a) = scanS l f line a := by
  unfold joinS
  cases f with
  | zero => rfl
  | succ f =>
    rw [scanS]
    by_cases he : (nextT l a).e ≠ 0
    · rw [if_pos he, if_pos he]
    · rw [if_neg he]
      by_cases hk : (nextT l a).k = 0
      · rw [if_pos hk]; rfl
      · rw [if_neg hk]
        generalize scanS l f (lineT l line a) (placeT l a + (nextT l a).sz) = A
        by_cases hA : A.2.2 ≠ 0
        · rw [if_pos hA, if_pos hA]
        · rw [if_neg hA]; rfl

/-- At a token. -/
theorem scanS_tok {l : List UInt8} {a : Nat} (f line : Nat) (pre : List Tk) (hg : gapN (l.drop a) = 0) (ha : a < l.length) :
    ((tokT (l.drop a)).e ≠ 0 → joinS pre (scanS l (f + 1) line a) = ([], a, (tokT (l.drop a)).e)) ∧
    ((tokT (l.drop a)).e = 0 → joinS pre (scanS l (f + 1) line a) = joinS (pre ++ [⟨(tokT (l.drop a)).k, (tokT (l.drop a)).s, (tokT (l.drop a)).n, line, a⟩]) (scanS l f line (a + (tokT (l.drop a)).sz)) ∧ 1 ≤ (tokT (l.drop a)).sz ∧ a + (tokT (l.drop a)).sz ≤ l.length) := by
  have hp : placeT l a = a := by unfold placeT; rw [hg]; rfl
  have hn : nextT l a = tokT (l.drop a) := by show tokT (l.drop (placeT l a)) = _; rw [hp]
  have hl : lineT l line a = line := by unfold lineT; rw [hg]; rfl
  have ht : tkT l line a = ⟨(tokT (l.drop a)).k, (tokT (l.drop a)).s, (tokT (l.drop a)).n, line, a⟩ := by unfold tkT; rw [hn, hl, hp]
  constructor
  · intro he
    unfold scanS
    rw [hn, if_pos he, hp]
    unfold joinS
    rw [if_pos he]
  · intro he
    have hz := tokT_sz (l.drop a) he
    have hk : (tokT (l.drop a)).k ≠ 0 := fun hk => by
      have h9 := hz.2.2 hk
      have := congrArg List.length h9
      rw [List.length_drop, List.length_nil] at this
      omega
    refine ⟨?_, hz.2.1 hk, by have := hz.1; rw [List.length_drop] at this; omega⟩
    rw [scanS, hn, if_neg (by simp [he]), if_neg hk, hl, hp, ht]
    generalize scanS l f line (a + (tokT (l.drop a)).sz) = A
    unfold joinS
    by_cases hA : A.2.2 ≠ 0
    · rw [if_pos hA, if_pos hA, if_pos hA]
    · rw [if_neg hA, if_neg (by simp), if_neg hA]
      simp

/-- At the end. -/
theorem scanS_out (l : List UInt8) (f line : Nat) (pre : List Tk) : joinS pre (scanS l (f + 1) line l.length) = (pre ++ [⟨0, [], 0, line, l.length⟩], 0, 0) := by
  have hd : l.drop l.length = [] := List.drop_length
  have hp : placeT l l.length = l.length := by unfold placeT; rw [hd, gapN_nil]; rfl
  have hn : nextT l l.length = ⟨0, [], 0, 0, 0⟩ := by show tokT (l.drop (placeT l l.length)) = _; rw [hp, hd]; rfl
  have hl : lineT l line l.length = line := by unfold lineT; rw [hd, gapN_nil]; rfl
  have ht : tkT l line l.length = ⟨0, [], 0, line, l.length⟩ := by unfold tkT; rw [hn, hl, hp]
  unfold scanS
  rw [hn, if_neg (by simp), if_pos rfl, ht]
  rfl

/-- The document's signs, the longer ones first. -/
def refSigns : List (List UInt8) := [[61, 61], [33, 61], [60, 61], [62, 61], [38, 38], [124, 124], [40], [41], [123], [125], [91], [93], [44], [58], [59], [46], [61], [60], [62], [43], [45], [42], [47], [37], [33]]

theorem pre_same {l x y : List UInt8} (hx : Lib.hasPrefix l x = true) (hy : Lib.hasPrefix l y = true) (h : x.length = y.length) : x = y := by
  unfold Lib.hasPrefix at hx hy
  have h1 := List.prefix_iff_eq_take.1 (List.isPrefixOf_iff_prefix.1 hx)
  have h2 := List.prefix_iff_eq_take.1 (List.isPrefixOf_iff_prefix.1 hy)
  rw [h1, h2, h]

theorem best_key (l : List UInt8) : ∀ (xs : List (List UInt8)) (b : List UInt8), b.length ≤ (xs.foldl (longer l) b).length ∧ (∀ x ∈ xs, Lib.hasPrefix l x = true → x.length ≤ (xs.foldl (longer l) b).length) ∧
    (xs.foldl (longer l) b = b ∨ (xs.foldl (longer l) b ∈ xs ∧ Lib.hasPrefix l (xs.foldl (longer l) b) = true))
  | [], b => ⟨Nat.le_refl _, (fun x h => by cases h), .inl rfl⟩
  | x :: xs, b => by
    rw [List.foldl_cons]
    obtain ⟨i1, i2, i3⟩ := best_key l xs (longer l b x)
    have hb : b.length ≤ (longer l b x).length := by
      unfold longer
      split
      · rename_i h; omega
      · exact Nat.le_refl _
    refine ⟨Nat.le_trans hb i1, fun y hy hp => ?_, ?_⟩
    · rcases List.mem_cons.1 hy with rfl | hy
      · refine Nat.le_trans ?_ i1
        unfold longer
        split
        · exact Nat.le_refl _
        · rename_i h
          rcases Nat.lt_or_ge b.length y.length with h9 | h9
          · exact absurd ⟨h9, hp⟩ h
          · exact h9
      · exact i2 y hy hp
    · rcases i3 with h | ⟨h1, h2⟩
      · rw [h]
        unfold longer
        split
        · rename_i h9; exact .inr ⟨List.mem_cons_self .., h9.2⟩
        · exact .inl rfl
      · exact .inr ⟨List.mem_cons_of_mem _ h1, h2⟩

theorem best_all (l : List UInt8) : (∀ x ∈ signsL, Lib.hasPrefix l x = true → x.length ≤ (bestS l 25).length) ∧ (bestS l 25 = [] ∨ (bestS l 25 ∈ signsL ∧ Lib.hasPrefix l (bestS l 25) = true)) := by
  have h := best_key l signsL []
  have e : bestS l 25 = signsL.foldl (longer l) [] := by unfold bestS; rw [List.take_of_length_le (by decide)]
  rw [e]
  exact h.2

theorem best_hit {l : List UInt8} {i : Nat} (hi : i < refSigns.length) (hno : ∀ x ∈ refSigns.take i, Lib.hasPrefix l x = false) (hp : Lib.hasPrefix l (refSigns[i]'hi) = true) : bestS l 25 = refSigns[i]'hi := by
  obtain ⟨h1, h2⟩ := best_all l
  have m1 : ∀ x ∈ refSigns, x ∈ signsL := by decide
  have m2 : ∀ x ∈ signsL, x ∈ refSigns := by decide
  have m3 : ∀ x ∈ refSigns, 1 ≤ x.length := by decide
  have m4 : ∀ (a : Nat) (ha : a < 25) (b : Nat) (hb : b < 25), a ≤ b → ((refSigns[b]'hb).length ≤ (refSigns[a]'ha).length) := by decide
  have hge := h1 _ (m1 _ (List.getElem_mem hi)) hp
  have hpos := m3 _ (List.getElem_mem hi)
  rcases h2 with h2 | ⟨h2, h3⟩
  · rw [h2, List.length_nil] at hge
    omega
  · obtain ⟨j, hj, he⟩ := List.getElem_of_mem (m2 _ h2)
    have hij : i ≤ j := by
      rcases Nat.lt_or_ge j i with h | h
      · have := hno _ (List.mem_take_iff_getElem.2 ⟨j, by omega, rfl⟩)
        rw [he, h3] at this
        cases this
      · exact h
    have hle := m4 i hi j hj hij
    rw [he] at hle
    exact pre_same h3 hp (Nat.le_antisymm hle hge)

theorem best_none {l : List UInt8} (hno : ∀ x ∈ refSigns, Lib.hasPrefix l x = false) : bestS l 25 = [] := by
  obtain ⟨-, h2⟩ := best_all l
  have m2 : ∀ x ∈ signsL, x ∈ refSigns := by decide
  rcases h2 with h2 | ⟨h2, h3⟩
  · exact h2
  · rw [hno _ (m2 _ h2)] at h3; cases h3
end Go.Proofs.YtjhfkiighphepaaDoor
