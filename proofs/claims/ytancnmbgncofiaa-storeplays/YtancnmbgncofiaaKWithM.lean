/- store: what the document's own 'with' and Put make, as mathematics. -/
import Derived.Test.YtancnmbgncofiaaKFirstM
namespace Go.Proofs.Ytancnmbgncofiaa
open Go.RowKit

/-- How many of those at the place are left out. -/
def isN (is : Bool) : Nat := if is then 1 else 0
/-- What 'with' has laid behind i rounds. -/
def wOut (l : List PB) (at0 : Nat) (is : Bool) (x : PB) (i : Nat) : List PB :=
  if i ≤ at0 then l.take i else l.take at0 ++ x :: (l.take i).drop (at0 + isN is)
theorem wOut_lo {l : List PB} {at0 : Nat} {is : Bool} {x : PB} {i : Nat} (h : i < at0) (hi : i < l.length) : wOut l at0 is x (i + 1) = wOut l at0 is x i ++ [l[i]] := by
  unfold wOut
  rw [if_pos (by omega), if_pos (by omega), List.take_succ_eq_append_getElem hi]
theorem wOut_is {l : List PB} {at0 : Nat} {x : PB} : wOut l at0 true x (at0 + 1) = wOut l at0 true x at0 ++ [x] := by
  unfold wOut isN
  rw [if_neg (by omega), if_pos (Nat.le_refl _), List.drop_eq_nil_of_le (by rw [List.length_take]; simp; omega)]
theorem wOut_no {l : List PB} {at0 : Nat} {x : PB} (h : at0 < l.length) : wOut l at0 false x (at0 + 1) = (wOut l at0 false x at0 ++ [x]) ++ [l[at0]] := by
  unfold wOut isN
  rw [if_neg (by omega), if_pos (Nat.le_refl _)]
  have e : (l.take (at0 + 1)).drop (at0 + 0) = [l[at0]] := by
    rw [Nat.add_zero, List.take_succ_eq_append_getElem h, List.drop_append]
    simp [List.length_take, Nat.min_eq_left (Nat.le_of_lt h)]
  simp only [Bool.false_eq_true, if_false]
  rw [e]; simp
theorem wOut_hi {l : List PB} {at0 : Nat} {is : Bool} {x : PB} {i : Nat} (h : at0 < i) (hi : i < l.length) : wOut l at0 is x (i + 1) = wOut l at0 is x i ++ [l[i]] := by
  have hn : isN is ≤ 1 := by unfold isN; split <;> omega
  unfold wOut
  rw [if_neg (by omega), if_neg (by omega), List.take_succ_eq_append_getElem hi, List.drop_append]
  have e : at0 + isN is - (l.take i).length = 0 := by rw [List.length_take, Nat.min_eq_left (by omega)]; omega
  rw [e]; simp
theorem wOut_end {l : List PB} {at0 : Nat} {is : Bool} {x : PB} (h : at0 < l.length) : wOut l at0 is x l.length = withL l at0 is x := by
  unfold wOut withL isN
  rw [if_neg (by omega), List.take_length]
  cases is with
  | false => simp
  | true => simp only [if_true]; rw [List.set_eq_take_append_cons_drop, if_pos h]
theorem wOut_all {l : List PB} {x : PB} : wOut l l.length false x l.length ++ [x] = withL l l.length false x := by
  unfold wOut withL
  rw [if_pos (Nat.le_refl _)]; simp
theorem wOut_len {l : List PB} {at0 : Nat} {is : Bool} {x : PB} {i : Nat} : (wOut l at0 is x i).length ≤ i + 1 := by
  unfold wOut
  split
  · rw [List.length_take]; omega
  · rw [List.length_append, List.length_cons, List.length_drop, List.length_take, List.length_take]; omega
theorem wOut_zero {l : List PB} {at0 : Nat} {is : Bool} {x : PB} : wOut l at0 is x 0 = [] := by unfold wOut; simp

theorem withL_len {l : List PB} {at0 : Nat} {is : Bool} {x : PB} : (withL l at0 is x).length ≤ l.length + 1 := by
  unfold withL
  split
  · simp
  · simp; omega
/-- What came stands at its place. -/
theorem withL_at {l : List PB} {x : PB} {at0 : Nat} {is : Bool} (h : AtL (l.map (·.1)) x.1 at0 is) : ∃ h1 : at0 < (withL l at0 is x).length, (withL l at0 is x)[at0] = x := by
  have hle : at0 ≤ l.length := by simpa using h.le
  cases is with
  | true =>
    obtain ⟨h1, _⟩ := h.is.1 rfl
    have h2 : at0 < l.length := by simpa using h1
    exact ⟨by unfold withL; simpa using h2, by unfold withL; simp⟩
  | false =>
    refine ⟨by unfold withL; simp; omega, ?_⟩
    unfold withL
    simp only [Bool.false_eq_true, if_false]
    rw [List.getElem_append_right (by simp; omega)]
    simp [List.length_take, Nat.min_eq_left hle]
theorem withL_rise {l : List PB} {x : PB} {at0 : Nat} {is : Bool} (hr : (l.map (·.1)).Pairwise (· < ·)) (h : AtL (l.map (·.1)) x.1 at0 is) : ((withL l at0 is x).map (·.1)).Pairwise (· < ·) := by
  have hr' : l.Pairwise fun a b => a.1 < b.1 := List.pairwise_map.1 hr
  refine List.pairwise_map.2 ?_
  cases is with
  | true =>
    obtain ⟨h1, h2⟩ := h.is.1 rfl
    have h3 : at0 < l.length := by simpa using h1
    have e : (l.set at0 x).map (·.1) = l.map (·.1) := by
      rw [List.map_set, ← h2]
      exact List.set_getElem_self _
    unfold withL
    rw [if_pos rfl]
    refine List.pairwise_map.1 ?_
    rw [e]; exact hr
  | false =>
    unfold withL
    simp only [Bool.false_eq_true, if_false]
    have hlo : ∀ a ∈ l.take at0, a.1 < x.1 := fun a ha => by
      obtain ⟨i, hi, rfl⟩ := List.getElem_of_mem ha
      rw [List.length_take] at hi
      rw [List.getElem_take]
      have := h.lo i (by simp; omega) (by omega)
      simpa using this
    have hhi : ∀ b ∈ l.drop at0, x.1 < b.1 := fun b hb => by
      obtain ⟨i, hi, rfl⟩ := List.getElem_of_mem hb
      rw [List.length_drop] at hi
      rw [List.getElem_drop]
      have h1 := h.hi (at0 + i) (by simp; omega) (by omega)
      simp only [List.getElem_map] at h1
      have h2 : at0 < l.length := by omega
      have h3 : ¬ (l[at0]).1 = x.1 := fun e => by
        have := h.is.2 ⟨by simpa using h2, by simpa using e⟩
        cases this
      have h4 := h.hi at0 (by simpa using h2) (Nat.le_refl _)
      simp only [List.getElem_map] at h4
      rcases Nat.eq_zero_or_pos i with rfl | hp
      · simp only [Nat.add_zero] at h1 ⊢; omega
      · have := List.pairwise_iff_getElem.1 hr' at0 (at0 + i) h2 (by omega) (by omega); omega
    refine List.pairwise_append.2 ⟨hr'.sublist (List.take_sublist _ _), List.pairwise_cons.2 ⟨hhi, hr'.sublist (List.drop_sublist _ _)⟩, fun a ha b hb => ?_⟩
    rcases List.mem_cons.1 hb with rfl | hb
    · exact hlo a ha
    · exact Int.lt_trans (hlo a ha) (hhi b hb)
theorem rise_eq {ps : List Int} (hr : ps.Pairwise (· < ·)) {i j : Nat} (hi : i < ps.length) (hj : j < ps.length) : ps[i] = ps[j] ↔ i = j := by
  constructor
  · intro e
    rcases Nat.lt_trichotomy i j with h | h | h
    · have := List.pairwise_iff_getElem.1 hr i j hi hj h; omega
    · exact h
    · have := List.pairwise_iff_getElem.1 hr j i hj hi h; omega
  · rintro rfl; rfl

/-- The number of the one that would go, or -1. -/
def goesI (o : Option Nat) : Int := match o with
  | none => -1
  | some g => (g : Int)
/-- How near it is. -/
def nearI (ps : List Int) (o : Option Nat) : Int := match o with
  | none => 0
  | some g => gapP ps g
/-- All but one, up to i. -/
def cOut (l : List PB) (k i : Nat) : List PB := (l.take i).eraseIdx k
theorem cOut_zero (l : List PB) (k : Nat) : cOut l k 0 = [] := by simp [cOut]
theorem cOut_end (l : List PB) (k : Nat) : cOut l k l.length = l.eraseIdx k := by simp [cOut]
theorem cOut_skip {l : List PB} {k : Nat} (h : k < l.length) : cOut l k (k + 1) = cOut l k k := by
  unfold cOut
  rw [List.take_succ_eq_append_getElem h, List.eraseIdx_append_of_length_le (by rw [List.length_take]; omega), List.length_take, Nat.min_eq_left (Nat.le_of_lt h), Nat.sub_self]
  have e : (l.take k).eraseIdx k = l.take k := List.eraseIdx_of_length_le (by rw [List.length_take]; omega)
  rw [e]; simp
theorem cOut_take {l : List PB} {k i : Nat} (h : i < l.length) (hk : i ≠ k) : cOut l k (i + 1) = cOut l k i ++ [l[i]] := by
  unfold cOut
  rw [List.take_succ_eq_append_getElem h]
  rcases Nat.lt_or_ge k i with h1 | h1
  · rw [List.eraseIdx_append_of_lt_length (by rw [List.length_take]; omega)]
  · rw [List.eraseIdx_of_length_le (by rw [List.length_append, List.length_take]; simp; omega), List.eraseIdx_of_length_le (by rw [List.length_take]; omega)]
theorem cOut_len {l : List PB} {k i : Nat} : (cOut l k i).length ≤ i := by
  unfold cOut
  rw [List.length_eraseIdx, List.length_take]
  split <;> omega
end Go.Proofs.Ytancnmbgncofiaa
