/- store: what Put leaves of positions that rise. -/
import Derived.Test.YtancnmbgncofiaaKLives2
namespace Go.Proofs.Ytancnmbgncofiaa
open Go.RowKit

theorem StX.rise {N : Nat} {w : World} {most : Nat} {l : List PB} {h : Nat} {vk : Value} (H : StX N w most l h vk) : (l.map (·.1)).Pairwise (· < ·) := by
  obtain ⟨ks, rfl, hs⟩ := H.st
  rw [prK_fst]
  exact List.pairwise_map.2 hs.rise
theorem StX.most1 {N : Nat} {w : World} {most : Nat} {l : List PB} {h : Nat} {vk : Value} (H : StX N w most l h vk) : 1 ≤ most ∧ most ≤ 64 := by
  obtain ⟨ks, rfl, hs⟩ := H.st
  exact ⟨hs.m1, hs.m64⟩
theorem StX.pos {N : Nat} {w : World} {most : Nat} {l : List PB} {h : Nat} {vk : Value} (H : StX N w most l h vk) : ∀ x ∈ l, 0 ≤ x.1 ∧ x.1 ≤ 9223372036854775807 := by
  obtain ⟨ks, rfl, hs⟩ := H.st
  intro x hx
  obtain ⟨k, hk, rfl⟩ := List.mem_map.1 hx
  exact (hs.its k hk).2.2

theorem atF_at {ps : List Int} (hr : ps.Pairwise (· < ·)) (pos : Int) : AtL ps pos (atF ps pos) (isF ps pos) := by
  have key : ∀ (ps : List Int), ps.Pairwise (· < ·) → ∃ at0, at0 ≤ ps.length ∧ (∀ i (h : i < ps.length), i < at0 → ps[i] < pos) ∧ (∀ i (h : i < ps.length), at0 ≤ i → pos ≤ ps[i]) := by
    intro ps
    induction ps with
    | nil => intro _; exact ⟨0, Nat.le_refl _, fun i h => absurd h (by simp), fun i h => absurd h (by simp)⟩
    | cons a t ih =>
      intro hr
      have hr' := List.pairwise_cons.1 hr
      by_cases h : a < pos
      · obtain ⟨k, h1, h2, h3⟩ := ih hr'.2
        refine ⟨k + 1, by simpa using h1, fun i hi hk => ?_, fun i hi hk => ?_⟩
        · cases i with
          | zero => exact h
          | succ i => exact h2 i (by simpa using hi) (by omega)
        · cases i with
          | zero => omega
          | succ i => exact h3 i (by simpa using hi) (by omega)
      · refine ⟨0, Nat.zero_le _, fun i hi hk => absurd hk (by omega), fun i hi _ => ?_⟩
        cases i with
        | zero => simp only [List.getElem_cons_zero]; omega
        | succ i =>
          have hit : i < t.length := by simpa using hi
          have := hr'.1 t[i] (List.getElem_mem hit)
          simp only [List.getElem_cons_succ]; omega
  obtain ⟨k, h1, h2, h3⟩ := key ps hr
  have H : AtL ps pos k (decide (ps[k]? = some pos)) := ⟨h1, h2, h3, by
    rw [decide_eq_true_iff]
    constructor
    · intro h
      obtain ⟨h4, h5⟩ := List.getElem?_eq_some_iff.1 h
      exact ⟨h4, h5⟩
    · rintro ⟨h4, h5⟩
      rw [List.getElem?_eq_getElem h4, h5]⟩
  have e := H.eq
  rw [← e.1, ← e.2]
  exact H

theorem spareTo_none {ps : List Int} {came : Nat} : ∀ {m : Nat}, spareTo ps came m = none → ∀ i, 0 < i → i < m → i = came
  | 0, _, i, _, hi => by omega
  | m + 1, h, i, h0, hi => by
    unfold spareTo at h
    split at h
    · cases h
    · rename_i hn
      rcases Nat.lt_or_ge i m with h1 | h1
      · exact spareTo_none h i h0 h1
      · obtain rfl : i = m := by omega
        by_cases hc : i = came
        · exact hc
        · exact absurd ⟨by omega, hc, fun g hg => by rw [h] at hg; cases hg⟩ hn
/-- The one that goes is not the least. -/
theorem spareP_pos {ps : List Int} {came : Nat} (h2 : 2 ≤ ps.length) : 0 < spareP ps came := by
  unfold spareP
  cases hs : spareTo ps came ps.length with
  | none =>
    have := spareTo_none hs 1 (by omega) (by omega)
    simp only [Option.getD_none]; omega
  | some g => have := (spareTo_lt hs).2.1; simp only [Option.getD_some]; omega

/-- The least position, or -1. -/
def leastI (l : List PB) : Int := match l with
  | [] => -1
  | x :: _ => x.1
theorem leastI_erase (l : List PB) (i : Nat) (h : 0 < i) : leastI (l.eraseIdx i) = leastI l := by
  cases l with
  | nil => rfl
  | cons x t =>
    obtain ⟨j, rfl⟩ : ∃ j, i = j + 1 := ⟨i - 1, by omega⟩
    rfl
theorem leastI_with {l : List PB} (hr : (l.map (·.1)).Pairwise (· < ·)) (hp : ∀ x ∈ l, 0 ≤ x.1) (x : PB) :
    leastI (withL l (atF (l.map (·.1)) x.1) (isF (l.map (·.1)) x.1) x) = if leastI l < 0 ∨ x.1 < leastI l then x.1 else leastI l := by
  have ha := atF_at hr x.1
  generalize atF (l.map (·.1)) x.1 = k at ha ⊢
  generalize isF (l.map (·.1)) x.1 = b at ha ⊢
  unfold withL
  cases l with
  | nil =>
    cases b with
    | false => simp [leastI]
    | true => obtain ⟨h, _⟩ := ha.is.1 rfl; simp at h
  | cons y t =>
    have hy := hp y (by simp)
    have e : leastI (y :: t) = y.1 := rfl
    rw [e]
    cases k with
    | zero =>
      have h1 := ha.hi 0 (by simp) (Nat.le_refl _)
      simp only [List.map_cons, List.getElem_cons_zero] at h1
      cases b with
      | true =>
        obtain ⟨_, h2⟩ := ha.is.1 rfl
        simp only [List.map_cons, List.getElem_cons_zero] at h2
        simp only [if_true, List.set_cons_zero, leastI]
        split <;> omega
      | false =>
        have h2 : ¬ y.1 = x.1 := fun e => by
          have := ha.is.2 ⟨by simp, by simpa using e⟩
          cases this
        simp only [Bool.false_eq_true, if_false, List.take_zero, List.nil_append, leastI]
        split <;> omega
    | succ k =>
      have h1 := ha.lo 0 (by simp) (by omega)
      simp only [List.map_cons, List.getElem_cons_zero] at h1
      have e2 : leastI (if b = true then (y :: t).set (k + 1) x else (y :: t).take (k + 1) ++ x :: (y :: t).drop (k + 1)) = y.1 := by
        cases b <;> rfl
      rw [e2, if_neg (by omega)]
theorem leastI_put {most : Nat} {l : List PB} (hm : 1 ≤ most) (hr : (l.map (·.1)).Pairwise (· < ·)) (hp : ∀ x ∈ l, 0 ≤ x.1) (x : PB) :
    leastI (putF most l x) = if leastI l < 0 ∨ x.1 < leastI l then x.1 else leastI l := by
  unfold putF putL
  split
  · exact leastI_with hr hp x
  · rename_i hn
    rw [leastI_erase _ _ (spareP_pos (by rw [List.length_map]; omega))]
    exact leastI_with hr hp x
end Go.Proofs.Ytancnmbgncofiaa
