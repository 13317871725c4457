/- store: positions that come one after the other. -/
import Derived.Test.YtenckpnkejnfgaaKFirstM
namespace Go.Proofs.Ytenckpnkejnfgaa
open Go.RowKit

theorem atF_all {ps : List Int} {pos : Int} (h : ∀ p ∈ ps, p < pos) : atF ps pos = ps.length ∧ isF ps pos = false := by
  have e : atF ps pos = ps.length := by
    unfold atF
    rw [List.countP_eq_length]
    intro p hp
    simpa using h p hp
  refine ⟨e, ?_⟩
  unfold isF
  rw [e, List.getElem?_eq_none (Nat.le_refl _)]; rfl
theorem with_all {l : List PB} {x : PB} (h : ∀ y ∈ l, y.1 < x.1) : withL l (atF (l.map (·.1)) x.1) (isF (l.map (·.1)) x.1) x = l ++ [x] := by
  obtain ⟨e1, e2⟩ := atF_all (ps := l.map (·.1)) (pos := x.1) (fun p hp => by
    obtain ⟨y, hy, rfl⟩ := List.mem_map.1 hp
    exact h y hy)
  rw [e1, e2]
  unfold withL
  simp
/-- What Put of a greater position leaves. -/
theorem put_last {most : Nat} {l : List PB} {x : PB} (hm : 1 ≤ most) (hl : l.length ≤ most) (h : ∀ y ∈ l, y.1 < x.1) :
    (l.length < most ∧ putF most l x = l ++ [x]) ∨ (l.length = most ∧ most = 1 ∧ putF most l x = l) ∨ (l.length = most ∧ 2 ≤ most ∧ ∃ g, 0 < g ∧ g < l.length ∧ putF most l x = l.eraseIdx g ++ [x]) := by
  have e1 := (atF_all (ps := l.map (·.1)) (pos := x.1) (fun p hp => by
    obtain ⟨y, hy, rfl⟩ := List.mem_map.1 hp
    exact h y hy)).1
  have hw := with_all h
  have e : putF most l x = if (l ++ [x]).length ≤ most then l ++ [x] else (l ++ [x]).eraseIdx (spareP ((l ++ [x]).map (·.1)) l.length) := by
    unfold putF putL
    rw [hw, e1, List.length_map]
  rcases Nat.lt_or_ge l.length most with h1 | h1
  · left
    refine ⟨h1, ?_⟩
    rw [e, if_pos (by simp; omega)]
  · right
    have h2 : l.length = most := by omega
    have hsp := spareP_pos (ps := (l ++ [x]).map (·.1)) (came := l.length) (by simp; omega)
    have hspl : spareP ((l ++ [x]).map (·.1)) l.length ≤ l.length := by
      unfold spareP
      cases hs : spareTo ((l ++ [x]).map (·.1)) l.length ((l ++ [x]).map (·.1)).length with
      | none => simp
      | some g => have := (spareTo_lt hs).1; simp at this; simp; omega
    rw [e, if_neg (by simp; omega)]
    rcases Nat.lt_or_ge 1 most with h3 | h3
    · right
      refine ⟨h2, h3, spareP ((l ++ [x]).map (·.1)) l.length, hsp, ?_, ?_⟩
      · unfold spareP
        cases hs : spareTo ((l ++ [x]).map (·.1)) l.length ((l ++ [x]).map (·.1)).length with
        | none =>
          have := spareTo_none hs 1 (by omega) (by simp; omega)
          omega
        | some g => have := spareTo_lt hs; simp at this; simp; omega
      · have hlt : spareP ((l ++ [x]).map (·.1)) l.length < l.length := by
          unfold spareP
          cases hs : spareTo ((l ++ [x]).map (·.1)) l.length ((l ++ [x]).map (·.1)).length with
          | none =>
            have := spareTo_none hs 1 (by omega) (by simp; omega)
            omega
          | some g => have := spareTo_lt hs; simp at this; simp; omega
        rw [List.eraseIdx_append_of_lt_length hlt]
    · left
      refine ⟨h2, by omega, ?_⟩
      have : spareP ((l ++ [x]).map (·.1)) l.length = l.length := by omega
      rw [this, List.eraseIdx_append_of_length_le (Nat.le_refl _)]
      simp

/-- Behind so many puts, so far apart. -/
structure SpI (b : Int) (may i : Nat) (l : List PB) : Prop where
  len : l.length = min i may
  mul : ∀ x ∈ l, b ∣ x.1
  lt : ∀ x ∈ l, x.1 < (i : Int) * b
  first : 0 < i → leastI l = 0
  last : 1 < may → 0 < i → l.getLast?.map (·.1) = some (((i : Int) - 1) * b)
theorem SpI.start (b : Int) (may : Nat) : SpI b may 0 [] := ⟨by simp, (fun _ h => by cases h), (fun _ h => by cases h), (fun h => absurd h (by omega)), (fun _ h => absurd h (by omega))⟩
theorem leastI_app (l : List PB) (x : PB) (h : l ≠ []) : leastI (l ++ [x]) = leastI l := by
  cases l with
  | nil => exact absurd rfl h
  | cons y t => rfl
theorem SpI.next {b : Int} {may i : Nat} {l : List PB} (H : SpI b may i l) (hb : 0 < b) (hm : 1 ≤ may) (bs : List UInt8) : SpI b may (i + 1) (putF may l ((i : Int) * b, bs)) := by
  have hlen := H.len
  have hlt' : ∀ x : Int, x < (i : Int) * b → x < ((i + 1 : Nat) : Int) * b := fun x h => by
    have : ((i + 1 : Nat) : Int) * b = (i : Int) * b + b := by rw [Int.natCast_add, Int.add_mul]; simp
    omega
  have hnew : (i : Int) * b < ((i + 1 : Nat) : Int) * b := by
    have : ((i + 1 : Nat) : Int) * b = (i : Int) * b + b := by rw [Int.natCast_add, Int.add_mul]; simp
    omega
  have hdv : b ∣ (i : Int) * b := ⟨(i : Int), by rw [Int.mul_comm]⟩
  rcases put_last (x := ((i : Int) * b, bs)) hm (by omega) H.lt with ⟨h1, e⟩ | ⟨h1, h2, e⟩ | ⟨h1, h2, g, h3, h4, e⟩
  · rw [e]
    refine ⟨by simp; omega, fun x hx => ?_, fun x hx => ?_, fun _ => ?_, fun _ _ => by simp⟩
    · rcases List.mem_append.1 hx with h | h
      · exact H.mul x h
      · rw [List.mem_singleton] at h; rw [h]; exact hdv
    · rcases List.mem_append.1 hx with h | h
      · exact hlt' _ (H.lt x h)
      · rw [List.mem_singleton] at h; rw [h]; exact hnew
    · rcases Nat.eq_zero_or_pos i with h | h
      · subst h
        have : l = [] := List.eq_nil_of_length_eq_zero (by omega)
        subst this
        simp [leastI]
      · rw [leastI_app l _ (fun e => by rw [e] at hlen; simp at hlen; omega)]
        exact H.first h
  · rw [e]
    exact ⟨by omega, H.mul, fun x hx => hlt' _ (H.lt x hx), fun _ => H.first (by omega), fun h => absurd h (by omega)⟩
  · rw [e]
    have hne : l.eraseIdx g ≠ [] := fun e => by
      have := congrArg List.length e
      rw [List.length_eraseIdx, if_pos h4] at this
      simp at this; omega
    refine ⟨?_, fun x hx => ?_, fun x hx => ?_, fun _ => ?_, fun _ _ => by simp⟩
    · rw [List.length_append, List.length_eraseIdx, if_pos h4, List.length_singleton]; omega
    · rcases List.mem_append.1 hx with h | h
      · exact H.mul x (List.mem_of_mem_eraseIdx h)
      · rw [List.mem_singleton] at h; rw [h]; exact hdv
    · rcases List.mem_append.1 hx with h | h
      · exact hlt' _ (H.lt x (List.mem_of_mem_eraseIdx h))
      · rw [List.mem_singleton] at h; rw [h]; exact hnew
    · rw [leastI_app _ _ hne, leastI_erase _ _ h3]
      exact H.first (by omega)
end Go.Proofs.Ytenckpnkejnfgaa
