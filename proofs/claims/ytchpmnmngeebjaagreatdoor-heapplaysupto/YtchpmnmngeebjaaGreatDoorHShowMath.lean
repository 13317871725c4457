/- heap: what is shown is something, and not too long. -/
import Derived.Test.YtchpmnmngeebjaaGreatDoorHShow2
namespace Go.Proofs.YtchpmnmngeebjaaGreatDoor
open Go.RowKit Go.Shelf

theorem hdec_all (u : Nat) : ∀ c ∈ Lib.decDigits u, digitN c.toNat = true := by
  induction u using Nat.strongRecOn with
  | _ u ih =>
    have key : ∀ d : Nat, d < 10 → digitN (UInt8.ofNat (48 + d)).toNat = true := by decide
    intro c hc
    rw [Lib.decDigits] at hc
    by_cases h : u < 10
    · rw [dif_pos h, List.mem_singleton] at hc
      rw [hc]; exact key u h
    · rw [dif_neg h, List.mem_append, List.mem_singleton] at hc
      rcases hc with hc | hc
      · exact ih (u / 10) (by omega) c hc
      · rw [hc]; exact key (u % 10) (by omega)

theorem hdec_ne (u : Nat) : Lib.decDigits u ≠ [] := by
  intro h
  have := congrArg List.length h
  rw [Lib.decDigits_length, List.length_nil] at this
  have := Lib.nDigits_pos u
  omega

theorem itoa_cons (n : Int) : ∃ c t, Lib.itoa n = c :: t ∧ (c = 45 ↔ n < 0) := by
  unfold Lib.itoa
  split
  · rename_i h
    exact ⟨45, _, rfl, by simp [h]⟩
  · rename_i h
    cases hd : Lib.decDigits n.toNat with
    | nil => exact absurd hd (hdec_ne _)
    | cons c t =>
      refine ⟨c, t, rfl, ?_⟩
      have hc := hdec_all n.toNat c (by rw [hd]; exact List.mem_cons_self)
      constructor
      · intro e
        subst e
        simp [digitN] at hc
      · intro e; exact absurd e h

theorem itoa_len (n : Int) (h0 : -9223372036854775808 ≤ n) (h1 : n ≤ 9223372036854775807) : (Lib.itoa n).length ≤ 30 := by
  have := wrB_len 2 n [] h0 h1
  rw [show wrB 2 n [] = Lib.itoa n from rfl] at this
  simpa using this

theorem obT_ne (f : Vl → List UInt8) (o : Ob) : obT f o ≠ [] := by
  unfold obT
  intro e
  have := congrArg List.length e
  simp only [List.length_append, List.length_nil] at this
  split at this <;> simp at this

theorem txtV_ne {os : List Ob} {v : Vl} {d : Nat} (h : rightV v os.length = true) : txtV os d v ≠ [] := by
  rw [txtV_leaf]
  obtain ⟨k, n, s⟩ := v
  unfold leafT
  simp only
  split
  · obtain ⟨c, t, e, -⟩ := itoa_cons n
    rw [e]; simp
  · split
    · split <;> simp [trueB, falseB]
    · split
      · rename_i h1 h2 h3
        subst h3
        simp [rightV] at h
        unfold tkB
        rw [if_pos h.2]
        simp [wrB, quoteB]
      · split
        · cases d with
          | zero => simp [objT, dotsB]
          | succ d => exact obT_ne _ _
        · simp [noneB]

theorem showB_len (os : List Ob) (v : Vl) : (showB os v).length ≤ 200 := by
  unfold showB
  split
  · split
    · rw [List.length_append, List.length_take]; simp [dotsB]; omega
    · omega
  · simp
theorem showB_ne {os : List Ob} {v : Vl} : showB os v = [] ↔ rightV v os.length = false := by
  unfold showB
  cases h : rightV v os.length with
  | false => simp
  | true =>
    simp only [if_true, Bool.true_eq_false, iff_false]
    split
    · simp [dotsB]
    · exact txtV_ne h
theorem showB_num (os : List Ob) (n : Int) (h0 : -9223372036854775808 ≤ n) (h1 : n ≤ 9223372036854775807) : showB os ⟨1, n, []⟩ = Lib.itoa n := by
  have hl := itoa_len n h0 h1
  have e : txtV os 2 ⟨1, n, []⟩ = Lib.itoa n := rfl
  unfold showB
  rw [e, if_pos (by simp [rightV]), if_neg (by omega)]
theorem showB_two (os : List Ob) (n : Int) (h0 : -9223372036854775808 ≤ n) (h1 : n ≤ 9223372036854775807) : showB (os ++ [([], [⟨1, n, []⟩, ⟨1, n, []⟩])]) ⟨4, (os.length : Int), []⟩ = [91] ++ Lib.itoa n ++ [44, 32] ++ Lib.itoa n ++ [93] := by
  have hl := itoa_len n h0 h1
  have e : txtV (os ++ [([], [⟨1, n, []⟩, ⟨1, n, []⟩])]) 2 ⟨4, (os.length : Int), []⟩ = [91] ++ Lib.itoa n ++ [44, 32] ++ Lib.itoa n ++ [93] := by
    simp [txtV, leafT, obT, joinT]
  unfold showB
  rw [e, if_pos (by simp [rightV]; omega), if_neg (by simp; omega)]
end Go.Proofs.YtchpmnmngeebjaaGreatDoor
