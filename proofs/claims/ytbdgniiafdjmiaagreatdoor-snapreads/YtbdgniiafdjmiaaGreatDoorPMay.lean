/- snap: of a state that may be told the bytes are read as it was; how long they are. -/
import Derived.Test.YtbdgniiafdjmiaaGreatDoorPBack
namespace Go.Proofs.YtbdgniiafdjmiaaGreatDoor
open Go.RowKit Go.Shelf

theorem textF_short : ∀ (f : Nat) (meant : List UInt8) (a : Nat) (l : List UInt8), meant.length ≤ 255 → (textF f meant a l).s.length ≤ 255
  | 0, _, _, _, _ => by simp [textF]
  | _ + 1, _, _, [], _ => by simp [textF]
  | f + 1, meant, a, x :: r, h => by
    unfold textF
    split
    · exact h
    · split
      · simp
      · split
        · simp
        · exact textF_short f _ _ _ (by rw [List.length_append]; simp only [List.length_cons, List.length_nil]; omega)
theorem tokT_short (l : List UInt8) (h : (tokT l).k ≠ 5) : (tokT l).s.length ≤ 255 := by
  match l with
  | [] => simp [tokT]
  | x :: r =>
    unfold tokT at h ⊢
    simp only at h ⊢
    split
    · rename_i h1
      rw [if_pos h1] at h
      unfold nameR at h ⊢
      split
      · rename_i h2
        rw [if_pos h2] at h
        exact absurd rfl h
      · split
        · simp
        · simp only; omega
    · split
      · unfold numT
        split <;> simp
      · split
        · exact textF_short _ _ _ _ (by simp)
        · unfold signT
          have := bestS_len (x :: r) 25
          split
          · simp
          · simp only; omega
theorem backB_short {k : Int} {s : List UInt8} (h : backB k 0 s) (hk : k = 1 ∨ k = 3) : s.length ≤ 255 := by
  obtain ⟨-, h2, h3, -⟩ := h
  rw [← h3]
  exact tokT_short _ (by omega)

theorem rightV_ok {v : Vl} {n : Int} (h : rightV v n = true) (hs : smallV v) : okVl v := by
  unfold rightV at h
  unfold okVl oBeh
  by_cases h0 : v.k = 0
  · rw [if_pos h0, decide_eq_true_eq] at h
    rw [if_neg (by omega), if_neg (by omega)]
    exact ⟨⟨by omega, by omega⟩, trivial, by rw [h.1, h.2]⟩
  · rw [if_neg h0] at h
    by_cases h1 : v.k = 1
    · rw [if_pos h1, decide_eq_true_eq] at h
      rw [if_pos (.inl h1)]
      exact ⟨⟨by omega, by omega⟩, hs.1, by rw [h]⟩
    · rw [if_neg h1] at h
      by_cases h2 : v.k = 2
      · rw [if_pos h2, decide_eq_true_eq] at h
        rw [if_pos (.inr (.inl h2))]
        exact ⟨⟨by omega, by omega⟩, hs.1, by rw [h.2]⟩
      · rw [if_neg h2] at h
        by_cases h3 : v.k = 3
        · rw [if_pos h3, decide_eq_true_eq] at h
          rw [if_neg (by omega), if_pos h3]
          have := backB_short h.2 (.inr rfl)
          exact ⟨⟨by omega, by omega⟩, by simp only; omega, by rw [h.1]⟩
        · rw [if_neg h3] at h
          by_cases h4 : v.k = 4
          · rw [if_pos h4, decide_eq_true_eq] at h
            rw [if_pos (.inr (.inr h4))]
            exact ⟨⟨by omega, by omega⟩, hs.1, by rw [h.2]⟩
          · rw [if_neg h4] at h
            cases h
theorem cellV_right {v : Vl} {n : Int} (h : cellV v n = true) : rightV v n = true := by
  unfold cellV at h
  rw [Bool.and_eq_true] at h
  exact h.2
theorem may_parts {s : Sn} (h : mayS s = true) : (0 ≤ s.pos ∧ 0 ≤ s.rd ∧ (0 ≤ s.st ∧ s.st ≤ 2) ∧ (0 ≤ s.ft ∧ s.ft ≤ 10) ∧ s.out.length ≤ 4096) ∧ s.calls.length ≤ 64 ∧ (∀ c ∈ s.calls, (0 ≤ c.unit ∧ 0 ≤ c.at0 ∧ -1 ≤ c.mark) ∧ (c.slots.length ≤ 32 ∧ ∀ v ∈ c.slots, rightV v s.heap.length = true) ∧ c.stack.length ≤ 256 ∧ ∀ v ∈ c.stack, rightV v s.heap.length = true) ∧ (∀ o ∈ s.heap, obB o s.heap.length = true) ∧ s.heap.length + (allV s.heap).length ≤ 4096 := by
  unfold mayS heapB callB at h
  simp only [Bool.and_eq_true, decide_eq_true_eq, List.all_eq_true] at h
  exact ⟨h.1, h.2.1.1, fun c hc => ⟨(h.2.1.2 c hc).1, (h.2.1.2 c hc).2⟩, h.2.2⟩
theorem allV_mem {os : List Ob} {o : Ob} (h : o ∈ os) : o.2.length ≤ (allV os).length := by
  induction os with
  | nil => cases h
  | cons x t ih =>
    have e : allV (x :: t) = x.2 ++ allV t := rfl
    rw [e, List.length_append]
    rcases List.mem_cons.1 h with rfl | h
    · omega
    · have := ih h; omega
theorem pobB_parts {o : Ob} {n : Int} (h : obB o n = true) : (∀ v ∈ o.2, rightV v n = true) ∧ o.1.length ≤ 255 := by
  unfold obB tagB at h
  simp only [Bool.and_eq_true, List.all_eq_true, decide_eq_true_eq] at h
  refine ⟨fun v hv => cellV_right (h.1 v hv), ?_⟩
  rcases h.2 with e | e
  · rw [e]; simp
  · exact backB_short e (.inl rfl)
/-- Of a state that may be told the bytes are read as it was. -/
theorem may_ok {s : Sn} (h : mayS s = true) (hs : SmallS s) : okSn s := by
  obtain ⟨h1, h2, h3, h4, h5⟩ := may_parts h
  refine ⟨hs.nums.1, hs.nums.2.1, hs.nums.2.2.1, hs.nums.2.2.2, by omega, ⟨fun c hc => ?_, by omega⟩, fun o ho => ?_, by omega⟩
  · have q := h3 c hc
    have z := hs.calls.1 c hc
    exact ⟨z.1.1, z.1.2.1, z.1.2.2, ⟨fun v hv => rightV_ok (q.2.1.2 v hv) (z.2.1.1 v hv).1, z.2.1.2⟩, fun v hv => rightV_ok (q.2.2.2 v hv) (z.2.2.1 v hv).1, z.2.2.2⟩
  · have q := pobB_parts (h4 o ho)
    have z := hs.heap.1 o ho
    exact ⟨by omega, fun v hv => rightV_ok (q.1 v hv) (z.2.1 v hv).1, z.2.2⟩
theorem txB_len (s : List UInt8) (h : s.length ≤ 1048576) : (txB s).length ≤ s.length + 10 := by
  unfold txB
  have := numB_ten (n := (s.length : Int)) ⟨by omega, by omega⟩
  rw [List.length_append]
  omega
theorem vlB_len {v : Vl} (h : smallV v ∧ I64 v.k) : (vlB v).length ≤ 1048600 := by
  unfold vlB
  have h1 := numB_ten h.2
  have h2 := numB_ten (n := v.n) h.1.1
  have h3 := txB_len v.s h.1.2
  have h4 := h.1.2
  rw [List.length_append]
  split
  · omega
  · split
    · omega
    · simp; omega
/-- The bytes of a state that may be told are few. -/
theorem may_few {s : Sn} (h : mayS s = true) (hs : SmallS s) : (snB s).length ≤ 100000000000000 := by
  obtain ⟨h1, h2, h3, h4, h5⟩ := may_parts h
  have n0 := numB_ten hs.nums.1
  have n1 := numB_ten hs.nums.2.1
  have n2 := numB_ten hs.nums.2.2.1
  have n3 := numB_ten hs.nums.2.2.2
  have n4 := txB_len s.out hs.out
  have a1 := allB_most calB 302100000 64 (fun c hc => by
    have q := h3 c hc
    have z := hs.calls.1 c hc
    have m0 := numB_ten z.1.1
    have m1 := numB_ten z.1.2.1
    have m2 := numB_ten z.1.2.2
    have m3 := allB_most vlB 1048600 32 (fun v hv => vlB_len (z.2.1.1 v hv)) q.2.1.1 (by omega)
    have m4 := allB_most vlB 1048600 256 (fun v hv => vlB_len (z.2.2.1 v hv)) q.2.2.1 (by omega)
    unfold calB
    simp only [List.length_append]
    omega) h2 (by omega)
  have a2 := allB_most objB 4296200000 4096 (fun o ho => by
    have z := hs.heap.1 o ho
    have m0 := txB_len o.1 z.1
    have m1 := z.1
    have m2 := allV_mem ho
    have m3 := allB_most vlB 1048600 4096 (fun v hv => vlB_len (z.2.1 v hv)) (by omega) (by omega)
    unfold objB
    simp only [List.length_append]
    omega) (by omega) (by omega)
  unfold snB
  simp only [List.length_append]
  omega
theorem may_len {s : Sn} (h : mayS s = true) (hs : SmallS s) : (snB s).length ≤ 140737488355328 := Nat.le_trans (may_few h hs) (by decide)
end Go.Proofs.YtbdgniiafdjmiaaGreatDoor
