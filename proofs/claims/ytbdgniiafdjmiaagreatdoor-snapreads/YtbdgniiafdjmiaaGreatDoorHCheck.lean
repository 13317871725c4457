/- heap: is a text written, is a value right, may an object be. -/
import Derived.Test.YtbdgniiafdjmiaaGreatDoorHHeap
namespace Go.Proofs.YtbdgniiafdjmiaaGreatDoor
open Go.RowKit Go.Shelf

set_option maxRecDepth 100000 in
set_option maxHeartbeats 2000000 in
theorem isWritten_any (k : Int) (s : List UInt8) (w : World) (hl : s.length ≤ 1048576) (ht : TabsP w) :
    Calls Tryz.prog 103 #[.int .i64 k, .string (strB s)] w fun e w' => e = .returned (.bool (decide (backB k 0 s))) ∧ Below w.heap.size w w' := by
  have c := lexText_any k 0 0 0 s w (by omega) (by omega) (by omega) ht
  clear ht
  by_cases hb : backB k 0 s
  · rw [show tkB k 0 s = (wrB k 0 s, 0) from if_pos hb] at c
    have HD : Hid (decide (backB k 0 s) = true) := decide_eq_true hb
    clear hb
    go_enter Tryz.func103, Tryz.ntmps103
    go_wp2_with fail
    refine c.mono ?_
    clear c
    rintro e w1 ⟨rfl, hb1⟩
    have HB : Hid (Below w.heap.size w w1) := hb1
    clear hb1
    go_wp2
    go_ret
    rw [HD.out]
    exact ⟨rfl, HB.out⟩
  · rw [show tkB k 0 s = ([], 2) from if_neg hb] at c
    have HD : Hid (decide (backB k 0 s) = false) := decide_eq_false hb
    clear hb
    go_enter Tryz.func103, Tryz.ntmps103
    go_wp2_with fail
    refine c.mono ?_
    clear c
    rintro e w1 ⟨rfl, hb1⟩
    have HB : Hid (Below w.heap.size w w1) := hb1
    clear hb1
    go_wp2
    go_ret
    rw [HD.out]
    exact ⟨rfl, HB.out⟩

def errR (b : Bool) : Int := if b then 0 else 2

set_option maxRecDepth 100000 in
set_option maxHeartbeats 4000000 in
theorem check_any (v : Vl) (n : Int) (w : World) (hv : smallV v) (ht : TabsP w) :
    Calls Tryz.prog 84 #[vlV v, .int .i64 n] w fun e w' => e = .returned (.int .i64 (errR (rightV v n))) ∧ Below w.heap.size w w' := by
  obtain ⟨k, m, s⟩ := v
  have hs1 : s.length ≤ 1048576 := hv.2
  have HT : Hid (TabsP w) := ht
  clear ht hv
  by_cases h0 : k = 0
  · subst h0
    by_cases hm : m = 0
    · subst hm
      by_cases hs : s = []
      · subst hs
        have HR : Hid (errR (rightV ⟨0, 0, []⟩ n) = 0) := show _ = _ by simp [rightV, errR]
        go_enter Tryz.func84, Tryz.ntmps84
        go_wp2
        go_ret
        rw [HR.out]
        exact ⟨rfl, (Below.refl _ w).alloc (Nat.le_refl _) _⟩
      · obtain ⟨a, t, rfl⟩ := List.exists_cons_of_ne_nil hs
        have HR : Hid (errR (rightV ⟨0, 0, a :: t⟩ n) = 2) := show _ = _ by simp [rightV, errR]
        go_enter Tryz.func84, Tryz.ntmps84
        go_wp2
        go_ret
        rw [HR.out]
        exact ⟨rfl, (Below.refl _ w).alloc (Nat.le_refl _) _⟩
    · have hmb : (m == 0) = false := by rw [beq_eq_false_iff_ne]; exact hm
      have HR : Hid (errR (rightV ⟨0, m, s⟩ n) = 2) := show _ = _ by simp [rightV, errR, hm]
      go_enter Tryz.func84, Tryz.ntmps84
      go_wp2
      go_ret
      rw [HR.out]
      exact ⟨rfl, (Below.refl _ w).alloc (Nat.le_refl _) _⟩
  have hk0 : (k == 0) = false := by rw [beq_eq_false_iff_ne]; exact h0
  by_cases h1 : k = 1
  · subst h1
    clear hk0
    by_cases hs : s = []
    · subst hs
      have HR : Hid (errR (rightV ⟨1, m, []⟩ n) = 0) := show _ = _ by simp [rightV, errR]
      go_enter Tryz.func84, Tryz.ntmps84
      go_wp2
      go_ret
      rw [HR.out]
      exact ⟨rfl, (Below.refl _ w).alloc (Nat.le_refl _) _⟩
    · obtain ⟨a, t, rfl⟩ := List.exists_cons_of_ne_nil hs
      have HR : Hid (errR (rightV ⟨1, m, a :: t⟩ n) = 2) := show _ = _ by simp [rightV, errR]
      go_enter Tryz.func84, Tryz.ntmps84
      go_wp2
      go_ret
      rw [HR.out]
      exact ⟨rfl, (Below.refl _ w).alloc (Nat.le_refl _) _⟩
  have hk1 : (k == 1) = false := by rw [beq_eq_false_iff_ne]; exact h1
  by_cases h2 : k = 2
  · subst h2
    clear hk0 hk1
    by_cases hm : m = 0
    · subst hm
      by_cases hs : s = []
      · subst hs
        have HR : Hid (errR (rightV ⟨2, 0, []⟩ n) = 0) := show _ = _ by simp [rightV, errR]
        go_enter Tryz.func84, Tryz.ntmps84
        go_wp2
        go_ret
        rw [HR.out]
        exact ⟨rfl, (Below.refl _ w).alloc (Nat.le_refl _) _⟩
      · obtain ⟨a, t, rfl⟩ := List.exists_cons_of_ne_nil hs
        have HR : Hid (errR (rightV ⟨2, 0, a :: t⟩ n) = 2) := show _ = _ by simp [rightV, errR]
        go_enter Tryz.func84, Tryz.ntmps84
        go_wp2
        go_ret
        rw [HR.out]
        exact ⟨rfl, (Below.refl _ w).alloc (Nat.le_refl _) _⟩
    have hm0 : (m == 0) = false := by rw [beq_eq_false_iff_ne]; exact hm
    by_cases hm1 : m = 1
    · subst hm1
      clear hm0
      by_cases hs : s = []
      · subst hs
        have HR : Hid (errR (rightV ⟨2, 1, []⟩ n) = 0) := show _ = _ by simp [rightV, errR]
        go_enter Tryz.func84, Tryz.ntmps84
        go_wp2
        go_ret
        rw [HR.out]
        exact ⟨rfl, (Below.refl _ w).alloc (Nat.le_refl _) _⟩
      · obtain ⟨a, t, rfl⟩ := List.exists_cons_of_ne_nil hs
        have HR : Hid (errR (rightV ⟨2, 1, a :: t⟩ n) = 2) := show _ = _ by simp [rightV, errR]
        go_enter Tryz.func84, Tryz.ntmps84
        go_wp2
        go_ret
        rw [HR.out]
        exact ⟨rfl, (Below.refl _ w).alloc (Nat.le_refl _) _⟩
    have hm2 : (m == 1) = false := by rw [beq_eq_false_iff_ne]; exact hm1
    have HR : Hid (errR (rightV ⟨2, m, s⟩ n) = 2) := show _ = _ by simp [rightV, errR, hm, hm1]
    go_enter Tryz.func84, Tryz.ntmps84
    go_wp2
    go_ret
    rw [HR.out]
    exact ⟨rfl, (Below.refl _ w).alloc (Nat.le_refl _) _⟩
  have hk2 : (k == 2) = false := by rw [beq_eq_false_iff_ne]; exact h2
  by_cases h3 : k = 3
  · subst h3
    clear hk0 hk1 hk2
    by_cases hm : m = 0
    · subst hm
      obtain ⟨w1, hw1⟩ : ∃ w1, w1 = w.alloc (.cells #[.int .i64 3, .int .i64 0, .string (strB s)] 54) := ⟨_, rfl⟩
      have hb1 : Below w.heap.size w w1 := by rw [hw1]; exact (Below.refl _ w).alloc (Nat.le_refl _) _
      have hz1 : w1.heap.size = w.heap.size + 1 := by rw [hw1]; simp
      have c := isWritten_any 3 s w1 hs1 (HT.out.below hb1 (Nat.le_refl _))
      have HB1 : Hid (Below w.heap.size w w1) := hb1
      have HR : Hid (rightV ⟨3, 0, s⟩ n = decide (backB 3 0 s)) := show _ = _ by simp [rightV]
      generalize decide (backB 3 0 s) = b at *
      rw [hw1] at c
      clear hb1
      go_enter Tryz.func84, Tryz.ntmps84
      go_wp2_with fail
      refine c.mono ?_
      clear c
      rw [← hw1]
      rintro e w2 ⟨rfl, hb2⟩
      have HB2 : Hid (Below w.heap.size w w2) := HB1.out.trans (hb2.mono (by omega))
      clear hb2 hw1
      cases b with
      | true =>
        go_wp2
        go_ret
        rw [HR.out]
        exact ⟨rfl, HB2.out⟩
      | false =>
        go_wp2
        go_ret
        rw [HR.out]
        exact ⟨rfl, HB2.out⟩
    · have hmb : (m == 0) = false := by rw [beq_eq_false_iff_ne]; exact hm
      have HR : Hid (errR (rightV ⟨3, m, s⟩ n) = 2) := show _ = _ by simp [rightV, errR, hm]
      go_enter Tryz.func84, Tryz.ntmps84
      go_wp2
      go_ret
      rw [HR.out]
      exact ⟨rfl, (Below.refl _ w).alloc (Nat.le_refl _) _⟩
  have hk3 : (k == 3) = false := by rw [beq_eq_false_iff_ne]; exact h3
  by_cases h4 : k = 4
  · subst h4
    clear hk0 hk1 hk2 hk3
    by_cases hm : 0 ≤ m
    · by_cases hn : m < n
      by_cases hs : s = []
      · subst hs
        have HR : Hid (errR (rightV ⟨4, m, []⟩ n) = 0) := show _ = _ by simp [rightV, errR, hm, hn]
        go_enter Tryz.func84, Tryz.ntmps84
        go_wp2
        go_ret
        rw [HR.out]
        exact ⟨rfl, (Below.refl _ w).alloc (Nat.le_refl _) _⟩
      · obtain ⟨a, t, rfl⟩ := List.exists_cons_of_ne_nil hs
        have HR : Hid (errR (rightV ⟨4, m, a :: t⟩ n) = 2) := show _ = _ by simp [rightV, errR]
        go_enter Tryz.func84, Tryz.ntmps84
        go_wp2
        go_ret
        rw [HR.out]
        exact ⟨rfl, (Below.refl _ w).alloc (Nat.le_refl _) _⟩
      have HR : Hid (errR (rightV ⟨4, m, s⟩ n) = 2) := show _ = _ by simp [rightV, errR]; omega
      go_enter Tryz.func84, Tryz.ntmps84
      go_wp2
      go_ret
      rw [HR.out]
      exact ⟨rfl, (Below.refl _ w).alloc (Nat.le_refl _) _⟩
    have HR : Hid (errR (rightV ⟨4, m, s⟩ n) = 2) := show _ = _ by simp [rightV, errR]; omega
    go_enter Tryz.func84, Tryz.ntmps84
    go_wp2
    go_ret
    rw [HR.out]
    exact ⟨rfl, (Below.refl _ w).alloc (Nat.le_refl _) _⟩
  have hk4 : (k == 4) = false := by rw [beq_eq_false_iff_ne]; exact h4
  have HR : Hid (errR (rightV ⟨k, m, s⟩ n) = 2) := show _ = _ by simp [rightV, errR, h0, h1, h2, h3, h4]
  go_enter Tryz.func84, Tryz.ntmps84
  go_wp2
  go_ret
  rw [HR.out]
  exact ⟨rfl, (Below.refl _ w).alloc (Nat.le_refl _) _⟩
end Go.Proofs.YtbdgniiafdjmiaaGreatDoor
