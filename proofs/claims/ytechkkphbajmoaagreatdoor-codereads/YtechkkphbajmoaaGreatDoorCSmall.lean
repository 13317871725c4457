/- code: is a text written, is a number within bounds. -/
import Derived.Test.YtechkkphbajmoaaGreatDoorMX
namespace Go.Proofs.YtechkkphbajmoaaGreatDoor
open Go.RowKit Go.Shelf

set_option maxRecDepth 100000 in
set_option maxHeartbeats 2000000 in
theorem cWritten_any (k : Int) (s : List UInt8) (w : World) (hl : s.length ≤ 1048576) (ht : TabsP w) :
    Calls Tryz.prog 135 #[.int .i64 k, .string (strB s)] w fun e w' => e = .returned (.bool (decide (backB k 0 s))) ∧ Below w.heap.size w w' := by
  have c := lexText_any k 0 0 0 s w (by omega) (by omega) (by omega) ht
  clear ht
  by_cases hb : backB k 0 s
  · rw [show tkB k 0 s = (wrB k 0 s, 0) from if_pos hb] at c
    have HD : Hid (decide (backB k 0 s) = true) := decide_eq_true hb
    clear hb
    go_enter Tryz.func135, Tryz.ntmps135
    go_wp2_with fail
    refine c.mono ?_
    clear c
    rintro e w1 ⟨rfl, hb1⟩
    have HB : Hid (Below w.heap.size w w1) := hb1
    clear hb1
    go_wp2
    go_ret
    rw [HD.out]
    exact ⟨rfl, HB.out⟩
  · rw [show tkB k 0 s = ([], 2) from if_neg hb] at c
    have HD : Hid (decide (backB k 0 s) = false) := decide_eq_false hb
    clear hb
    go_enter Tryz.func135, Tryz.ntmps135
    go_wp2_with fail
    refine c.mono ?_
    clear c
    rintro e w1 ⟨rfl, hb1⟩
    have HB : Hid (Below w.heap.size w w1) := hb1
    clear hb1
    go_wp2
    go_ret
    rw [HD.out]
    exact ⟨rfl, HB.out⟩

set_option maxRecDepth 100000 in
set_option maxHeartbeats 2000000 in
theorem cIsText_any (s : List UInt8) (w : World) (hl : s.length ≤ 1048576) (ht : TabsP w) :
    Calls Tryz.prog 102 #[.string (strB s)] w fun e w' => e = .returned (.bool (decide (backB 3 0 s))) ∧ Below w.heap.size w w' := by
  have c := cWritten_any 3 s w hl ht
  obtain ⟨d, hd⟩ : ∃ d, d = decide (backB 3 0 s) := ⟨_, rfl⟩
  rw [← hd] at c ⊢
  clear hd ht
  go_enter Tryz.func102, Tryz.ntmps102
  go_wp2_with fail
  refine c.mono ?_
  clear c
  rintro e w1 ⟨rfl, hb1⟩
  have HB : Hid (Below w.heap.size w w1) := hb1
  clear hb1
  go_wp2
  go_ret
  exact ⟨rfl, HB.out⟩

set_option maxRecDepth 100000 in
set_option maxHeartbeats 2000000 in
theorem cIsName_any (s : List UInt8) (w : World) (hl : s.length ≤ 1048576) (ht : TabsP w) :
    Calls Tryz.prog 137 #[.string (strB s)] w fun e w' => e = .returned (.bool (decide (backB 1 0 s))) ∧ Below w.heap.size w w' := by
  have c := cWritten_any 1 s w hl ht
  obtain ⟨d, hd⟩ : ∃ d, d = decide (backB 1 0 s) := ⟨_, rfl⟩
  rw [← hd] at c ⊢
  clear hd ht
  go_enter Tryz.func137, Tryz.ntmps137
  go_wp2_with fail
  refine c.mono ?_
  clear c
  rintro e w1 ⟨rfl, hb1⟩
  have HB : Hid (Below w.heap.size w w1) := hb1
  clear hb1
  go_wp2
  go_ret
  exact ⟨rfl, HB.out⟩

set_option maxRecDepth 100000 in
set_option maxHeartbeats 2000000 in
theorem cIsIn_any (n a b : Int) (w : World) :
    Calls Tryz.prog 23 #[.int .i64 n, .int .i64 a, .int .i64 b] w fun e w' => e = .returned (.bool (decide (a ≤ n ∧ n ≤ b))) ∧ Below w.heap.size w w' := by
  have HB : Hid (Below w.heap.size w w) := Below.refl _ _
  obtain ⟨d, hd⟩ : ∃ d, d = decide (a ≤ n ∧ n ≤ b) := ⟨_, rfl⟩
  rw [← hd]
  by_cases h1 : a ≤ n
  · by_cases h2 : n ≤ b
    · have HD : Hid (d = true) := hd.trans (decide_eq_true ⟨h1, h2⟩)
      clear hd
      go_enter Tryz.func23, Tryz.ntmps23
      go_wp2
      go_ret
      rw [HD.out]
      exact ⟨rfl, HB.out⟩
    · have HD : Hid (d = false) := hd.trans (decide_eq_false fun h => h2 h.2)
      clear hd
      go_enter Tryz.func23, Tryz.ntmps23
      go_wp2
      go_ret
      rw [HD.out]
      exact ⟨rfl, HB.out⟩
  · have HD : Hid (d = false) := hd.trans (decide_eq_false fun h => h1 h.1)
    clear hd
    go_enter Tryz.func23, Tryz.ntmps23
    go_wp2
    go_ret
    rw [HD.out]
    exact ⟨rfl, HB.out⟩

set_option maxRecDepth 100000 in
set_option maxHeartbeats 2000000 in
theorem cIsOp_any (n : Int) (w : World) :
    Calls Tryz.prog 143 #[.int .i64 n] w fun e w' => e = .returned (.bool (decide (0 ≤ n ∧ n < 35))) ∧ Below w.heap.size w w' := by
  have HB : Hid (Below w.heap.size w w) := Below.refl _ _
  obtain ⟨d, hd⟩ : ∃ d, d = decide (0 ≤ n ∧ n < 35) := ⟨_, rfl⟩
  rw [← hd]
  by_cases h1 : 0 ≤ n
  · by_cases h2 : n < 35
    · have HD : Hid (d = true) := hd.trans (decide_eq_true ⟨h1, h2⟩)
      clear hd
      go_enter Tryz.func143, Tryz.ntmps143
      go_wp2
      go_ret
      rw [HD.out]
      exact ⟨rfl, HB.out⟩
    · have HD : Hid (d = false) := hd.trans (decide_eq_false fun h => h2 h.2)
      clear hd
      go_enter Tryz.func143, Tryz.ntmps143
      go_wp2
      go_ret
      rw [HD.out]
      exact ⟨rfl, HB.out⟩
  · have HD : Hid (d = false) := hd.trans (decide_eq_false fun h => h1 h.1)
    clear hd
    go_enter Tryz.func143, Tryz.ntmps143
    go_wp2
    go_ret
    rw [HD.out]
    exact ⟨rfl, HB.out⟩
end Go.Proofs.YtechkkphbajmoaaGreatDoor
