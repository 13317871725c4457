/- code: the document's own words: ops whose A is always 0; numbers as digits. -/
import Derived.Test.YtechkkphbajmoaaGreatDoorMR
import Derived.Test.YtechkkphbajmoaaGreatDoorCInsText
import Derived.Test.YtechkkphbajmoaaGreatDoorMY
namespace Go.Proofs.YtechkkphbajmoaaGreatDoor
open Go.RowKit Go.Shelf

theorem ops_bare : ∀ n : Fin opsL.length, n.1 ∈ [6, 7, 8, 9, 10, 11, 12, 13, 14, 15, 16, 17, 18, 19, 26, 27, 30, 31, 32, 33] → (opsL[n]).2.1 = 0 := by decide +kernel
theorem ops_bare2 : ∀ n : Fin opsL.length, n.1 ∉ [6, 7, 8, 9, 10, 11, 12, 13, 14, 15, 16, 17, 18, 19, 26, 27, 30, 31, 32, 33] → (opsL[n]).2.1 ≠ 0 := by decide +kernel

set_option maxRecDepth 100000 in
set_option maxHeartbeats 4000000 in
theorem rfBare (n : Nat) (hn : n < opsL.length) (w : World) :
    Calls Tryz.prog 42 #[.int .i64 (n : Int)] w fun e w' => e = .returned (.bool (decide ((opsL[n]'hn).2.1 = 0))) ∧ Below w.heap.size w w' := by
  have HNL : Hid (n < opsL.length) := hn
  obtain ⟨D, hD⟩ : ∃ D, D = decide ((opsL[n]'hn).2.1 = 0) := ⟨_, rfl⟩
  rw [← hD]
  have HD : Hid (D = decide ((opsL[n]'HNL.out).2.1 = 0)) := hD
  obtain ⟨s, hs⟩ : ∃ s, s = nmR (n : Int) := ⟨_, rfl⟩
  have HSN : Hid (s = (opsL[n]'HNL.out).1) := hs.trans (nmR_at hn)
  have cN := rfNm (n : Int) w
  rw [← hs] at cN
  clear hD hs hn
  go_enter Tryz.func42, Tryz.ntmps42
  go_wp2_with fail
  refine cN.mono ?_
  clear cN
  rintro e w4 ⟨rfl, hb4⟩
  have HB4 : Hid (Below w.heap.size w w4) := hb4
  clear hb4
  by_cases e6 : n = 6
  · subst e6
    have q6 : (s == [112, 111, 112]) = true := by rw [HSN.out]; rfl
    have HT : Hid (D = true) := HD.out.trans rfl
    go_wp2
    go_ret
    rw [HT.out]
    exact ⟨rfl, HB4.out⟩
  by_cases e7 : n = 7
  · subst e7
    have q6 : (s == [112, 111, 112]) = false := by rw [HSN.out]; exact nm_ne HNL.out (k := 6) (by decide) (by decide)
    have q7 : (s == [97, 100, 100]) = true := by rw [HSN.out]; rfl
    have HT : Hid (D = true) := HD.out.trans rfl
    go_wp2
    go_ret
    rw [HT.out]
    exact ⟨rfl, HB4.out⟩
  by_cases e8 : n = 8
  · subst e8
    have q6 : (s == [112, 111, 112]) = false := by rw [HSN.out]; exact nm_ne HNL.out (k := 6) (by decide) (by decide)
    have q7 : (s == [97, 100, 100]) = false := by rw [HSN.out]; exact nm_ne HNL.out (k := 7) (by decide) (by decide)
    have q8 : (s == [115, 117, 98]) = true := by rw [HSN.out]; rfl
    have HT : Hid (D = true) := HD.out.trans rfl
    go_wp2
    go_ret
    rw [HT.out]
    exact ⟨rfl, HB4.out⟩
  by_cases e9 : n = 9
  · subst e9
    have q6 : (s == [112, 111, 112]) = false := by rw [HSN.out]; exact nm_ne HNL.out (k := 6) (by decide) (by decide)
    have q7 : (s == [97, 100, 100]) = false := by rw [HSN.out]; exact nm_ne HNL.out (k := 7) (by decide) (by decide)
    have q8 : (s == [115, 117, 98]) = false := by rw [HSN.out]; exact nm_ne HNL.out (k := 8) (by decide) (by decide)
    have q9 : (s == [109, 117, 108]) = true := by rw [HSN.out]; rfl
    have HT : Hid (D = true) := HD.out.trans rfl
    go_wp2
    go_ret
    rw [HT.out]
    exact ⟨rfl, HB4.out⟩
  by_cases e10 : n = 10
  · subst e10
    have q6 : (s == [112, 111, 112]) = false := by rw [HSN.out]; exact nm_ne HNL.out (k := 6) (by decide) (by decide)
    have q7 : (s == [97, 100, 100]) = false := by rw [HSN.out]; exact nm_ne HNL.out (k := 7) (by decide) (by decide)
    have q8 : (s == [115, 117, 98]) = false := by rw [HSN.out]; exact nm_ne HNL.out (k := 8) (by decide) (by decide)
    have q9 : (s == [109, 117, 108]) = false := by rw [HSN.out]; exact nm_ne HNL.out (k := 9) (by decide) (by decide)
    have q10 : (s == [100, 105, 118]) = true := by rw [HSN.out]; rfl
    have HT : Hid (D = true) := HD.out.trans rfl
    go_wp2
    go_ret
    rw [HT.out]
    exact ⟨rfl, HB4.out⟩
  by_cases e11 : n = 11
  · subst e11
    have q6 : (s == [112, 111, 112]) = false := by rw [HSN.out]; exact nm_ne HNL.out (k := 6) (by decide) (by decide)
    have q7 : (s == [97, 100, 100]) = false := by rw [HSN.out]; exact nm_ne HNL.out (k := 7) (by decide) (by decide)
    have q8 : (s == [115, 117, 98]) = false := by rw [HSN.out]; exact nm_ne HNL.out (k := 8) (by decide) (by decide)
    have q9 : (s == [109, 117, 108]) = false := by rw [HSN.out]; exact nm_ne HNL.out (k := 9) (by decide) (by decide)
    have q10 : (s == [100, 105, 118]) = false := by rw [HSN.out]; exact nm_ne HNL.out (k := 10) (by decide) (by decide)
    have q11 : (s == [114, 101, 109]) = true := by rw [HSN.out]; rfl
    have HT : Hid (D = true) := HD.out.trans rfl
    go_wp2
    go_ret
    rw [HT.out]
    exact ⟨rfl, HB4.out⟩
  by_cases e12 : n = 12
  · subst e12
    have q6 : (s == [112, 111, 112]) = false := by rw [HSN.out]; exact nm_ne HNL.out (k := 6) (by decide) (by decide)
    have q7 : (s == [97, 100, 100]) = false := by rw [HSN.out]; exact nm_ne HNL.out (k := 7) (by decide) (by decide)
    have q8 : (s == [115, 117, 98]) = false := by rw [HSN.out]; exact nm_ne HNL.out (k := 8) (by decide) (by decide)
    have q9 : (s == [109, 117, 108]) = false := by rw [HSN.out]; exact nm_ne HNL.out (k := 9) (by decide) (by decide)
    have q10 : (s == [100, 105, 118]) = false := by rw [HSN.out]; exact nm_ne HNL.out (k := 10) (by decide) (by decide)
    have q11 : (s == [114, 101, 109]) = false := by rw [HSN.out]; exact nm_ne HNL.out (k := 11) (by decide) (by decide)
    have q12 : (s == [110, 101, 103]) = true := by rw [HSN.out]; rfl
    have HT : Hid (D = true) := HD.out.trans rfl
    go_wp2
    go_ret
    rw [HT.out]
    exact ⟨rfl, HB4.out⟩
  by_cases e13 : n = 13
  · subst e13
    have q6 : (s == [112, 111, 112]) = false := by rw [HSN.out]; exact nm_ne HNL.out (k := 6) (by decide) (by decide)
    have q7 : (s == [97, 100, 100]) = false := by rw [HSN.out]; exact nm_ne HNL.out (k := 7) (by decide) (by decide)
    have q8 : (s == [115, 117, 98]) = false := by rw [HSN.out]; exact nm_ne HNL.out (k := 8) (by decide) (by decide)
    have q9 : (s == [109, 117, 108]) = false := by rw [HSN.out]; exact nm_ne HNL.out (k := 9) (by decide) (by decide)
    have q10 : (s == [100, 105, 118]) = false := by rw [HSN.out]; exact nm_ne HNL.out (k := 10) (by decide) (by decide)
    have q11 : (s == [114, 101, 109]) = false := by rw [HSN.out]; exact nm_ne HNL.out (k := 11) (by decide) (by decide)
    have q12 : (s == [110, 101, 103]) = false := by rw [HSN.out]; exact nm_ne HNL.out (k := 12) (by decide) (by decide)
    have q13 : (s == [110, 111, 116]) = true := by rw [HSN.out]; rfl
    have HT : Hid (D = true) := HD.out.trans rfl
    go_wp2
    go_ret
    rw [HT.out]
    exact ⟨rfl, HB4.out⟩
  by_cases e14 : n = 14
  · subst e14
    have q6 : (s == [112, 111, 112]) = false := by rw [HSN.out]; exact nm_ne HNL.out (k := 6) (by decide) (by decide)
    have q7 : (s == [97, 100, 100]) = false := by rw [HSN.out]; exact nm_ne HNL.out (k := 7) (by decide) (by decide)
    have q8 : (s == [115, 117, 98]) = false := by rw [HSN.out]; exact nm_ne HNL.out (k := 8) (by decide) (by decide)
    have q9 : (s == [109, 117, 108]) = false := by rw [HSN.out]; exact nm_ne HNL.out (k := 9) (by decide) (by decide)
    have q10 : (s == [100, 105, 118]) = false := by rw [HSN.out]; exact nm_ne HNL.out (k := 10) (by decide) (by decide)
    have q11 : (s == [114, 101, 109]) = false := by rw [HSN.out]; exact nm_ne HNL.out (k := 11) (by decide) (by decide)
    have q12 : (s == [110, 101, 103]) = false := by rw [HSN.out]; exact nm_ne HNL.out (k := 12) (by decide) (by decide)
    have q13 : (s == [110, 111, 116]) = false := by rw [HSN.out]; exact nm_ne HNL.out (k := 13) (by decide) (by decide)
    have q14 : (s == [101, 113]) = true := by rw [HSN.out]; rfl
    have HT : Hid (D = true) := HD.out.trans rfl
    go_wp2
    go_ret
    rw [HT.out]
    exact ⟨rfl, HB4.out⟩
  by_cases e15 : n = 15
  · subst e15
    have q6 : (s == [112, 111, 112]) = false := by rw [HSN.out]; exact nm_ne HNL.out (k := 6) (by decide) (by decide)
    have q7 : (s == [97, 100, 100]) = false := by rw [HSN.out]; exact nm_ne HNL.out (k := 7) (by decide) (by decide)
    have q8 : (s == [115, 117, 98]) = false := by rw [HSN.out]; exact nm_ne HNL.out (k := 8) (by decide) (by decide)
    have q9 : (s == [109, 117, 108]) = false := by rw [HSN.out]; exact nm_ne HNL.out (k := 9) (by decide) (by decide)
    have q10 : (s == [100, 105, 118]) = false := by rw [HSN.out]; exact nm_ne HNL.out (k := 10) (by decide) (by decide)
    have q11 : (s == [114, 101, 109]) = false := by rw [HSN.out]; exact nm_ne HNL.out (k := 11) (by decide) (by decide)
    have q12 : (s == [110, 101, 103]) = false := by rw [HSN.out]; exact nm_ne HNL.out (k := 12) (by decide) (by decide)
    have q13 : (s == [110, 111, 116]) = false := by rw [HSN.out]; exact nm_ne HNL.out (k := 13) (by decide) (by decide)
    have q14 : (s == [101, 113]) = false := by rw [HSN.out]; exact nm_ne HNL.out (k := 14) (by decide) (by decide)
    have q15 : (s == [110, 101]) = true := by rw [HSN.out]; rfl
    have HT : Hid (D = true) := HD.out.trans rfl
    go_wp2
    go_ret
    rw [HT.out]
    exact ⟨rfl, HB4.out⟩
  by_cases e16 : n = 16
  · subst e16
    have q6 : (s == [112, 111, 112]) = false := by rw [HSN.out]; exact nm_ne HNL.out (k := 6) (by decide) (by decide)
    have q7 : (s == [97, 100, 100]) = false := by rw [HSN.out]; exact nm_ne HNL.out (k := 7) (by decide) (by decide)
    have q8 : (s == [115, 117, 98]) = false := by rw [HSN.out]; exact nm_ne HNL.out (k := 8) (by decide) (by decide)
    have q9 : (s == [109, 117, 108]) = false := by rw [HSN.out]; exact nm_ne HNL.out (k := 9) (by decide) (by decide)
    have q10 : (s == [100, 105, 118]) = false := by rw [HSN.out]; exact nm_ne HNL.out (k := 10) (by decide) (by decide)
    have q11 : (s == [114, 101, 109]) = false := by rw [HSN.out]; exact nm_ne HNL.out (k := 11) (by decide) (by decide)
    have q12 : (s == [110, 101, 103]) = false := by rw [HSN.out]; exact nm_ne HNL.out (k := 12) (by decide) (by decide)
    have q13 : (s == [110, 111, 116]) = false := by rw [HSN.out]; exact nm_ne HNL.out (k := 13) (by decide) (by decide)
    have q14 : (s == [101, 113]) = false := by rw [HSN.out]; exact nm_ne HNL.out (k := 14) (by decide) (by decide)
    have q15 : (s == [110, 101]) = false := by rw [HSN.out]; exact nm_ne HNL.out (k := 15) (by decide) (by decide)
    have q16 : (s == [108, 116]) = true := by rw [HSN.out]; rfl
    have HT : Hid (D = true) := HD.out.trans rfl
    go_wp2
    go_ret
    rw [HT.out]
    exact ⟨rfl, HB4.out⟩
  by_cases e17 : n = 17
  · subst e17
    have q6 : (s == [112, 111, 112]) = false := by rw [HSN.out]; exact nm_ne HNL.out (k := 6) (by decide) (by decide)
    have q7 : (s == [97, 100, 100]) = false := by rw [HSN.out]; exact nm_ne HNL.out (k := 7) (by decide) (by decide)
    have q8 : (s == [115, 117, 98]) = false := by rw [HSN.out]; exact nm_ne HNL.out (k := 8) (by decide) (by decide)
    have q9 : (s == [109, 117, 108]) = false := by rw [HSN.out]; exact nm_ne HNL.out (k := 9) (by decide) (by decide)
    have q10 : (s == [100, 105, 118]) = false := by rw [HSN.out]; exact nm_ne HNL.out (k := 10) (by decide) (by decide)
    have q11 : (s == [114, 101, 109]) = false := by rw [HSN.out]; exact nm_ne HNL.out (k := 11) (by decide) (by decide)
    have q12 : (s == [110, 101, 103]) = false := by rw [HSN.out]; exact nm_ne HNL.out (k := 12) (by decide) (by decide)
    have q13 : (s == [110, 111, 116]) = false := by rw [HSN.out]; exact nm_ne HNL.out (k := 13) (by decide) (by decide)
    have q14 : (s == [101, 113]) = false := by rw [HSN.out]; exact nm_ne HNL.out (k := 14) (by decide) (by decide)
    have q15 : (s == [110, 101]) = false := by rw [HSN.out]; exact nm_ne HNL.out (k := 15) (by decide) (by decide)
    have q16 : (s == [108, 116]) = false := by rw [HSN.out]; exact nm_ne HNL.out (k := 16) (by decide) (by decide)
    have q17 : (s == [108, 101]) = true := by rw [HSN.out]; rfl
    have HT : Hid (D = true) := HD.out.trans rfl
    go_wp2
    go_ret
    rw [HT.out]
    exact ⟨rfl, HB4.out⟩
  by_cases e18 : n = 18
  · subst e18
    have q6 : (s == [112, 111, 112]) = false := by rw [HSN.out]; exact nm_ne HNL.out (k := 6) (by decide) (by decide)
    have q7 : (s == [97, 100, 100]) = false := by rw [HSN.out]; exact nm_ne HNL.out (k := 7) (by decide) (by decide)
    have q8 : (s == [115, 117, 98]) = false := by rw [HSN.out]; exact nm_ne HNL.out (k := 8) (by decide) (by decide)
    have q9 : (s == [109, 117, 108]) = false := by rw [HSN.out]; exact nm_ne HNL.out (k := 9) (by decide) (by decide)
    have q10 : (s == [100, 105, 118]) = false := by rw [HSN.out]; exact nm_ne HNL.out (k := 10) (by decide) (by decide)
    have q11 : (s == [114, 101, 109]) = false := by rw [HSN.out]; exact nm_ne HNL.out (k := 11) (by decide) (by decide)
    have q12 : (s == [110, 101, 103]) = false := by rw [HSN.out]; exact nm_ne HNL.out (k := 12) (by decide) (by decide)
    have q13 : (s == [110, 111, 116]) = false := by rw [HSN.out]; exact nm_ne HNL.out (k := 13) (by decide) (by decide)
    have q14 : (s == [101, 113]) = false := by rw [HSN.out]; exact nm_ne HNL.out (k := 14) (by decide) (by decide)
    have q15 : (s == [110, 101]) = false := by rw [HSN.out]; exact nm_ne HNL.out (k := 15) (by decide) (by decide)
    have q16 : (s == [108, 116]) = false := by rw [HSN.out]; exact nm_ne HNL.out (k := 16) (by decide) (by decide)
    have q17 : (s == [108, 101]) = false := by rw [HSN.out]; exact nm_ne HNL.out (k := 17) (by decide) (by decide)
    have q18 : (s == [103, 116]) = true := by rw [HSN.out]; rfl
    have HT : Hid (D = true) := HD.out.trans rfl
    go_wp2
    go_ret
    rw [HT.out]
    exact ⟨rfl, HB4.out⟩
  by_cases e19 : n = 19
  · subst e19
    have q6 : (s == [112, 111, 112]) = false := by rw [HSN.out]; exact nm_ne HNL.out (k := 6) (by decide) (by decide)
    have q7 : (s == [97, 100, 100]) = false := by rw [HSN.out]; exact nm_ne HNL.out (k := 7) (by decide) (by decide)
    have q8 : (s == [115, 117, 98]) = false := by rw [HSN.out]; exact nm_ne HNL.out (k := 8) (by decide) (by decide)
    have q9 : (s == [109, 117, 108]) = false := by rw [HSN.out]; exact nm_ne HNL.out (k := 9) (by decide) (by decide)
    have q10 : (s == [100, 105, 118]) = false := by rw [HSN.out]; exact nm_ne HNL.out (k := 10) (by decide) (by decide)
    have q11 : (s == [114, 101, 109]) = false := by rw [HSN.out]; exact nm_ne HNL.out (k := 11) (by decide) (by decide)
    have q12 : (s == [110, 101, 103]) = false := by rw [HSN.out]; exact nm_ne HNL.out (k := 12) (by decide) (by decide)
    have q13 : (s == [110, 111, 116]) = false := by rw [HSN.out]; exact nm_ne HNL.out (k := 13) (by decide) (by decide)
    have q14 : (s == [101, 113]) = false := by rw [HSN.out]; exact nm_ne HNL.out (k := 14) (by decide) (by decide)
    have q15 : (s == [110, 101]) = false := by rw [HSN.out]; exact nm_ne HNL.out (k := 15) (by decide) (by decide)
    have q16 : (s == [108, 116]) = false := by rw [HSN.out]; exact nm_ne HNL.out (k := 16) (by decide) (by decide)
    have q17 : (s == [108, 101]) = false := by rw [HSN.out]; exact nm_ne HNL.out (k := 17) (by decide) (by decide)
    have q18 : (s == [103, 116]) = false := by rw [HSN.out]; exact nm_ne HNL.out (k := 18) (by decide) (by decide)
    have q19 : (s == [103, 101]) = true := by rw [HSN.out]; rfl
    have HT : Hid (D = true) := HD.out.trans rfl
    go_wp2
    go_ret
    rw [HT.out]
    exact ⟨rfl, HB4.out⟩
  by_cases e26 : n = 26
  · subst e26
    have q6 : (s == [112, 111, 112]) = false := by rw [HSN.out]; exact nm_ne HNL.out (k := 6) (by decide) (by decide)
    have q7 : (s == [97, 100, 100]) = false := by rw [HSN.out]; exact nm_ne HNL.out (k := 7) (by decide) (by decide)
    have q8 : (s == [115, 117, 98]) = false := by rw [HSN.out]; exact nm_ne HNL.out (k := 8) (by decide) (by decide)
    have q9 : (s == [109, 117, 108]) = false := by rw [HSN.out]; exact nm_ne HNL.out (k := 9) (by decide) (by decide)
    have q10 : (s == [100, 105, 118]) = false := by rw [HSN.out]; exact nm_ne HNL.out (k := 10) (by decide) (by decide)
    have q11 : (s == [114, 101, 109]) = false := by rw [HSN.out]; exact nm_ne HNL.out (k := 11) (by decide) (by decide)
    have q12 : (s == [110, 101, 103]) = false := by rw [HSN.out]; exact nm_ne HNL.out (k := 12) (by decide) (by decide)
    have q13 : (s == [110, 111, 116]) = false := by rw [HSN.out]; exact nm_ne HNL.out (k := 13) (by decide) (by decide)
    have q14 : (s == [101, 113]) = false := by rw [HSN.out]; exact nm_ne HNL.out (k := 14) (by decide) (by decide)
    have q15 : (s == [110, 101]) = false := by rw [HSN.out]; exact nm_ne HNL.out (k := 15) (by decide) (by decide)
    have q16 : (s == [108, 116]) = false := by rw [HSN.out]; exact nm_ne HNL.out (k := 16) (by decide) (by decide)
    have q17 : (s == [108, 101]) = false := by rw [HSN.out]; exact nm_ne HNL.out (k := 17) (by decide) (by decide)
    have q18 : (s == [103, 116]) = false := by rw [HSN.out]; exact nm_ne HNL.out (k := 18) (by decide) (by decide)
    have q19 : (s == [103, 101]) = false := by rw [HSN.out]; exact nm_ne HNL.out (k := 19) (by decide) (by decide)
    have q26 : (s == [105, 110, 100, 101, 120]) = true := by rw [HSN.out]; rfl
    have HT : Hid (D = true) := HD.out.trans rfl
    go_wp2
    go_ret
    rw [HT.out]
    exact ⟨rfl, HB4.out⟩
  by_cases e27 : n = 27
  · subst e27
    have q6 : (s == [112, 111, 112]) = false := by rw [HSN.out]; exact nm_ne HNL.out (k := 6) (by decide) (by decide)
    have q7 : (s == [97, 100, 100]) = false := by rw [HSN.out]; exact nm_ne HNL.out (k := 7) (by decide) (by decide)
    have q8 : (s == [115, 117, 98]) = false := by rw [HSN.out]; exact nm_ne HNL.out (k := 8) (by decide) (by decide)
    have q9 : (s == [109, 117, 108]) = false := by rw [HSN.out]; exact nm_ne HNL.out (k := 9) (by decide) (by decide)
    have q10 : (s == [100, 105, 118]) = false := by rw [HSN.out]; exact nm_ne HNL.out (k := 10) (by decide) (by decide)
    have q11 : (s == [114, 101, 109]) = false := by rw [HSN.out]; exact nm_ne HNL.out (k := 11) (by decide) (by decide)
    have q12 : (s == [110, 101, 103]) = false := by rw [HSN.out]; exact nm_ne HNL.out (k := 12) (by decide) (by decide)
    have q13 : (s == [110, 111, 116]) = false := by rw [HSN.out]; exact nm_ne HNL.out (k := 13) (by decide) (by decide)
    have q14 : (s == [101, 113]) = false := by rw [HSN.out]; exact nm_ne HNL.out (k := 14) (by decide) (by decide)
    have q15 : (s == [110, 101]) = false := by rw [HSN.out]; exact nm_ne HNL.out (k := 15) (by decide) (by decide)
    have q16 : (s == [108, 116]) = false := by rw [HSN.out]; exact nm_ne HNL.out (k := 16) (by decide) (by decide)
    have q17 : (s == [108, 101]) = false := by rw [HSN.out]; exact nm_ne HNL.out (k := 17) (by decide) (by decide)
    have q18 : (s == [103, 116]) = false := by rw [HSN.out]; exact nm_ne HNL.out (k := 18) (by decide) (by decide)
    have q19 : (s == [103, 101]) = false := by rw [HSN.out]; exact nm_ne HNL.out (k := 19) (by decide) (by decide)
    have q26 : (s == [105, 110, 100, 101, 120]) = false := by rw [HSN.out]; exact nm_ne HNL.out (k := 26) (by decide) (by decide)
    have q27 : (s == [115, 101, 116, 105, 110, 100, 101, 120]) = true := by rw [HSN.out]; rfl
    have HT : Hid (D = true) := HD.out.trans rfl
    go_wp2
    go_ret
    rw [HT.out]
    exact ⟨rfl, HB4.out⟩
  by_cases e30 : n = 30
  · subst e30
    have q6 : (s == [112, 111, 112]) = false := by rw [HSN.out]; exact nm_ne HNL.out (k := 6) (by decide) (by decide)
    have q7 : (s == [97, 100, 100]) = false := by rw [HSN.out]; exact nm_ne HNL.out (k := 7) (by decide) (by decide)
    have q8 : (s == [115, 117, 98]) = false := by rw [HSN.out]; exact nm_ne HNL.out (k := 8) (by decide) (by decide)
    have q9 : (s == [109, 117, 108]) = false := by rw [HSN.out]; exact nm_ne HNL.out (k := 9) (by decide) (by decide)
    have q10 : (s == [100, 105, 118]) = false := by rw [HSN.out]; exact nm_ne HNL.out (k := 10) (by decide) (by decide)
    have q11 : (s == [114, 101, 109]) = false := by rw [HSN.out]; exact nm_ne HNL.out (k := 11) (by decide) (by decide)
    have q12 : (s == [110, 101, 103]) = false := by rw [HSN.out]; exact nm_ne HNL.out (k := 12) (by decide) (by decide)
    have q13 : (s == [110, 111, 116]) = false := by rw [HSN.out]; exact nm_ne HNL.out (k := 13) (by decide) (by decide)
    have q14 : (s == [101, 113]) = false := by rw [HSN.out]; exact nm_ne HNL.out (k := 14) (by decide) (by decide)
    have q15 : (s == [110, 101]) = false := by rw [HSN.out]; exact nm_ne HNL.out (k := 15) (by decide) (by decide)
    have q16 : (s == [108, 116]) = false := by rw [HSN.out]; exact nm_ne HNL.out (k := 16) (by decide) (by decide)
    have q17 : (s == [108, 101]) = false := by rw [HSN.out]; exact nm_ne HNL.out (k := 17) (by decide) (by decide)
    have q18 : (s == [103, 116]) = false := by rw [HSN.out]; exact nm_ne HNL.out (k := 18) (by decide) (by decide)
    have q19 : (s == [103, 101]) = false := by rw [HSN.out]; exact nm_ne HNL.out (k := 19) (by decide) (by decide)
    have q26 : (s == [105, 110, 100, 101, 120]) = false := by rw [HSN.out]; exact nm_ne HNL.out (k := 26) (by decide) (by decide)
    have q27 : (s == [115, 101, 116, 105, 110, 100, 101, 120]) = false := by rw [HSN.out]; exact nm_ne HNL.out (k := 27) (by decide) (by decide)
    have q30 : (s == [108, 101, 110]) = true := by rw [HSN.out]; rfl
    have HT : Hid (D = true) := HD.out.trans rfl
    go_wp2
    go_ret
    rw [HT.out]
    exact ⟨rfl, HB4.out⟩
  by_cases e31 : n = 31
  · subst e31
    have q6 : (s == [112, 111, 112]) = false := by rw [HSN.out]; exact nm_ne HNL.out (k := 6) (by decide) (by decide)
    have q7 : (s == [97, 100, 100]) = false := by rw [HSN.out]; exact nm_ne HNL.out (k := 7) (by decide) (by decide)
    have q8 : (s == [115, 117, 98]) = false := by rw [HSN.out]; exact nm_ne HNL.out (k := 8) (by decide) (by decide)
    have q9 : (s == [109, 117, 108]) = false := by rw [HSN.out]; exact nm_ne HNL.out (k := 9) (by decide) (by decide)
    have q10 : (s == [100, 105, 118]) = false := by rw [HSN.out]; exact nm_ne HNL.out (k := 10) (by decide) (by decide)
    have q11 : (s == [114, 101, 109]) = false := by rw [HSN.out]; exact nm_ne HNL.out (k := 11) (by decide) (by decide)
    have q12 : (s == [110, 101, 103]) = false := by rw [HSN.out]; exact nm_ne HNL.out (k := 12) (by decide) (by decide)
    have q13 : (s == [110, 111, 116]) = false := by rw [HSN.out]; exact nm_ne HNL.out (k := 13) (by decide) (by decide)
    have q14 : (s == [101, 113]) = false := by rw [HSN.out]; exact nm_ne HNL.out (k := 14) (by decide) (by decide)
    have q15 : (s == [110, 101]) = false := by rw [HSN.out]; exact nm_ne HNL.out (k := 15) (by decide) (by decide)
    have q16 : (s == [108, 116]) = false := by rw [HSN.out]; exact nm_ne HNL.out (k := 16) (by decide) (by decide)
    have q17 : (s == [108, 101]) = false := by rw [HSN.out]; exact nm_ne HNL.out (k := 17) (by decide) (by decide)
    have q18 : (s == [103, 116]) = false := by rw [HSN.out]; exact nm_ne HNL.out (k := 18) (by decide) (by decide)
    have q19 : (s == [103, 101]) = false := by rw [HSN.out]; exact nm_ne HNL.out (k := 19) (by decide) (by decide)
    have q26 : (s == [105, 110, 100, 101, 120]) = false := by rw [HSN.out]; exact nm_ne HNL.out (k := 26) (by decide) (by decide)
    have q27 : (s == [115, 101, 116, 105, 110, 100, 101, 120]) = false := by rw [HSN.out]; exact nm_ne HNL.out (k := 27) (by decide) (by decide)
    have q30 : (s == [108, 101, 110]) = false := by rw [HSN.out]; exact nm_ne HNL.out (k := 30) (by decide) (by decide)
    have q31 : (s == [115, 104, 111, 119]) = true := by rw [HSN.out]; rfl
    have HT : Hid (D = true) := HD.out.trans rfl
    go_wp2
    go_ret
    rw [HT.out]
    exact ⟨rfl, HB4.out⟩
  by_cases e32 : n = 32
  · subst e32
    have q6 : (s == [112, 111, 112]) = false := by rw [HSN.out]; exact nm_ne HNL.out (k := 6) (by decide) (by decide)
    have q7 : (s == [97, 100, 100]) = false := by rw [HSN.out]; exact nm_ne HNL.out (k := 7) (by decide) (by decide)
    have q8 : (s == [115, 117, 98]) = false := by rw [HSN.out]; exact nm_ne HNL.out (k := 8) (by decide) (by decide)
    have q9 : (s == [109, 117, 108]) = false := by rw [HSN.out]; exact nm_ne HNL.out (k := 9) (by decide) (by decide)
    have q10 : (s == [100, 105, 118]) = false := by rw [HSN.out]; exact nm_ne HNL.out (k := 10) (by decide) (by decide)
    have q11 : (s == [114, 101, 109]) = false := by rw [HSN.out]; exact nm_ne HNL.out (k := 11) (by decide) (by decide)
    have q12 : (s == [110, 101, 103]) = false := by rw [HSN.out]; exact nm_ne HNL.out (k := 12) (by decide) (by decide)
    have q13 : (s == [110, 111, 116]) = false := by rw [HSN.out]; exact nm_ne HNL.out (k := 13) (by decide) (by decide)
    have q14 : (s == [101, 113]) = false := by rw [HSN.out]; exact nm_ne HNL.out (k := 14) (by decide) (by decide)
    have q15 : (s == [110, 101]) = false := by rw [HSN.out]; exact nm_ne HNL.out (k := 15) (by decide) (by decide)
    have q16 : (s == [108, 116]) = false := by rw [HSN.out]; exact nm_ne HNL.out (k := 16) (by decide) (by decide)
    have q17 : (s == [108, 101]) = false := by rw [HSN.out]; exact nm_ne HNL.out (k := 17) (by decide) (by decide)
    have q18 : (s == [103, 116]) = false := by rw [HSN.out]; exact nm_ne HNL.out (k := 18) (by decide) (by decide)
    have q19 : (s == [103, 101]) = false := by rw [HSN.out]; exact nm_ne HNL.out (k := 19) (by decide) (by decide)
    have q26 : (s == [105, 110, 100, 101, 120]) = false := by rw [HSN.out]; exact nm_ne HNL.out (k := 26) (by decide) (by decide)
    have q27 : (s == [115, 101, 116, 105, 110, 100, 101, 120]) = false := by rw [HSN.out]; exact nm_ne HNL.out (k := 27) (by decide) (by decide)
    have q30 : (s == [108, 101, 110]) = false := by rw [HSN.out]; exact nm_ne HNL.out (k := 30) (by decide) (by decide)
    have q31 : (s == [115, 104, 111, 119]) = false := by rw [HSN.out]; exact nm_ne HNL.out (k := 31) (by decide) (by decide)
    have q32 : (s == [102, 105, 108, 108]) = true := by rw [HSN.out]; rfl
    have HT : Hid (D = true) := HD.out.trans rfl
    go_wp2
    go_ret
    rw [HT.out]
    exact ⟨rfl, HB4.out⟩
  by_cases e33 : n = 33
  · subst e33
    have q6 : (s == [112, 111, 112]) = false := by rw [HSN.out]; exact nm_ne HNL.out (k := 6) (by decide) (by decide)
    have q7 : (s == [97, 100, 100]) = false := by rw [HSN.out]; exact nm_ne HNL.out (k := 7) (by decide) (by decide)
    have q8 : (s == [115, 117, 98]) = false := by rw [HSN.out]; exact nm_ne HNL.out (k := 8) (by decide) (by decide)
    have q9 : (s == [109, 117, 108]) = false := by rw [HSN.out]; exact nm_ne HNL.out (k := 9) (by decide) (by decide)
    have q10 : (s == [100, 105, 118]) = false := by rw [HSN.out]; exact nm_ne HNL.out (k := 10) (by decide) (by decide)
    have q11 : (s == [114, 101, 109]) = false := by rw [HSN.out]; exact nm_ne HNL.out (k := 11) (by decide) (by decide)
    have q12 : (s == [110, 101, 103]) = false := by rw [HSN.out]; exact nm_ne HNL.out (k := 12) (by decide) (by decide)
    have q13 : (s == [110, 111, 116]) = false := by rw [HSN.out]; exact nm_ne HNL.out (k := 13) (by decide) (by decide)
    have q14 : (s == [101, 113]) = false := by rw [HSN.out]; exact nm_ne HNL.out (k := 14) (by decide) (by decide)
    have q15 : (s == [110, 101]) = false := by rw [HSN.out]; exact nm_ne HNL.out (k := 15) (by decide) (by decide)
    have q16 : (s == [108, 116]) = false := by rw [HSN.out]; exact nm_ne HNL.out (k := 16) (by decide) (by decide)
    have q17 : (s == [108, 101]) = false := by rw [HSN.out]; exact nm_ne HNL.out (k := 17) (by decide) (by decide)
    have q18 : (s == [103, 116]) = false := by rw [HSN.out]; exact nm_ne HNL.out (k := 18) (by decide) (by decide)
    have q19 : (s == [103, 101]) = false := by rw [HSN.out]; exact nm_ne HNL.out (k := 19) (by decide) (by decide)
    have q26 : (s == [105, 110, 100, 101, 120]) = false := by rw [HSN.out]; exact nm_ne HNL.out (k := 26) (by decide) (by decide)
    have q27 : (s == [115, 101, 116, 105, 110, 100, 101, 120]) = false := by rw [HSN.out]; exact nm_ne HNL.out (k := 27) (by decide) (by decide)
    have q30 : (s == [108, 101, 110]) = false := by rw [HSN.out]; exact nm_ne HNL.out (k := 30) (by decide) (by decide)
    have q31 : (s == [115, 104, 111, 119]) = false := by rw [HSN.out]; exact nm_ne HNL.out (k := 31) (by decide) (by decide)
    have q32 : (s == [102, 105, 108, 108]) = false := by rw [HSN.out]; exact nm_ne HNL.out (k := 32) (by decide) (by decide)
    have q33 : (s == [105, 110, 112, 117, 116]) = true := by rw [HSN.out]; rfl
    have HT : Hid (D = true) := HD.out.trans rfl
    go_wp2
    go_ret
    rw [HT.out]
    exact ⟨rfl, HB4.out⟩
  have q6 : (s == [112, 111, 112]) = false := by rw [HSN.out]; exact nm_ne HNL.out (k := 6) (by decide) e6
  have q7 : (s == [97, 100, 100]) = false := by rw [HSN.out]; exact nm_ne HNL.out (k := 7) (by decide) e7
  have q8 : (s == [115, 117, 98]) = false := by rw [HSN.out]; exact nm_ne HNL.out (k := 8) (by decide) e8
  have q9 : (s == [109, 117, 108]) = false := by rw [HSN.out]; exact nm_ne HNL.out (k := 9) (by decide) e9
  have q10 : (s == [100, 105, 118]) = false := by rw [HSN.out]; exact nm_ne HNL.out (k := 10) (by decide) e10
  have q11 : (s == [114, 101, 109]) = false := by rw [HSN.out]; exact nm_ne HNL.out (k := 11) (by decide) e11
  have q12 : (s == [110, 101, 103]) = false := by rw [HSN.out]; exact nm_ne HNL.out (k := 12) (by decide) e12
  have q13 : (s == [110, 111, 116]) = false := by rw [HSN.out]; exact nm_ne HNL.out (k := 13) (by decide) e13
  have q14 : (s == [101, 113]) = false := by rw [HSN.out]; exact nm_ne HNL.out (k := 14) (by decide) e14
  have q15 : (s == [110, 101]) = false := by rw [HSN.out]; exact nm_ne HNL.out (k := 15) (by decide) e15
  have q16 : (s == [108, 116]) = false := by rw [HSN.out]; exact nm_ne HNL.out (k := 16) (by decide) e16
  have q17 : (s == [108, 101]) = false := by rw [HSN.out]; exact nm_ne HNL.out (k := 17) (by decide) e17
  have q18 : (s == [103, 116]) = false := by rw [HSN.out]; exact nm_ne HNL.out (k := 18) (by decide) e18
  have q19 : (s == [103, 101]) = false := by rw [HSN.out]; exact nm_ne HNL.out (k := 19) (by decide) e19
  have q26 : (s == [105, 110, 100, 101, 120]) = false := by rw [HSN.out]; exact nm_ne HNL.out (k := 26) (by decide) e26
  have q27 : (s == [115, 101, 116, 105, 110, 100, 101, 120]) = false := by rw [HSN.out]; exact nm_ne HNL.out (k := 27) (by decide) e27
  have q30 : (s == [108, 101, 110]) = false := by rw [HSN.out]; exact nm_ne HNL.out (k := 30) (by decide) e30
  have q31 : (s == [115, 104, 111, 119]) = false := by rw [HSN.out]; exact nm_ne HNL.out (k := 31) (by decide) e31
  have q32 : (s == [102, 105, 108, 108]) = false := by rw [HSN.out]; exact nm_ne HNL.out (k := 32) (by decide) e32
  have q33 : (s == [105, 110, 112, 117, 116]) = false := by rw [HSN.out]; exact nm_ne HNL.out (k := 33) (by decide) e33
  have HT : Hid (D = false) := HD.out.trans (decide_eq_false (ops_bare2 ⟨n, HNL.out⟩ (by simp; omega)))
  clear e6 e7 e8 e9 e10 e11 e12 e13 e14 e15 e16 e17 e18 e19 e26 e27 e30 e31 e32 e33
  go_wp2
  go_ret
  rw [HT.out]
  exact ⟨rfl, HB4.out⟩

set_option maxRecDepth 100000 in
set_option maxHeartbeats 1000000 in
theorem rfDig06 (n : Int) (w : World) (h0 : -9223372036854775808 ≤ n) (h1 : n ≤ 9223372036854775807) :
    Calls Tryz.prog 43 #[.int .i64 n] w fun e w' => e = .returned (.string (strB (Lib.itoa n))) ∧ Below w.heap.size w w' := by
  by_cases hn : n < 0
  · by_cases hm : n = -9223372036854775808
    · subst hm
      have HI : Hid (strB (Lib.itoa (-9223372036854775808)) = ⟨#[45, 57, 50, 50, 51, 51, 55, 50, 48, 51, 54, 56, 53, 52, 55, 55, 53, 56, 48, 56]⟩) := by
        show _ = _
        have : Lib.itoa (-9223372036854775808) = [45, 57, 50, 50, 51, 51, 55, 50, 48, 51, 54, 56, 53, 52, 55, 55, 53, 56, 48, 56] := by
          unfold Lib.itoa
          rw [if_pos (by omega)]
          simp [Lib.decDigits]
        rw [this]
      go_enter Tryz.func43, Tryz.ntmps43
      go_wp2
      go_ret
      rw [HI.out]
      exact ⟨rfl, Below.refl _ _⟩
    · obtain ⟨u, rfl⟩ : ∃ u : Nat, n = -(u : Int) := ⟨n.natAbs, by omega⟩
      have hmb : ((-(u : Int)) == -9223372036854775808) = false := by rw [beq_eq_false_iff_ne]; exact hm
      have c := refDigits_any u w (by omega)
      obtain ⟨T, hT⟩ : ∃ T, T = Lib.decDigits u := ⟨_, rfl⟩
      obtain ⟨L, hL⟩ : ∃ L, L = [45] ++ T := ⟨_, rfl⟩
      have hTl : T.length ≤ 100 := by rw [hT]; exact dec_len u (by omega)
      have HI : Hid (Lib.itoa (-(u : Int)) = L) := by
        show _ = _
        unfold Lib.itoa
        rw [if_pos hn, hL, hT]
        simp
      have ha : ∀ W : World, (Op.stringOp .add ⟨#[45]⟩ (strB T)).run Tryz.prog W = .ok (.string (strB L)) W := fun W => by
        rw [hL]; exact cstr_add W [45] T (by simp; omega)
      have e1 : IntKind.i64.wrap (u : Int) = (u : Int) := by rw [IntKind.wrap_i64]; omega
      rw [← hT] at c
      clear hT hL
      go_enter Tryz.func43, Tryz.ntmps43
      go_wp2_with fail
      refine c.mono ?_
      clear c
      rintro e w1 ⟨rfl, hb⟩
      have HB : Hid (Below w.heap.size w w1) := hb
      clear hb
      go_wp2
      go_ret
      rw [HI.out]
      exact ⟨rfl, HB.out⟩
  · obtain ⟨u, rfl⟩ : ∃ u : Nat, n = (u : Int) := ⟨n.toNat, by omega⟩
    have c := refDigits_any u w (by omega)
    have HI : Hid (Lib.itoa (u : Int) = Lib.decDigits u) := by
      show _ = _
      unfold Lib.itoa
      rw [if_neg hn]
      simp
    go_enter Tryz.func43, Tryz.ntmps43
    go_wp2_with fail
    refine c.mono ?_
    clear c
    rintro e w1 ⟨rfl, hb⟩
    have HB : Hid (Below w.heap.size w w1) := hb
    clear hb
    go_wp2
    go_ret
    rw [HI.out]
    exact ⟨rfl, HB.out⟩

end Go.Proofs.YtechkkphbajmoaaGreatDoor
