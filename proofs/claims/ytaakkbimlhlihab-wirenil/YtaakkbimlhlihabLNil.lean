/- Of no reader, and of one that nothing made, there is nothing: for every input WireNil returns true, and its arguments read behind the call as they read before. -/
import Derived.Test.YtaakkbimlhlihabRows
import Derived.Test.YtaakkbimlhlihabWLives
import Derived.ProofKit
import Derived.OpenShut
namespace Go.Proofs.Ytaakkbimlhlihab
open Go.RowKit

/-- A pointer to no reader, or to one that nothing made. -/
def NoReader (w : World) (v : Option Addr) : Prop := v = none ∨ ∃ p, v = some ⟨p, 0, none⟩ ∧ w.cell? ⟨p, 0, none⟩ = some (.bool false) ∧ w.cell? ⟨p, 2, none⟩ = some (.int .i64 0)

theorem NoReader.below {w w' : World} {v : Option Addr} {B : Nat} (h : NoReader w v) (hb : Below B w w') (hB : w.heap.size ≤ B) : NoReader w' v := by
  rcases h with h | ⟨p, h, h0, h2⟩
  · exact .inl h
  · have hp := World.block_lt_of_cell? w _ h0
    exact .inr ⟨p, h, (hb.cell (p := ⟨p, 0, none⟩) (by simp at hp ⊢; omega)).trans h0, (hb.cell (p := ⟨p, 2, none⟩) (by simp at hp ⊢; omega)).trans h2⟩

set_option maxHeartbeats 1000000 in
set_option maxRecDepth 100000 in
theorem errNil {w : World} {v : Option Addr} (h : NoReader w v) : Calls Try.prog 9 #[.pointer v] w fun e w' => e = .returned (.int .i64 1) ∧ w = w' := by
  rcases h with rfl | ⟨p, rfl, h0, h2⟩
  · go_enter Try.func9, Try.ntmps9
    go_wp2
    go_ret
    exact ⟨rfl, rfl⟩
  · go_enter Try.func9, Try.ntmps9
    go_wp2
    go_ret
    exact ⟨rfl, rfl⟩

set_option maxHeartbeats 1000000 in
set_option maxRecDepth 100000 in
theorem atNil {w : World} {v : Option Addr} (h : NoReader w v) : Calls Try.prog 8 #[.pointer v] w fun e w' => e = .returned (.int .i64 0) ∧ w = w' := by
  rcases h with rfl | ⟨p, rfl, h0, h2⟩
  · go_enter Try.func8, Try.ntmps8
    go_wp2
    go_ret
    exact ⟨rfl, rfl⟩
  · go_enter Try.func8, Try.ntmps8
    go_wp2
    go_ret
    exact ⟨rfl, rfl⟩

set_option maxHeartbeats 1000000 in
set_option maxRecDepth 100000 in
theorem endNil {w : World} {v : Option Addr} (h : NoReader w v) : Calls Try.prog 10 #[.pointer v] w fun e w' => e = .returned (.int .i64 1) ∧ w = w' := by
  go_enter Try.func10, Try.ntmps10
  go_wp2_with (go_at_call 9; refine (errNil h).mono ?_; rintro e w' ⟨rfl, rfl⟩)
  go_ret
  exact ⟨rfl, rfl⟩

set_option maxHeartbeats 1000000 in
set_option maxRecDepth 100000 in
theorem intNil {w : World} {v : Option Addr} (h : NoReader w v) : Calls Try.prog 4 #[.pointer v] w fun e w' => e = .returned (.int .i64 0) ∧ w = w' := by
  go_enter Try.func4, Try.ntmps4
  go_wp2_with (first | (go_at_call 9; refine (errNil h).mono ?_; rintro e w' ⟨rfl, rfl⟩) | go_in)
  go_ret
  exact ⟨rfl, rfl⟩

set_option maxHeartbeats 1000000 in
set_option maxRecDepth 100000 in
theorem boolNil {w : World} {v : Option Addr} (h : NoReader w v) : Calls Try.prog 5 #[.pointer v] w fun e w' => e = .returned (.bool false) ∧ w = w' := by
  go_enter Try.func5, Try.ntmps5
  go_wp2_with (first | (go_at_call 9; refine (errNil h).mono ?_; rintro e w' ⟨rfl, rfl⟩) | go_in)
  go_ret
  exact ⟨rfl, rfl⟩

set_option maxHeartbeats 1000000 in
set_option maxRecDepth 100000 in
theorem countNil {w : World} {v : Option Addr} (most : Int) (h : NoReader w v) : Calls Try.prog 6 #[.pointer v, .int .i64 most] w fun e w' => e = .returned (.int .i64 0) ∧ Below w.heap.size w w' := by
  have hb : Below w.heap.size w (w.alloc (.cells #[.int .i64 most] 3)) := (Below.refl _ _).alloc (Nat.le_refl _) _
  have h1 := h.below hb (Nat.le_refl _)
  have hmf := run_mf
  go_enter Try.func6, Try.ntmps6
  go_wp2_with (first | (go_at_call 9; refine (errNil h1).mono ?_; rintro e w' ⟨rfl, rfl⟩) | go_in)
  go_ret
  exact ⟨rfl, hb⟩

set_option maxHeartbeats 1000000 in
set_option maxRecDepth 100000 in
theorem textNil {w : World} {v : Option Addr} (most : Int) (h : NoReader w v) : Calls Try.prog 7 #[.pointer v, .int .i64 most] w fun e w' => e = .returned (.string ⟨#[]⟩) ∧ Below w.heap.size w w' := by
  have hb : Below w.heap.size w (w.alloc (.cells #[.int .i64 most] 3)) := (Below.refl _ _).alloc (Nat.le_refl _) _
  have h1 := h.below hb (Nat.le_refl _)
  have hmf := run_mf
  go_enter Try.func7, Try.ntmps7
  go_wp2_with (first | (go_at_call 9; refine (errNil h1).mono ?_; rintro e w' ⟨rfl, rfl⟩) | go_in)
  go_ret
  exact ⟨rfl, hb⟩

set_option maxHeartbeats 4000000 in
set_option maxRecDepth 100000 in
/-- The last part: whatever pointer stands in r. -/
theorem nil_walk (most : Int) (made : Bool) (w : World) :
    Calls Try.prog 3 #[.int .i64 most, .bool made] w fun e w' => e = .returned (.bool true) ∧ Below w.heap.size w w' := by
  cases made with
  | true =>
    have hb0 : Below w.heap.size w (w.alloc (.cells #[.bool false, .slice none 0 0, .int .i64 0, .int .i64 0] 26)) := (Below.refl _ _).alloc (Nat.le_refl _) _
    have h : NoReader (w.alloc (.cells #[.bool false, .slice none 0 0, .int .i64 0, .int .i64 0] 26)) (some ⟨w.heap.size, 0, none⟩) := .inr ⟨w.heap.size, rfl, by simp, by simp⟩
    have hz0 := hb0.size
    go_enter Try.func3, Try.ntmps3
    go_wp2_with fail
    refine (intNil h).mono ?_
    rintro e wx ⟨rfl, rfl⟩
    go_wp2_with fail
    refine (boolNil h).mono ?_
    rintro e wx ⟨rfl, rfl⟩
    go_wp2_with fail
    refine (countNil most h).mono ?_
    rintro e w1 ⟨rfl, hb1⟩
    have h1 := h.below hb1 (Nat.le_refl _)
    have hz1 := hb1.size
    go_wp2_with fail
    refine (textNil most h1).mono ?_
    rintro e w2 ⟨rfl, hb2⟩
    have h2 := h1.below hb2 (Nat.le_refl _)
    have hz2 := hb2.size
    go_wp2_with fail
    refine (atNil h2).mono ?_
    rintro e wx ⟨rfl, rfl⟩
    go_wp2_with fail
    refine (errNil h2).mono ?_
    rintro e wx ⟨rfl, rfl⟩
    go_wp2_with fail
    refine (endNil h2).mono ?_
    rintro e wx ⟨rfl, rfl⟩
    go_wp2_with fail
    refine (lives_any w2).mono ?_
    rintro e w3 ⟨rfl, hb3⟩
    go_wp2
    go_ret
    exact ⟨rfl, hb0.trans ((hb1.mono hz0).trans ((hb2.mono (by omega)).trans (hb3.mono (by omega))))⟩
  | false =>
    have h : NoReader w none := .inl rfl
    go_enter Try.func3, Try.ntmps3
    go_wp2_with fail
    refine (intNil h).mono ?_
    rintro e wx ⟨rfl, rfl⟩
    go_wp2_with fail
    refine (boolNil h).mono ?_
    rintro e wx ⟨rfl, rfl⟩
    go_wp2_with fail
    refine (countNil most h).mono ?_
    rintro e w1 ⟨rfl, hb1⟩
    have h1 := h.below hb1 (Nat.le_refl _)
    have hz1 := hb1.size
    go_wp2_with fail
    refine (textNil most h1).mono ?_
    rintro e w2 ⟨rfl, hb2⟩
    have h2 := h1.below hb2 (Nat.le_refl _)
    have hz2 := hb2.size
    go_wp2_with fail
    refine (atNil h2).mono ?_
    rintro e wx ⟨rfl, rfl⟩
    go_wp2_with fail
    refine (errNil h2).mono ?_
    rintro e wx ⟨rfl, rfl⟩
    go_wp2_with fail
    refine (endNil h2).mono ?_
    rintro e wx ⟨rfl, rfl⟩
    go_wp2_with fail
    refine (lives_any w2).mono ?_
    rintro e w3 ⟨rfl, hb3⟩
    go_wp2
    go_ret
    exact ⟨rfl, hb1.trans ((hb2.mono (by omega)).trans (hb3.mono (by omega)))⟩
end Go.Proofs.Ytaakkbimlhlihab
