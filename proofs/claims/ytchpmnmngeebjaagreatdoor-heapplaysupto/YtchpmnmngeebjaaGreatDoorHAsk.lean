/- heap: New; is one there; what it uses; an object's size. -/
import Derived.Test.YtchpmnmngeebjaaGreatDoorHAnew
import Derived.Test.YtchpmnmngeebjaaGreatDoorWAll
namespace Go.Proofs.YtchpmnmngeebjaaGreatDoor
open Go.RowKit Go.Shelf

theorem below_drewH {n : Nat} {w w' : World} (h : Below n w w') (k : Nat) : Below n w (w'.drewN k) := h.trans (⟨rfl, rfl, rfl, Nat.le_refl _, fun _ _ => rfl⟩ : Below n w' (w'.drewN k))

set_option maxRecDepth 100000 in
set_option maxHeartbeats 1000000 in
theorem isThere_any {S : Nat → Prop} {most : Nat} {os : List Ob} {h : Nat} {vo vc : Value} (w : World) (H : HpIn S w most os h vo vc) :
    Calls Tryz.prog 29 #[.pointer (some ⟨h, 0, none⟩)] w fun e w' => e = .returned (.bool true) ∧ w = w' := by
  obtain ⟨c0, -, -, -, -⟩ := cells4 H.blk
  clear H
  go_enter Tryz.func29, Tryz.ntmps29
  go_wp2
  go_ret
  exact ⟨rfl, rfl⟩

set_option maxRecDepth 100000 in
set_option maxHeartbeats 1000000 in
theorem isThere_nil (w : World) :
    Calls Tryz.prog 29 #[.pointer none] w fun e w' => e = .returned (.bool false) ∧ w = w' := by
  go_enter Tryz.func29, Tryz.ntmps29
  go_wp2
  go_ret
  exact ⟨rfl, rfl⟩

set_option maxRecDepth 100000 in
set_option maxHeartbeats 1000000 in
theorem isThere_bare (h : Nat) (w : World) (h0 : w.cell? ⟨h, 0, none⟩ = some (.bool false)) :
    Calls Tryz.prog 29 #[.pointer (some ⟨h, 0, none⟩)] w fun e w' => e = .returned (.bool false) ∧ w = w' := by
  go_enter Tryz.func29, Tryz.ntmps29
  go_wp2
  go_ret
  exact ⟨rfl, rfl⟩

set_option maxRecDepth 100000 in
set_option maxHeartbeats 1000000 in
theorem uses_any (tag : ByteArray) (b : Option Addr) (n c : Nat) (hn : n ≤ 9223372036854775000) (w : World) :
    Calls Tryz.prog 39 #[.agg #[.string tag, .slice b n c]] w fun e w' => e = .returned (.int .i64 (1 + (n : Int))) ∧ Below w.heap.size w w' := by
  go_enter Tryz.func39, Tryz.ntmps39
  go_wp2
  go_ret
  exact ⟨rfl, (Below.refl _ w).alloc (Nat.le_refl _) _⟩

set_option maxRecDepth 100000 in
set_option maxHeartbeats 1000000 in
theorem size_any (tag : ByteArray) (a b : Int) (n : Nat) (h0 : 0 ≤ a) (h1 : b ≤ 9223372036854775000) (hab : b - a = (n : Int)) (w : World) :
    Calls Tryz.prog 47 #[.agg #[.string tag, .int .i64 a, .int .i64 b]] w fun e w' => e = .returned (.int .i64 (n : Int)) ∧ Below w.heap.size w w' := by
  go_enter Tryz.func47, Tryz.ntmps47
  go_wp2
  go_ret
  exact ⟨rfl, (Below.refl _ w).alloc (Nat.le_refl _) _⟩

/-- Has an object of n cells one at i? -/
def hasB (i : Int) (n : Nat) : Bool := decide (0 ≤ i ∧ i < n)

set_option maxRecDepth 100000 in
set_option maxHeartbeats 1000000 in
theorem has_any (tag : ByteArray) (a b : Int) (n : Nat) (i : Int) (h0 : 0 ≤ a) (h1 : b ≤ 9223372036854775000) (hab : b - a = (n : Int)) (w : World) :
    Calls Tryz.prog 43 #[.agg #[.string tag, .int .i64 a, .int .i64 b], .int .i64 i] w fun e w' => e = .returned (.bool (hasB i n)) ∧ Below w.heap.size w w' := by
  obtain ⟨w1, hw1⟩ : ∃ w1, w1 = w.alloc (.cells #[.string tag, .int .i64 a, .int .i64 b] 79) := ⟨_, rfl⟩
  have hb1 : Below w.heap.size w w1 := by rw [hw1]; exact (Below.refl _ w).alloc (Nat.le_refl _) _
  have hz1 : w1.heap.size = w.heap.size + 1 := by rw [hw1]; simp
  have c := size_any tag a b n h0 h1 hab w1
  have HB1 : Hid (Below w.heap.size w w1) := hb1
  rw [hw1] at c
  clear hb1
  by_cases hi0 : 0 ≤ i
  · go_enter Tryz.func43, Tryz.ntmps43
    go_wp2_with fail
    refine c.mono ?_
    clear c
    rw [← hw1]
    rintro e w2 ⟨rfl, hb2⟩
    have HB2 : Hid (Below w.heap.size w w2) := HB1.out.trans (hb2.mono (by omega))
    clear hb2
    by_cases hi1 : i < n
    · have HD : Hid (hasB i n = true) := decide_eq_true ⟨hi0, hi1⟩
      go_wp2
      go_ret
      rw [HD.out]
      exact ⟨rfl, HB2.out⟩
    · have HD : Hid (hasB i n = false) := decide_eq_false (fun h => hi1 h.2)
      have hf : decide (i < (n : Int)) = false := decide_eq_false hi1
      go_wp2
      go_ret
      rw [HD.out]
      exact ⟨rfl, HB2.out⟩
  · have HD : Hid (hasB i n = false) := decide_eq_false (fun h => hi0 h.1)
    clear c
    go_enter Tryz.func43, Tryz.ntmps43
    go_wp2
    go_ret
    rw [HD.out, ← hw1]
    exact ⟨rfl, HB1.out⟩

set_option maxRecDepth 100000 in
set_option maxHeartbeats 1000000 in
theorem used_any {S : Nat → Prop} {most : Nat} {os : List Ob} {h : Nat} {vo vc : Value} (w : World) (H : HpIn S w most os h vo vc) :
    Calls Tryz.prog 8 #[.pointer (some ⟨h, 0, none⟩)] w fun e w' => e = .returned (.int .i64 ((os.length + (allV os).length : Nat) : Int)) ∧ Below w.heap.size w w' := by
  have c := isThere_any w H
  obtain ⟨-, -, c2, c3, -⟩ := cells4 H.blk
  obtain ⟨ob, oc, rfl, ho1, ho2⟩ := own_val H.objs
  obtain ⟨cb, cc, rfl, hc1, hc2⟩ := own_val H.cells
  have hu := H.use
  have hm := H.may
  clear H
  go_enter Tryz.func8, Tryz.ntmps8
  go_wp2_with fail
  refine c.mono ?_
  clear c
  rintro e w1 ⟨rfl, rfl⟩
  go_wp2
  go_quiet (fail)
  go_wp2
  go_ret
  exact ⟨by simp, (⟨rfl, rfl, rfl, Nat.le_refl _, fun _ _ => rfl⟩ : Below _ w (w.drewN _))⟩
end Go.Proofs.YtchpmnmngeebjaaGreatDoor
