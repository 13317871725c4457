/- code: may a variable stand in a unit. -/
import Derived.Test.YtechkkphbajmoaaGreatDoorCBox
namespace Go.Proofs.YtechkkphbajmoaaGreatDoor
open Go.RowKit Go.Shelf

abbrev vrV (x : Vr) : Value := .agg #[.string (strB x.name), .int .i64 x.slot, .int .i64 x.lo, .int .i64 x.hi]
def varR (slots : Int) (ni : Nat) (v : Vr) : Bool := decide (backB 1 0 v.name) && (decide (0 ≤ v.slot ∧ v.slot ≤ slots - 1) && (decide (0 ≤ v.lo ∧ v.lo ≤ v.hi) && decide (v.hi ≤ (ni : Int))))

set_option maxRecDepth 100000 in
set_option maxHeartbeats 4000000 in
theorem cRightVar_any (u : Un) (bi bv : Option Addr) (ni ci nv cv : Nat) (x : Vr) (hs : 0 ≤ u.slots ∧ u.slots ≤ 32) (hl : x.name.length ≤ 1048576) (w : World) (ht : TabsP w) :
    Calls Tryz.prog 112 #[unV u (.slice bi ni ci) (.slice bv nv cv), vrV x] w fun e w' => e = .returned (.bool (varR u.slots ni x)) ∧ Below w.heap.size w w' := by
  obtain ⟨name, params, slots, stack, result, ins, vars⟩ := u
  obtain ⟨vn, vs, lo, hi⟩ := x
  simp only at hs hl ⊢
  obtain ⟨w2, hw2, hb2, HZ2, h0, h1⟩ := box2 w (.cells #[.string (strB name), .int .i64 params, .int .i64 slots, .int .i64 stack, .bool result, .slice bi ni ci, .slice bv nv cv] 58) (.cells #[.string (strB vn), .int .i64 vs, .int .i64 lo, .int .i64 hi] 121)
  have HW2 : Hid (w2 = (w.alloc (.cells #[.string (strB name), .int .i64 params, .int .i64 slots, .int .i64 stack, .bool result, .slice bi ni ci, .slice bv nv cv] 58)).alloc (.cells #[.string (strB vn), .int .i64 vs, .int .i64 lo, .int .i64 hi] 121)) := hw2
  have HB2 : Hid (Below w.heap.size w w2) := hb2
  have c1 := cIsName_any vn w2 hl (ht.below hb2 (Nat.le_refl _))
  have C2 : Hid (∀ W, Calls Tryz.prog 23 #[.int .i64 vs, .int .i64 0, .int .i64 (slots - 1)] W fun e w' => e = .returned (.bool (decide (0 ≤ vs ∧ vs ≤ slots - 1))) ∧ Below W.heap.size W w') := fun W => cIsIn_any vs 0 (slots - 1) W
  have C3 : Hid (∀ W, Calls Tryz.prog 23 #[.int .i64 lo, .int .i64 0, .int .i64 hi] W fun e w' => e = .returned (.bool (decide (0 ≤ lo ∧ lo ≤ hi))) ∧ Below W.heap.size W w') := fun W => cIsIn_any lo 0 hi W
  obtain ⟨q1, hq1⟩ : ∃ q, q = decide (backB 1 0 vn) := ⟨_, rfl⟩
  obtain ⟨q2, hq2⟩ : ∃ q, q = decide (0 ≤ vs ∧ vs ≤ slots - 1) := ⟨_, rfl⟩
  obtain ⟨q3, hq3⟩ : ∃ q, q = decide (0 ≤ lo ∧ lo ≤ hi) := ⟨_, rfl⟩
  have HR : Hid (varR slots ni ⟨vn, vs, lo, hi⟩ = (q1 && (q2 && (q3 && decide (hi ≤ (ni : Int)))))) := by
    show _ = _
    rw [hq1, hq2, hq3]; rfl
  obtain ⟨R, hR⟩ : ∃ R, R = varR slots ni ⟨vn, vs, lo, hi⟩ := ⟨_, rfl⟩
  rw [← hR] at HR ⊢
  rw [← hq1] at c1
  rw [← hq2] at C2
  rw [← hq3] at C3
  have hs0 : 0 ≤ slots := hs.1
  have hs1 : slots ≤ 32 := hs.2
  have HU : Hid (∀ W, Below w.heap.size w W → True) := fun _ _ => trivial
  have HF : Hid (∀ W, Below w2.heap.size w2 W → (W.cell? ⟨w.heap.size, 2, none⟩ = some (.int .i64 slots) ∧ W.cell? ⟨w.heap.size, 5, none⟩ = some (.slice bi ni ci)) ∧ W.cell? ⟨w.heap.size + 1, 0, none⟩ = some (.string (strB vn)) ∧ W.cell? ⟨w.heap.size + 1, 1, none⟩ = some (.int .i64 vs) ∧ W.cell? ⟨w.heap.size + 1, 2, none⟩ = some (.int .i64 lo) ∧ W.cell? ⟨w.heap.size + 1, 3, none⟩ = some (.int .i64 hi)) := fun W hW => by
    have hz := HZ2.out
    obtain ⟨-, -, a2, -, -, a5, -⟩ := cells7 ((hW.block w.heap.size (by omega)).trans h0)
    exact ⟨⟨a2, a5⟩, bcells4 ((hW.block (w.heap.size + 1) (by omega)).trans h1)⟩
  clear hw2 hb2 h0 h1 hq1 hq2 hq3 hR hs ht hl HU HZ2
  go_enter Tryz.func112, Tryz.ntmps112
  go_wp2_with fail
  rw [← HW2.out]
  refine c1.mono ?_
  clear c1
  rintro e w3 ⟨rfl, hb3⟩
  have HB3 : Hid (Below w2.heap.size w2 w3) := hb3
  clear hb3
  cases q1 with
  | false =>
    go_wp2
    go_ret
    rw [HR.out]
    exact ⟨rfl, HB2.out.trans (HB3.out.mono HB2.out.size)⟩
  | true =>
    obtain ⟨⟨a2, a5⟩, a0, a1, a3, a4⟩ := HF.out w3 HB3.out
    have c2 := C2.out w3
    go_wp2_with fail
    refine c2.mono ?_
    clear c2 a2 a5 a0 a1 a3 a4
    rintro e w4 ⟨rfl, hb4⟩
    have HB4 : Hid (Below w2.heap.size w2 w4) := HB3.out.trans (hb4.mono HB3.out.size)
    clear hb4
    cases q2 with
    | false =>
      go_wp2
      go_ret
      rw [HR.out]
      exact ⟨rfl, HB2.out.trans (HB4.out.mono HB2.out.size)⟩
    | true =>
      obtain ⟨⟨a2, a5⟩, a0, a1, a3, a4⟩ := HF.out w4 HB4.out
      have c3 := C3.out w4
      go_wp2_with fail
      refine c3.mono ?_
      clear c3 a2 a5 a0 a1 a3 a4
      rintro e w5 ⟨rfl, hb5⟩
      have HB5 : Hid (Below w2.heap.size w2 w5) := HB4.out.trans (hb5.mono HB4.out.size)
      clear hb5
      cases q3 with
      | false =>
        go_wp2
        go_ret
        rw [HR.out]
        exact ⟨rfl, HB2.out.trans (HB5.out.mono HB2.out.size)⟩
      | true =>
        obtain ⟨⟨a2, a5⟩, a0, a1, a3, a4⟩ := HF.out w5 HB5.out
        go_wp2
        go_ret
        rw [HR.out]
        exact ⟨rfl, HB2.out.trans (HB5.out.mono HB2.out.size)⟩
end Go.Proofs.YtechkkphbajmoaaGreatDoor
