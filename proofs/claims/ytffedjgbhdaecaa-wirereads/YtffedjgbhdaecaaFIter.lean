/- The function that iterates over frames. -/
import Derived.RangeFuncNested
import Derived.RangeFuncBound
import Derived.RangeFuncCalls
import Derived.RangeFuncLeaves
import Derived.RangeFuncBox
import Derived.Shelf.Abstract
import Derived.Shelf.RegionOpen
import Derived.WalkKit
import Derived.OwnWalkIn
import Derived.TacticsInMore
import Derived.LoopNIn
import Derived.LoopIn
import Derived.Maps.AppendAt
import Derived.Test.YtffedjgbhdaecaaFGet
namespace Go.Proofs.Ytffedjgbhdaecaa
open Go.RowKit Go.Shelf

attribute [local go_sem] Oper.semAt_some

/-- From the place a on stand the frames of xs, up to the place e. -/
def framesTo (bs : List UInt8) : Nat → List (List UInt8) → Nat → Prop
  | a, [], e => e = a
  | a, x :: xs, e => ∃ b, getAt bs a = (x, b, 0) ∧ framesTo bs b xs e

theorem framesTo_snoc {bs : List UInt8} {x : List UInt8} {e e' : Nat} (h2 : getAt bs e = (x, e', 0)) : ∀ {xs : List (List UInt8)} {a : Nat}, framesTo bs a xs e → framesTo bs a (xs ++ [x]) e'
  | [], a, h => by
    obtain rfl : e = a := h
    exact ⟨e', h2, rfl⟩
  | y :: ys, a, ⟨b, hb, h⟩ => ⟨b, hb, framesTo_snoc h2 h⟩

theorem getAt_bound {bs x : List UInt8} {a b : Nat} (h : getAt bs a = (x, b, 0)) (ha : a ≤ bs.length) : a + 4 ≤ b ∧ b ≤ bs.length := by
  unfold getAt at h
  split at h
  · rename_i h1
    have h2 := congrArg (fun p => p.2.2) h
    exact absurd h2 h1
  · rename_i h1
    have h2 := congrArg (fun p => p.2.1) h
    simp only at h2
    unfold getL at h1 h2
    split at h2
    · rename_i h3; rw [if_pos h3] at h1; exact absurd h3 (by simpa using h1)
    · rename_i h3
      rw [if_neg h3] at h1
      split at h2
      · rename_i h4; rw [if_pos h4] at h1; simp at h1
      · rename_i h4
        rw [if_neg h4] at h1
        split at h2
        · rw [List.length_drop] at h4
          simp only at h2
          omega
        · rename_i h5; rw [if_neg h5] at h1; simp at h1

set_option maxRecDepth 100000 in
set_option maxHeartbeats 1000000 in
theorem frames1_in (l Bn n₀ : Nat) (v : Value) (bs : List UInt8) (hlen : bs.length ≤ 9223372036854775807) (J : List (Value × List UInt8) → Nat → World → Prop)
    (hJc : ∀ pre a W, J pre a W → W.cell? ⟨Bn, 0, none⟩ = some v ∧ bytesAt W v bs ∧ n₀ ≤ W.heap.size)
    (hJg : ∀ pre a W W', J pre a W → Below W.heap.size W W' → J pre a W')
    (hY : ∀ pre a W1 x xs b, J pre a W1 → W1.ownsRow n₀ 5 1 x xs.length (Lib.byteCells xs) → getAt bs a = (xs, b, 0) → a ≤ bs.length → YieldAt Fence.wide (4 - 1) Try.prog l #[x, .int .i64 b] W1 fun e W' => e = .returned (.bool true) ∧ J (pre ++ [(x, xs)]) b W')
    (W : World) (h0 : J [] 0 W) :
    CallsIn Fence.wide 4 Try.prog 56 #[.func (.yield l) #[] #[], .pointer (some ⟨Bn, 0, none⟩)] W fun e W' => (∃ u, e = .returned u) ∧ ∃ pre a, (getAt bs a).2.2 ≠ 0 ∧ J pre a W' := by
  obtain ⟨hc, hb, hn⟩ := hJc _ _ _ h0
  refine callsIn_of_wp Try.func56 rfl trivial ?_ rfl
  simp only [Try.ntmps56, List.size_toArray, List.length_cons, List.length_nil, Nat.reduceAdd, Nat.reduceSub, Array.replicate_succ, Array.replicate_zero, List.push_toArray, List.append_toArray, List.nil_append, List.cons_append]
  gi_wp2_with (refine ⟨trivial, ?_⟩; gi_at_call 15; refine (callsIn_wide.2 (getIn_any v bs 0 W hb (Nat.zero_le _))).mono ?_; rintro e w1 ⟨x, rfl, hown, hb1⟩)
  have hJ1 := hJg _ _ _ _ h0 hb1
  have hown1 : w1.ownsRow n₀ 5 1 x (getAt bs 0).1.length (Lib.byteCells (getAt bs 0).1) := own_base hown hn
  clear hown
  gi_loopw [3, 4, 5] (fun xv av ev wr => ∃ (pre : List (Value × List UInt8)) (a : Nat), J pre a wr ∧ a ≤ bs.length ∧ av = .int .i64 (getAt bs a).2.1 ∧ ev = .int .i64 (getAt bs a).2.2 ∧ wr.ownsRow n₀ 5 1 xv (getAt bs a).1.length (Lib.byteCells (getAt bs a).1))
    (fun _ av ev _ => if intOf ev = 0 then bs.length + 1 - (intOf av).toNat else 0)
  case atStart => exact ⟨[], 0, hJ1, Nat.zero_le _, rfl, rfl, hown1⟩
  case round =>
    obtain ⟨pre, a, hJ, ha, rfl, rfl, hown⟩ := hrel
    obtain ⟨hc2, hb2, hn2⟩ := hJc _ _ _ hJ
    by_cases he : (getAt bs a).2.2 = 0
    · obtain ⟨xs, hxs⟩ : ∃ xs, xs = (getAt bs a).1 := ⟨_, rfl⟩
      obtain ⟨b, hb⟩ : ∃ b, b = (getAt bs a).2.1 := ⟨_, rfl⟩
      have hG : getAt bs a = (xs, b, 0) := by rw [hxs, hb, ← he]
      obtain ⟨hab, hbl⟩ := getAt_bound hG ha
      rw [hG] at hown ⊢
      obtain ⟨fn, tmps, assign, body, hy, hR⟩ := hY pre a wr _ xs b hJ hown hG ha
      have HG : Hid (getAt bs a = (xs, b, 0)) := hG
      clear hxs he hb hG
      gi_wp2
      refine hR.mono ?_
      rintro e W3 ⟨rfl, hJ3⟩
      obtain ⟨hc3, hb3, hn3⟩ := hJc _ _ _ hJ3
      clear hR hy hc2 hb2
      gi_wp2_with (refine ⟨trivial, ?_⟩; gi_at_call 15; refine (callsIn_wide.2 (getIn_any v bs b W3 hb3 hbl)).mono ?_; rintro e w4 ⟨x4, rfl, hown4, hb4⟩)
      have hJ4 := hJg _ _ _ _ hJ3 hb4
      go_roundw
      case rel => exact ⟨pre ++ [(_, xs)], b, hJ4, hbl, rfl, rfl, own_base hown4 hn3⟩
      case measure =>
        show (if (((getAt bs b).2.2 : Nat) : Int) = 0 then bs.length + 1 - (((getAt bs b).2.1 : Nat) : Int).toNat else 0) < (if ((0 : Nat) : Int) = 0 then bs.length + 1 - ((b : Nat) : Int).toNat else 0)
        rw [if_pos (show ((0 : Nat) : Int) = 0 from rfl)]
        by_cases h4 : (getAt bs b).2.2 = 0
        · have hG2 : getAt bs b = ((getAt bs b).1, (getAt bs b).2.1, 0) := by rw [← h4]
          have hbd := getAt_bound hG2 hbl
          rw [if_pos (by rw [h4]; rfl)]
          omega
        · rw [if_neg (by omega)]
          omega
    · have HE : Hid ((getAt bs a).2.2 ≠ 0) := he
      obtain ⟨er, her⟩ : ∃ er, er = (getAt bs a).2.2 := ⟨_, rfl⟩
      rw [← her] at he ⊢
      have t0 : ((er : Int) == 0) = false := by rw [beq_eq_false_iff_ne]; omega
      clear her he
      gi_wp2
      refine ⟨fun _ h => (by cases h), ?_⟩
      gi_wp2
      go_end0
      exact ⟨⟨_, rfl⟩, pre, a, HE.out, hJ⟩
end Go.Proofs.Ytffedjgbhdaecaa
