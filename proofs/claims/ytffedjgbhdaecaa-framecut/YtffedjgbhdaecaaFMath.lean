/- What is put is got. -/
import Derived.Test.YtffedjgbhdaecaaFAll
namespace Go.Proofs.Ytffedjgbhdaecaa
open Go.RowKit

theorem cntF_put {n : Nat} (hn : n ≤ 1048576) (rest : List UInt8) : cntF (numB n ++ rest) = ((n : Int), (numB n).length, 0) := by
  unfold cntF
  have h : getC (numB n ++ rest) 1048576 = ((n : Int), (numB n).length, 0) := by
    rw [getC_put (by omega) (by omega), if_neg (by omega), if_neg (by omega)]
  rw [h]
  simp [stepR]

theorem frameB_len (x : List UInt8) : (frameB x).length = (numB x.length).length + x.length + 4 := by
  unfold frameB headB; rw [List.length_append, List.length_append, leB_len]

theorem getL_put {x : List UInt8} (hx : x.length ≤ 1048576) (more : List UInt8) : getL (frameB x ++ more) = (x, (frameB x).length, 0) := by
  have hc : cntF (frameB x ++ more) = ((x.length : Int), (numB x.length).length, 0) := by
    have e : frameB x ++ more = numB x.length ++ (x ++ (leB (sumB (headB x)) ++ more)) := by unfold frameB headB; simp
    rw [e]; exact cntF_put hx _
  have hlen := frameB_len x
  have hh : (headB x).length = (numB x.length).length + x.length := by unfold headB; rw [List.length_append]
  unfold getL
  rw [hc]
  simp only [Int.toNat_natCast]
  rw [if_neg (by simp), if_neg (by rw [List.length_append]; omega)]
  have e2 : frameB x ++ more = headB x ++ (leB (sumB (headB x)) ++ more) := by unfold frameB; simp
  have ht : (frameB x ++ more).take ((numB x.length).length + x.length) = headB x := by rw [e2, ← hh, List.take_left]
  have hd : ((frameB x ++ more).drop ((numB x.length).length + x.length)).take 4 = leB (sumB (headB x)) := by
    rw [e2, ← hh, List.drop_left]
    exact List.take_left (l₁ := leB (sumB (headB x)))
  have hx' : ((frameB x ++ more).drop (numB x.length).length).take x.length = x := by
    have e : frameB x ++ more = numB x.length ++ (x ++ (leB (sumB (headB x)) ++ more)) := by unfold frameB headB; simp
    rw [e, List.drop_left, List.take_left]
  rw [ht, hd, if_pos rfl, hx', hlen]

theorem getAt_put {x : List UInt8} (hx : x.length ≤ 1048576) (A more : List UInt8) : getAt (A ++ frameB x ++ more) A.length = (x, (A ++ frameB x).length, 0) := by
  unfold getAt
  have hd : (A ++ frameB x ++ more).drop A.length = frameB x ++ more := by rw [List.append_assoc, List.drop_left]
  rw [hd, getL_put hx, if_neg (by simp), List.length_append]
end Go.Proofs.Ytffedjgbhdaecaa
