/- Frames one behind the other, cut off anywhere. -/
import Derived.Test.YtffedjgbhdaecaaFRefAll
namespace Go.Proofs.Ytffedjgbhdaecaa
open Go.RowKit

/-- The frames of some bytes, one behind the other. -/
def catF (ys : List (List UInt8)) : List UInt8 := (ys.map frameB).flatten

theorem catF_nil : catF [] = [] := rfl
theorem catF_cons (y : List UInt8) (ys : List (List UInt8)) : catF (y :: ys) = frameB y ++ catF ys := rfl
theorem catF_append (xs ys : List (List UInt8)) : catF (xs ++ ys) = catF xs ++ catF ys := by unfold catF; simp
theorem catF_snoc (ys : List (List UInt8)) (k : Nat) (h : k < ys.length) : catF (ys.take (k + 1)) = catF (ys.take k) ++ frameB ys[k] := by
  rw [List.take_succ_eq_append_getElem h, catF_append, catF_cons, catF_nil, List.append_nil]

theorem catF_len_le : ∀ (ys : List (List UInt8)), (∀ y ∈ ys, y.length ≤ 2000) → (catF ys).length ≤ 2014 * ys.length
  | [], _ => by simp [catF]
  | y :: ys, h => by
    have h1 := catF_len_le ys (fun z hz => h z (List.mem_cons_of_mem _ hz))
    have h2 := h y (List.mem_cons_self ..)
    have h3 := numB_len (n := (y.length : Int)) (by omega) (by omega)
    have h4 := frameB_len y
    rw [catF_cons, List.length_append, List.length_cons]
    omega

theorem framesTo_cat : ∀ (ys : List (List UInt8)) (pre more : List UInt8), (∀ y ∈ ys, y.length ≤ 1048576) → framesTo (pre ++ catF ys ++ more) pre.length ys (pre.length + (catF ys).length)
  | [], pre, more, _ => by simp [framesTo, catF]
  | y :: ys, pre, more, h => by
    have e : pre ++ catF (y :: ys) ++ more = pre ++ frameB y ++ (catF ys ++ more) := by rw [catF_cons]; simp
    have h1 := getAt_put (h y (List.mem_cons_self ..)) pre (catF ys ++ more)
    have h2 := framesTo_cat ys (pre ++ frameB y) more (fun z hz => h z (List.mem_cons_of_mem _ hz))
    refine ⟨(pre ++ frameB y).length, by rw [e]; exact h1, ?_⟩
    rw [e]
    rw [show pre ++ frameB y ++ catF ys ++ more = pre ++ frameB y ++ (catF ys ++ more) by simp] at h2
    have e3 : pre.length + (catF (y :: ys)).length = (pre ++ frameB y).length + (catF ys).length := by rw [catF_cons, List.length_append, List.length_append]; omega
    rw [e3]
    exact h2

theorem getL_cut {y : List UInt8} (hy : y.length ≤ 1048576) {j : Nat} (hj : j < (frameB y).length) : (getL ((frameB y).take j)).2.2 ≠ 0 := by
  have e : frameB y = numB y.length ++ (y ++ leB (sumB (headB y))) := by unfold frameB headB; simp
  have hfl := frameB_len y
  by_cases h : j < (numB y.length).length
  · have ht : (frameB y).take j = (numB y.length).take j := by rw [e, List.take_append_of_le_length (by omega)]
    have hc : cntF ((frameB y).take j) = (0, 0, 3) := by
      rw [ht]
      unfold cntF
      have hg := getI_cut (n := (y.length : Int)) (by omega) (by omega) h
      have hgc : getC ((numB y.length).take j) 1048576 = (0, 0, 3) := by unfold getC; rw [hg]; simp
      rw [hgc]; simp [stepR]
    unfold getL
    rw [hc]; simp
  · have ht : (frameB y).take j = numB y.length ++ (y ++ leB (sumB (headB y))).take (j - (numB y.length).length) := by
      rw [e, List.take_append, List.take_of_length_le (by omega)]
    have hc : cntF ((frameB y).take j) = ((y.length : Int), (numB y.length).length, 0) := by rw [ht]; exact cntF_put hy _
    have hl : ((frameB y).take j).length = j := by rw [List.length_take]; omega
    unfold getL
    rw [hc, if_neg (by simp), hl]
    simp only [Int.toNat_natCast]
    rw [if_pos (by omega)]
    simp

/-- Cut off at c: those that are whole, and an error behind them. -/
theorem cut_math {ys : List (List UInt8)} (hy : ∀ y ∈ ys, y.length ≤ 1048576) {c k : Nat} (hk : k ≤ ys.length) (h1 : (catF (ys.take k)).length ≤ c)
    (h2 : k = ys.length ∨ c < (catF (ys.take (k + 1))).length) :
    framesTo ((catF ys).take c) 0 (ys.take k) (catF (ys.take k)).length ∧ (getAt ((catF ys).take c) (catF (ys.take k)).length).2.2 ≠ 0 := by
  obtain ⟨A, hA⟩ : ∃ A, A = catF (ys.take k) := ⟨_, rfl⟩
  have e : catF ys = A ++ catF (ys.drop k) := by rw [hA, ← catF_append, List.take_append_drop]
  have e2 : (catF ys).take c = A ++ (catF (ys.drop k)).take (c - A.length) := by
    rw [e, List.take_append, List.take_of_length_le (by rw [hA]; exact h1)]
  rw [← hA] at h1 ⊢
  rw [e2]
  constructor
  · have h := framesTo_cat (ys.take k) [] ((catF (ys.drop k)).take (c - A.length)) (fun y hy' => hy y (List.mem_of_mem_take hy'))
    rw [← hA] at h
    simpa using h
  · unfold getAt
    rw [List.drop_left]
    by_cases hkl : k = ys.length
    · rw [hkl, List.drop_length, catF_nil, List.take_nil, getL_nil, if_pos (by simp)]
      simp
    · have hlt : k < ys.length := by omega
      have hcl : c < (catF (ys.take (k + 1))).length := h2.resolve_left hkl
      rw [catF_snoc ys k hlt, ← hA, List.length_append] at hcl
      have ed : ys.drop k = ys[k] :: ys.drop (k + 1) := List.drop_eq_getElem_cons hlt
      rw [ed, catF_cons, List.take_append_of_le_length (by omega)]
      have hne := getL_cut (hy ys[k] (List.getElem_mem hlt)) (j := c - A.length) (by omega)
      rw [if_pos hne]
      exact hne
end Go.Proofs.Ytffedjgbhdaecaa
