/- What is put is read as it was, whatever stands behind it: the walk of WireBack. -/
import Derived.Test.YtaakkbimlhlihaaWMath
import Derived.Test.YtaakkbimlhlihaaWLives
namespace Go.Proofs.Ytaakkbimlhlihaa
open Go.RowKit

theorem stepR_got {α : Type} {z v : α} {a k : Nat} {g : α × Nat × Nat} (h : g = (v, k, 0)) : stepR z a 0 g = (v, a + k, 0) := by
  subst h; unfold stepR; rw [if_neg (by decide), if_neg (by simp)]

theorem byteArray_back (s : ByteArray) : (⟨s.data.toList.toArray⟩ : ByteArray) = s := by
  cases s; simp

theorem back_drop1 {A B C D : List UInt8} : (((A ++ B) ++ C) ++ D).drop A.length = B ++ (C ++ D) := by
  rw [List.append_assoc, List.append_assoc, List.drop_left, ← List.append_assoc, List.append_assoc]
theorem back_drop2 {A B C D : List UInt8} : (((A ++ B) ++ C) ++ D).drop (A.length + B.length) = C ++ D := by
  rw [List.append_assoc, ← List.length_append, List.drop_left]

set_option maxHeartbeats 4000000 in
set_option maxRecDepth 100000 in
theorem back_walk (n : Int) (is : Bool) (s : ByteArray) (v : Value) (more : List UInt8) (h0 : -9223372036854775808 ≤ n) (h1 : n ≤ 9223372036854775807) (hs : s.size ≤ 1048576) (w : World)
    (hv : bytesAt w v more) (hm : more.length ≤ 1048576) :
    Calls Try.prog 5 #[.int .i64 n, .bool is, .string s, v] w fun e w' => e = .returned (.bool true) ∧ Below w.heap.size w w' := by
  obtain ⟨i0, hi, hz0, hz1, hz2⟩ := info_parts info_u8
  have hnl := numB_len h0 h1
  have hnl2 := numB_len (n := (s.size : Int)) (by omega) (by omega)
  have htl := textB_len s
  have hbl := boolB_len is
  have HTL : Hid ((textB s).length = (numB s.size).length + s.size) := htl
  have HBL : Hid ((boolB is).length = 1) := hbl
  have HV : Hid (bytesAt w v more) := hv
  obtain ⟨baseM, capM, rfl, hmn, hmc, hmx, hmcell⟩ := hv
  clear htl hbl
  go_enter Try.func5, Try.ntmps5
  go_wp2_with fail
  refine (putInt_any (.slice none 0 0) [] n h0 h1 w (bytesAt_nil w) (by decide)).mono ?_
  rintro e w1 ⟨v1, rfl, hown1, hb1⟩
  rw [List.nil_append] at hown1
  have hB1 := bytesAt_own hown1
  have hz1' := hb1.size
  clear hown1
  go_wp2_with fail
  refine (putBool_any v1 (numB n) is w1 hB1 (by omega)).mono ?_
  rintro e w2 ⟨v2, rfl, hown2, hb2⟩
  have hB2 := bytesAt_own hown2
  have hz2' := hb2.size
  clear hown2 hB1
  go_wp2_with fail
  refine (putText_any v2 (numB n ++ boolB is) s w2 hB2 (by rw [List.length_append, HBL.out]; omega)).mono ?_
  rintro e w3 ⟨v3, rfl, hown3, hb3⟩
  have hz3' := hb3.size
  clear hB2
  have hb03 : Below w.heap.size w w3 := (hb1.trans (hb2.mono (by omega))).trans (hb3.mono (by omega))
  obtain ⟨A, hA⟩ : ∃ A, A = (numB n ++ boolB is) ++ textB s := ⟨_, rfl⟩
  rw [← hA] at hown3
  have hAl : A.length ≤ 2000000 := by rw [hA, List.length_append, List.length_append, HBL.out, HTL.out]; omega
  have HA : Hid (A = (numB n ++ boolB is) ++ textB s) := hA
  clear hA hb1 hb2 hb3
  have hb03z := hb03.size
  obtain ⟨base3, cap3, hv3, -, -, -, -⟩ := own_row hown3
  have hown3' := hown3
  rw [hv3] at hown3' ⊢
  clear hown3 hv3
  have e1 : stepR (0 : Int) 0 0 (getI ((A ++ more).drop 0)) = (n, (numB n).length, 0) := by
    rw [stepR_got (v := n) (k := (numB n).length) (by rw [HA.out, List.drop_zero, List.append_assoc, List.append_assoc]; exact getI_put h0 h1 _), Nat.zero_add]
  have e2 : stepR false (numB n).length 0 (getB ((A ++ more).drop (numB n).length)) = (is, (numB n).length + 1, 0) :=
    stepR_got (by rw [HA.out, back_drop1]; exact getB_put is _)
  have e3 : stepR ([] : List UInt8) ((numB n).length + 1) 0 (getT ((A ++ more).drop ((numB n).length + 1)) s.size) = (s.data.toList, A.length, 0) := by
    have h : (A ++ more).drop ((numB n).length + 1) = textB s ++ more := by rw [HA.out, ← HBL.out, back_drop2]
    rw [h, stepR_got (v := s.data.toList) (k := (textB s).length) (by rw [getT_put s more s.size (by omega), if_neg (by omega)])]
    rw [HA.out, List.length_append, List.length_append, HBL.out]
  have E1 : Hid (stepR (0 : Int) 0 0 (getI ((A ++ more).drop 0)) = (n, (numB n).length, 0)) := e1
  have E2 : Hid (stepR false (numB n).length 0 (getB ((A ++ more).drop (numB n).length)) = (is, (numB n).length + 1, 0)) := e2
  have E3 : Hid (stepR ([] : List UInt8) ((numB n).length + 1) 0 (getT ((A ++ more).drop ((numB n).length + 1)) s.size) = (s.data.toList, A.length, 0)) := e3
  clear e1 e2 e3
  cases baseM with
  | none =>
    obtain ⟨rfl, rfl⟩ := hmn rfl
    clear hmn hmc hmx hmcell HV
    have hown4 : w3.ownsRow w.heap.size 5 1 (.slice base3 A.length cap3) (A ++ []).length (Lib.byteCells (A ++ [])) := by rw [List.append_nil]; exact own_base hown3' (by omega)
    have hb4 := hb03
    go_wp2_with (at_builtin; refine wpList_append_own_none rfl _ _ 22 rfl _ 5 i0 1 Try.underlying22 hi _ _ _ rfl hown3' rfl ?_)
    have hz4 := hb4.size
    have hB4 := bytesAt_own hown4
    have HB4 : Hid (Below w.heap.size w w3) := hb4
    clear hown4 hb4
    refine (newReader_any (.slice base3 A.length cap3) (A ++ []) w3 hB4 (by rw [List.length_append]; omega)).mono ?_
    rintro e w5 ⟨p, base, cap, rfl, hR, hp, hp', ha, hb5⟩
    have hz5 := hb5.size
    have H5 : Hid (ReaderAt w5 p base cap (A ++ []) 0 0 ∧ Below w.heap.size w w5) := ⟨hR, HB4.out.trans (hb5.mono hz4)⟩
    clear hR ha hb5 HB4 hB4
    go_wp2_with fail
    have c6 := int_any H5.out.1
    rw [E1.out] at c6
    refine c6.mono ?_
    clear c6
    rintro e w6 ⟨rfl, hr, hg⟩
    have hz6 := hg.size
    have H6 : Hid (ReaderAt w6 p base cap (A ++ []) (numB n).length 0 ∧ Below w.heap.size w w6) := ⟨hr, below_of_grown H5.out.2 hg (by omega) (by omega)⟩
    clear hr hg H5 E1
    go_wp2_with fail
    have c7 := bool_any H6.out.1
    rw [E2.out] at c7
    refine c7.mono ?_
    clear c7
    rintro e w7 ⟨rfl, hr, hg⟩
    have hz7 := hg.size
    have H7 : Hid (ReaderAt w7 p base cap (A ++ []) ((numB n).length + 1) 0 ∧ Below w.heap.size w w7) := ⟨hr, below_of_grown H6.out.2 hg (by omega) (by omega)⟩
    clear hr hg H6 E2
    go_wp2_with fail
    have c8 := text_any s.size H7.out.1
    rw [E3.out] at c8
    simp only [byteArray_back] at c8
    refine c8.mono ?_
    clear c8
    rintro e w8 ⟨rfl, hr, hg⟩
    have hz8 := hg.size
    have H8 : Hid (ReaderAt w8 p base cap (A ++ []) A.length 0 ∧ Below w.heap.size w w8) := ⟨hr, below_of_grown H7.out.2 hg (by omega) (by omega)⟩
    have hz : w.heap.size ≤ w8.heap.size := by omega
    clear hr hg H7 E3 hz4 hz5 hz6 hz7 hz8 hp hp' hz1' hz2' hz3' hb03z
    go_wp2_with fail
    refine (err_any H8.out.1).mono ?_
    rintro e wx ⟨rfl, rfl⟩
    go_wp2_with fail
    refine (at_any H8.out.1).mono ?_
    rintro e wx ⟨rfl, rfl⟩
    go_wp2_with fail
    have c9 := end_any H8.out.1
    obtain ⟨en, hen⟩ : ∃ en, en = endR (A ++ []).length A.length 0 := ⟨_, rfl⟩
    rw [← hen] at c9
    have hen2 : (((en : Nat) : Int) == 0) = ((([] : List UInt8).length : Int) == 0) := by
      rw [hen]; unfold endR; rw [if_neg (by decide), List.length_append]
      by_cases hc : A.length < A.length + ([] : List UInt8).length
      · rw [if_pos hc, beq_eq_false_iff_ne.2 (by omega : ((5 : Nat) : Int) ≠ 0), beq_eq_false_iff_ne.2 (by omega)]
      · rw [if_neg hc, beq_iff_eq.2 (by omega : ((0 : Nat) : Int) = 0), beq_iff_eq.2 (by omega)]
    clear hen
    refine c9.mono ?_
    clear c9
    rintro e wx ⟨rfl, nq, rfl⟩
    go_wp2_with fail
    refine (lives_any _).mono ?_
    rintro e w9 ⟨rfl, hb9⟩
    have HF : Hid (Below w.heap.size w w9) := H8.out.2.trans ((⟨rfl, rfl, rfl, Nat.le_refl _, fun _ _ => rfl⟩ : Below w.heap.size w8 (w8.drewN nq)).trans (hb9.mono hz))
    clear hb9
    go_wp2
    go_ret
    exact ⟨rfl, HF.out⟩
  | some aM =>
    have hmc' : ∀ j u, (Lib.byteCells more)[j]? = some u → w3.cell? (aM.add j) = some u := fun j u hj => by
      have h := hmcell aM rfl j u hj
      rw [hb03.cell (World.block_lt_of_cell? w _ h)]
      exact h
    have HMC : Hid (∀ j u, (Lib.byteCells more)[j]? = some u → w3.cell? (aM.add j) = some u) := hmc'
    clear hmc' hmcell hmn HV hmc
    go_wp2_with (at_builtin; refine wpList_append_own _ rfl _ _ 22 rfl w.heap.size 5 i0 (.int .u8 0) 1 1 Try.underlying22 hi hz0 hz1 hz2 rfl (by decide) _ _ _ rfl (own_base hown3' (by omega)) aM more.length capM (Lib.byteCells more) rfl ?c0 ?c1 ?c2 ?c3 ?c4 ?c5 ?_)
    case c0 => simp [Lib.byteCells_length]
    case c1 => exact HMC.out
    case c2 => exact bytes_one more
    case c3 => unfold maxLen; omega
    case c4 => omega
    case c5 => omega
    intro v4 w4 hown4' hgrow _
    have hown4 : w4.ownsRow w.heap.size 5 1 v4 (A ++ more).length (Lib.byteCells (A ++ more)) := by rw [List.length_append, Lib.byteCells_append]; exact hown4'
    have hb4 : Below w.heap.size w w4 := hb03.grown hgrow (by omega) (fun k hk => by have := (hown3'.lt k hk).1; omega)
    clear hown4' hgrow hown3' hb03 HMC
    have hz4 := hb4.size
    have hB4 := bytesAt_own hown4
    have HB4 : Hid (Below w.heap.size w w4) := hb4
    clear hown4 hb4
    go_wp2_with fail
    refine (newReader_any v4 (A ++ more) w4 hB4 (by rw [List.length_append]; omega)).mono ?_
    rintro e w5 ⟨p, base, cap, rfl, hR, hp, hp', ha, hb5⟩
    have hz5 := hb5.size
    have H5 : Hid (ReaderAt w5 p base cap (A ++ more) 0 0 ∧ Below w.heap.size w w5) := ⟨hR, HB4.out.trans (hb5.mono hz4)⟩
    clear hR ha hb5 HB4 hB4
    go_wp2_with fail
    have c6 := int_any H5.out.1
    rw [E1.out] at c6
    refine c6.mono ?_
    clear c6
    rintro e w6 ⟨rfl, hr, hg⟩
    have hz6 := hg.size
    have H6 : Hid (ReaderAt w6 p base cap (A ++ more) (numB n).length 0 ∧ Below w.heap.size w w6) := ⟨hr, below_of_grown H5.out.2 hg (by omega) (by omega)⟩
    clear hr hg H5 E1
    go_wp2_with fail
    have c7 := bool_any H6.out.1
    rw [E2.out] at c7
    refine c7.mono ?_
    clear c7
    rintro e w7 ⟨rfl, hr, hg⟩
    have hz7 := hg.size
    have H7 : Hid (ReaderAt w7 p base cap (A ++ more) ((numB n).length + 1) 0 ∧ Below w.heap.size w w7) := ⟨hr, below_of_grown H6.out.2 hg (by omega) (by omega)⟩
    clear hr hg H6 E2
    go_wp2_with fail
    have c8 := text_any s.size H7.out.1
    rw [E3.out] at c8
    simp only [byteArray_back] at c8
    refine c8.mono ?_
    clear c8
    rintro e w8 ⟨rfl, hr, hg⟩
    have hz8 := hg.size
    have H8 : Hid (ReaderAt w8 p base cap (A ++ more) A.length 0 ∧ Below w.heap.size w w8) := ⟨hr, below_of_grown H7.out.2 hg (by omega) (by omega)⟩
    have hz : w.heap.size ≤ w8.heap.size := by omega
    clear hr hg H7 E3 hz4 hz5 hz6 hz7 hz8 hp hp' hz1' hz2' hz3' hb03z
    go_wp2_with fail
    refine (err_any H8.out.1).mono ?_
    rintro e wx ⟨rfl, rfl⟩
    go_wp2_with fail
    refine (at_any H8.out.1).mono ?_
    rintro e wx ⟨rfl, rfl⟩
    go_wp2_with fail
    have c9 := end_any H8.out.1
    obtain ⟨en, hen⟩ : ∃ en, en = endR (A ++ more).length A.length 0 := ⟨_, rfl⟩
    rw [← hen] at c9
    have hen2 : (((en : Nat) : Int) == 0) = ((more.length : Int) == 0) := by
      rw [hen]; unfold endR; rw [if_neg (by decide), List.length_append]
      by_cases hc : A.length < A.length + more.length
      · rw [if_pos hc, beq_eq_false_iff_ne.2 (by omega : ((5 : Nat) : Int) ≠ 0), beq_eq_false_iff_ne.2 (by omega)]
      · rw [if_neg hc, beq_iff_eq.2 (by omega : ((0 : Nat) : Int) = 0), beq_iff_eq.2 (by omega)]
    clear hen
    refine c9.mono ?_
    clear c9
    rintro e wx ⟨rfl, nq, rfl⟩
    go_wp2_with fail
    refine (lives_any _).mono ?_
    rintro e w9 ⟨rfl, hb9⟩
    have HF : Hid (Below w.heap.size w w9) := H8.out.2.trans ((⟨rfl, rfl, rfl, Nat.le_refl _, fun _ _ => rfl⟩ : Below w.heap.size w8 (w8.drewN nq)).trans (hb9.mono hz))
    clear hb9
    go_wp2
    go_ret
    exact ⟨rfl, HF.out⟩
end Go.Proofs.Ytaakkbimlhlihaa
