/- The document's examples, as the statements ask them of the program each time: they are told as they should be. -/
import Derived.Test.YtffedjgbhdaecaaWReader
import Derived.Lib.SlBytesConst
namespace Go.Proofs.Ytffedjgbhdaecaa
open Go.RowKit

theorem num300 : numB 300 = [216, 4] := by
  show Lib.uvarint (Lib.zigzag 300) = _
  rw [show Lib.zigzag 300 = 600 from rfl, Lib.uvarint_big (by decide), Lib.uvarint_small (by decide)]; rfl
theorem numM1 : numB (-1) = [1] := by
  show Lib.uvarint (Lib.zigzag (-1)) = _
  rw [show Lib.zigzag (-1) = 1 from rfl, Lib.uvarint_small (by decide)]; rfl
theorem num2 : numB 2 = [4] := by
  show Lib.uvarint (Lib.zigzag 2) = _
  rw [show Lib.zigzag 2 = 4 from rfl, Lib.uvarint_small (by decide)]; rfl
theorem textAb : textB ⟨#[97, 98]⟩ = [4, 97, 98] := by
  show numB 2 ++ [97, 98] = _
  rw [num2]; rfl

theorem ex1 : stepR (0 : Int) 0 0 (getI (List.drop 0 [128, 0])) = (0, 0, 4) := by decide
theorem ex2 : stepR ([] : List UInt8) 0 0 (getT (List.drop 0 [4, 97, 98, 2]) 9) = ([97, 98], 3, 0) := by decide
theorem ex3 : stepR (0 : Int) 3 0 (getI (List.drop 3 [4, 97, 98, 2])) = (1, 4, 0) := by decide

set_option maxHeartbeats 4000000 in
set_option maxRecDepth 100000 in
theorem lives_any (w : World) :
    Calls Try.prog 14 #[] w fun e w' => e = .returned (.bool true) ∧ Below w.heap.size w w' := by
  have kc := fun (w : World) (C : Array Value) (n c : Nat) => Lib.run_convert_bytes_const (P := Try.prog) w 22 5 C n c Try.underlying22 Try.underlying5
  go_enter Try.func14, Try.ntmps14
  go_wp2_with fail
  refine (newReader_any _ [128, 0] _ (bytesAt_lit rfl (by unfold maxLen; decide) (fun j u hj => by
    match j, hj with
    | 0, hj => simp [Lib.byteCells] at hj; subst hj; simp
    | 1, hj => simp [Lib.byteCells] at hj; subst hj; simp)) (by decide)).mono ?_
  rintro e w1 ⟨p1, base1, cap1, rfl, hR1, hp1, hp1', ha1, hb1⟩
  have hB1 : Below w.heap.size w w1 := ((Below.refl _ _).alloc (Nat.le_refl _) _).trans (hb1.mono (by simp))
  have hz1 := hB1.size
  simp at hp1 ha1
  have H1 : Hid (ReaderAt w1 p1 base1 cap1 [128, 0] 0 0 ∧ Below w.heap.size w w1 ∧ (∀ a, base1 = some a → a.block < w1.heap.size)) := ⟨hR1, hB1, fun a ha => (ha1 a ha).2⟩
  clear hR1 hB1 hb1 ha1
  go_wp2_with fail
  refine (newReader_any _ [4, 97, 98, 2] _ (bytesAt_lit rfl (by unfold maxLen; decide) (fun j u hj => by
    match j, hj with
    | 0, hj => simp [Lib.byteCells] at hj; subst hj; simp
    | 1, hj => simp [Lib.byteCells] at hj; subst hj; simp
    | 2, hj => simp [Lib.byteCells] at hj; subst hj; simp
    | 3, hj => simp [Lib.byteCells] at hj; subst hj; simp)) (by decide)).mono ?_
  rintro e w2 ⟨p2, base2, cap2, rfl, hR2, hp2, hp2', ha2, hb2⟩
  have hB12 : Below w1.heap.size w1 w2 := ((Below.refl _ _).alloc (Nat.le_refl _) _).trans (hb2.mono (by simp))
  have hz2 := hB12.size
  simp at hp2 ha2
  have H2 : Hid (ReaderAt w2 p1 base1 cap1 [128, 0] 0 0 ∧ ReaderAt w2 p2 base2 cap2 [4, 97, 98, 2] 0 0 ∧ Below w.heap.size w w2 ∧ (∀ a, base1 = some a → a.block ≠ p2) ∧ (∀ a, base2 = some a → a.block ≠ p1)) :=
    ⟨H1.out.1.below hB12 (Nat.le_refl _), hR2, H1.out.2.1.trans (hB12.mono hz1), fun a ha => by have := H1.out.2.2 a ha; omega, fun a ha => by have := (ha2 a ha).1; omega⟩
  clear hR2 hB12 hb2 ha2 H1
  go_wp2_with fail
  have c3 := int_any H2.out.1
  rw [ex1] at c3
  refine c3.mono ?_
  clear c3
  rintro e w3 ⟨rfl, hr, hg⟩
  have hz3 := hg.size
  have H3 : Hid (ReaderAt w3 p1 base1 cap1 [128, 0] 0 4 ∧ ReaderAt w3 p2 base2 cap2 [4, 97, 98, 2] 0 0 ∧ Below w.heap.size w w3 ∧ (∀ a, base1 = some a → a.block ≠ p2)) :=
    ⟨hr, H2.out.2.1.other hg (by omega) H2.out.2.2.2.2, below_of_grown H2.out.2.2.1 hg (by omega) (by omega), H2.out.2.2.2.1⟩
  clear hr hg H2
  go_wp2_with fail
  have c4 := text_any 9 H3.out.2.1
  rw [ex2] at c4
  refine c4.mono ?_
  clear c4
  rintro e w4 ⟨rfl, hr, hg⟩
  have hz4 := hg.size
  have H4 : Hid (ReaderAt w4 p1 base1 cap1 [128, 0] 0 4 ∧ ReaderAt w4 p2 base2 cap2 [4, 97, 98, 2] 3 0 ∧ Below w.heap.size w w4 ∧ (∀ a, base1 = some a → a.block ≠ p2)) :=
    ⟨H3.out.1.other hg (by omega) H3.out.2.2.2, hr, below_of_grown H3.out.2.2.1 hg (by omega) (by omega), H3.out.2.2.2⟩
  clear hr hg H3
  go_wp2_with fail
  have c5 := int_any H4.out.2.1
  rw [ex3] at c5
  refine c5.mono ?_
  clear c5
  rintro e w5 ⟨rfl, hr, hg⟩
  have hz5 := hg.size
  have H5 : Hid (ReaderAt w5 p1 base1 cap1 [128, 0] 0 4 ∧ ReaderAt w5 p2 base2 cap2 [4, 97, 98, 2] 4 0 ∧ Below w.heap.size w w5) :=
    ⟨H4.out.1.other hg (by omega) H4.out.2.2.2, hr, below_of_grown H4.out.2.2.1 hg (by omega) (by omega)⟩
  clear hr hg H4
  go_wp2_with fail
  have c6 := putInt_any (.slice none 0 0) [] 300 (by decide) (by decide) w5 (bytesAt_nil w5) (by decide)
  rw [List.nil_append, num300] at c6
  refine c6.mono ?_
  clear c6
  rintro e w6 ⟨v6, rfl, hown, hb⟩
  have hz6 := hb.size
  obtain ⟨base6, cap6, rfl, hrow, -, -, -⟩ := own_row hown
  have hcv : (convert 22 9 (.slice base6 2 cap6)).run Try.prog w6 = .ok (.string ⟨#[216, 4]⟩) w6 := conv_row w6 base6 [216, 4] cap6 hrow
  have H6 : Hid (ReaderAt w6 p1 base1 cap1 [128, 0] 0 4 ∧ ReaderAt w6 p2 base2 cap2 [4, 97, 98, 2] 4 0 ∧ Below w.heap.size w w6) :=
    ⟨H5.out.1.below hb (Nat.le_refl _), H5.out.2.1.below hb (Nat.le_refl _), H5.out.2.2.trans (hb.mono (by omega))⟩
  clear hown hb hrow H5
  go_wp2_with fail
  have hx : bytesAt (w6.alloc (.cells #[.int .u8 120] 5 (1, 2))) (.slice (some ⟨w6.heap.size, 0, none⟩) 1 1) [120] := bytesAt_lit rfl (by unfold maxLen; decide) (fun j u hj => by
    match j, hj with
    | 0, hj => simp [Lib.byteCells] at hj; subst hj; simp [World.cell?_alloc_mark])
  have c7 := putInt_any (.slice (some ⟨w6.heap.size, 0, none⟩) 1 1) [120] (-1) (by decide) (by decide) _ hx (by decide)
  rw [numM1] at c7
  refine c7.mono ?_
  clear c7 hx
  rintro e w7 ⟨v7, rfl, hown, hb0⟩
  have hb : Below w6.heap.size w6 w7 := ((Below.refl _ _).alloc (Nat.le_refl _) _).trans (hb0.mono (by simp))
  have hz7 := hb.size
  obtain ⟨base7, cap7, rfl, hrow, -, -, -⟩ := own_row hown
  have hcv7 : (convert 22 9 (.slice base7 2 cap7)).run Try.prog w7 = .ok (.string ⟨#[120, 1]⟩) w7 := conv_row w7 base7 [120, 1] cap7 hrow
  have H7 : Hid (ReaderAt w7 p1 base1 cap1 [128, 0] 0 4 ∧ ReaderAt w7 p2 base2 cap2 [4, 97, 98, 2] 4 0 ∧ Below w.heap.size w w7) :=
    ⟨H6.out.1.below hb (Nat.le_refl _), H6.out.2.1.below hb (Nat.le_refl _), H6.out.2.2.trans (hb.mono (by omega))⟩
  clear hown hb hb0 hrow H6 hcv
  go_wp2_with fail
  have c8 := putText_any (.slice none 0 0) [] ⟨#[97, 98]⟩ w7 (bytesAt_nil w7) (by decide)
  rw [List.nil_append, textAb] at c8
  refine c8.mono ?_
  clear c8
  rintro e w8 ⟨v8, rfl, hown, hb⟩
  have hz8 := hb.size
  obtain ⟨base8, cap8, rfl, hrow, -, -, -⟩ := own_row hown
  have hcv8 : (convert 22 9 (.slice base8 3 cap8)).run Try.prog w8 = .ok (.string ⟨#[4, 97, 98]⟩) w8 := conv_row w8 base8 [4, 97, 98] cap8 hrow
  have H8 : Hid (ReaderAt w8 p1 base1 cap1 [128, 0] 0 4 ∧ ReaderAt w8 p2 base2 cap2 [4, 97, 98, 2] 4 0 ∧ Below w.heap.size w w8) :=
    ⟨H7.out.1.below hb (Nat.le_refl _), H7.out.2.1.below hb (Nat.le_refl _), H7.out.2.2.trans (hb.mono (by omega))⟩
  clear hown hb hrow H7 hcv7
  go_wp2_with fail
  have c9 := putBool_any (.slice none 0 0) [] true w8 (bytesAt_nil w8) (by decide)
  rw [List.nil_append, show boolB true = [1] from rfl] at c9
  refine c9.mono ?_
  clear c9
  rintro e w9 ⟨v9, rfl, hown, hb⟩
  have hz9 := hb.size
  obtain ⟨base9, cap9, rfl, hrow, -, -, -⟩ := own_row hown
  have hcv9 : (convert 22 9 (.slice base9 1 cap9)).run Try.prog w9 = .ok (.string ⟨#[1]⟩) w9 := conv_row w9 base9 [1] cap9 hrow
  have H9 : Hid (ReaderAt w9 p1 base1 cap1 [128, 0] 0 4 ∧ ReaderAt w9 p2 base2 cap2 [4, 97, 98, 2] 4 0 ∧ Below w.heap.size w w9) :=
    ⟨H8.out.1.below hb (Nat.le_refl _), H8.out.2.1.below hb (Nat.le_refl _), H8.out.2.2.trans (hb.mono (by omega))⟩
  clear hown hb hrow H8 hcv8
  go_wp2_with fail
  refine (err_any H9.out.1).mono ?_
  rintro e wx ⟨rfl, rfl⟩
  go_wp2_with fail
  refine (at_any H9.out.1).mono ?_
  rintro e wx ⟨rfl, rfl⟩
  go_wp2_with fail
  refine (end_any H9.out.2.1).mono ?_
  rintro e wx ⟨rfl, nq, rfl⟩
  have HA : Hid (Calls Try.prog 10 #[.pointer (some ⟨p2, 0, none⟩)] (w9.drewN nq) fun e w' => e = .returned (.int .i64 4) ∧ w9.drewN nq = w') := at_any (H9.out.2.1.below (⟨rfl, rfl, rfl, Nat.le_refl _, fun _ _ => rfl⟩ : Below w9.heap.size w9 (w9.drewN nq)) (Nat.le_refl _))
  go_wp2_with fail
  refine HA.out.mono ?_
  rintro e wx ⟨rfl, rfl⟩
  go_wp2
  go_ret
  exact ⟨rfl, H9.out.2.2.trans ⟨rfl, rfl, rfl, Nat.le_refl _, fun _ _ => rfl⟩⟩
end Go.Proofs.Ytffedjgbhdaecaa
