/- code: an instruction as text. -/
import Derived.Test.YtechkkphbajmoaaGreatDoorMC
import Derived.Test.YtechkkphbajmoaaGreatDoorMX
namespace Go.Proofs.YtechkkphbajmoaaGreatDoor
open Go.RowKit Go.Shelf

theorem cstr_cat (a b : List UInt8) : strB a ++ strB b = strB (a ++ b) := by apply ByteArray.ext; simp [strB]
theorem cstr_add (W : World) (a b : List UInt8) (h : a.length + b.length ≤ 9223372036854775807) : (Op.stringOp .add (strB a) (strB b)).run Tryz.prog W = .ok (.string (strB (a ++ b))) W := by
  rw [run_string_add_sum W _ _ (by rw [strB_size, strB_size]; exact h), cstr_cat]
theorem citoa_len (n : Int) (h0 : -9223372036854775808 ≤ n) (h1 : n ≤ 9223372036854775807) : (Lib.itoa n).length ≤ 1000 := by
  have := wrB_len 2 n [] h0 h1
  rw [show wrB 2 n [] = Lib.itoa n from if_pos rfl] at this
  simp only [List.length_nil] at this
  omega

/-- An instruction as text. -/
def insT (x : In7) : List UInt8 :=
  match opsL[x.op.toNat]? with
  | some r => if r.2.1 = 0 then r.1 else (r.1 ++ [32]) ++ Lib.itoa x.a
  | none => []
theorem ops_name : ∀ r ∈ opsL, r.1.length ≤ 8 := by decide

set_option maxRecDepth 100000 in
set_option maxHeartbeats 4000000 in
theorem cInsText_any (x : In7) (w : World) (ht : OpT w) (hti : TabsP w) (hop : 0 ≤ x.op ∧ x.op < 35) (ha : -9223372036854775808 ≤ x.a ∧ x.a ≤ 9223372036854775807) :
    Calls Tryz.prog 39 #[inV x] w fun e w' => e = .returned (.string (strB (insT x))) ∧ Below w.heap.size w w' := by
  obtain ⟨op, a⟩ := x
  obtain ⟨n, rfl⟩ : ∃ n : Nat, op = n := ⟨op.toNat, by simp only at hop; omega⟩
  simp only at hop ha
  have hn : n < opsL.length := by show n < 35; omega
  obtain ⟨⟨nm, o, tk, pu⟩, hre⟩ : ∃ r, r = opsL[n]'hn := ⟨_, rfl⟩
  obtain ⟨w2, hw2, hb2, HZ2, h1⟩ := box1 w (.cells #[.int .i64 n, .int .i64 a] 62)
  have HW2 : Hid (w2 = w.alloc (.cells #[.int .i64 n, .int .i64 a] 62)) := hw2
  have HB2 : Hid (Below w.heap.size w w2) := hb2
  obtain ⟨w3, hw3, hb3, HZ3, h2⟩ := box1 w2 (.cells #[.string (strB nm), .int .i64 o, .int .i64 tk, .int .i64 pu] 129)
  have HW3 : Hid (w3 = w2.alloc (.cells #[.string (strB nm), .int .i64 o, .int .i64 tk, .int .i64 pu] 129)) := hw3
  have HB3 : Hid (Below w.heap.size w w3) := hb2.trans (hb3.mono hb2.size)
  obtain ⟨q0, q1, q2, q3⟩ := (ht.below hb2 (Nat.le_refl _)) n hn
  rw [← hre] at q0 q1 q2 q3
  simp only at q0 q1 q2 q3
  have hgl := (ht.below hb2 (Nat.le_refl _)).lt
  obtain ⟨i0, i1⟩ := bcells2 h1
  have hn35 : (n : Int) < 35 := hop.2
  have HT3 : Hid (TabsP w3) := hti.below HB3.out (Nat.le_refl _)
  have hnm : nm.length ≤ 8 := by have := ops_name _ (List.getElem_mem hn); rw [← hre] at this; exact this
  obtain ⟨R, hR⟩ : ∃ R, R = insT ⟨n, a⟩ := ⟨_, rfl⟩
  have HR : Hid (R = if o = 0 then nm else (nm ++ [32]) ++ Lib.itoa a) := by
    rw [hR]
    show _ = _
    unfold insT
    simp only [Int.toNat_natCast, List.getElem?_eq_getElem hn, ← hre]
  rw [← hR]
  have HN : Hid (n < 35) := hn
  obtain ⟨p0, p1, p2, p3⟩ := bcells4 h2
  obtain ⟨j0, j1⟩ := bcells2 ((hb3.block _ (heap_lt h1)).trans h1)
  have HL3 : Hid (w2.heap.size < w3.heap.size ∧ w.heap.size < w3.heap.size) := ⟨heap_lt h2, Nat.lt_of_lt_of_le (heap_lt h1) hb3.size⟩
  clear hR hre hn hw2 hw3 ht hti hb2 hb3 h1 h2 HZ2 HZ3
  by_cases o0 : o = 0
  · subst o0
    rw [if_pos rfl] at HR
    go_enter Tryz.func39, Tryz.ntmps39
    go_upto_region 1 with fail
    rw [← HW2.out]
    go_upto_region 2 with fail
    rw [← HW3.out]
    clear q0 q1 q2 q3 i0 i1
    go_wp2
    go_ret
    rw [HR.out]
    exact ⟨rfl, HB3.out⟩
  · have hb0 : (o == 0) = false := by rw [beq_eq_false_iff_ne]; exact o0
    rw [if_neg o0] at HR
    obtain ⟨I, hI⟩ : ∃ I, I = Lib.itoa a := ⟨_, rfl⟩
    have hIl : I.length ≤ 1000 := by rw [hI]; exact citoa_len a ha.1 ha.2
    obtain ⟨M, hM⟩ : ∃ M, M = nm ++ [32] := ⟨_, rfl⟩
    have hMl : M.length ≤ 9 := by rw [hM, List.length_append]; simp; exact hnm
    have s1 : ∀ W, (Op.stringOp .add (strB nm) (strB [32])).run Tryz.prog W = .ok (.string (strB M)) W := fun W => by rw [hM]; exact cstr_add W nm [32] (by simp; omega)
    have s1' : ∀ W, (Op.stringOp .add (strB nm) ⟨#[32]⟩).run Tryz.prog W = .ok (.string (strB M)) W := s1
    have s2 : ∀ W, (Op.stringOp .add (strB M) (strB I)).run Tryz.prog W = .ok (.string (strB R)) W := fun W => by rw [HR.out, ← hM, ← hI]; exact cstr_add W M I (by omega)
    have HC : Hid (∀ W, Below w3.heap.size w3 W → Calls Tryz.prog 38 #[.int .i64 a] W fun e w' => e = .returned (.string (strB I)) ∧ Below w3.heap.size w3 w') := fun W hW => by
      rw [hI]
      refine (Tryz.strconv_Itoa a ha.1 ha.2 W (HT3.out.below hW (Nat.le_refl _)).2).mono ?_
      rintro e w' ⟨he, q, os, hw'⟩
      refine ⟨he, ?_⟩
      rw [hw']
      exact hW.trans (Lib.below_grow w3.heap.size W hW.size q os)
    have hl3 := HL3.out
    have y0 := cls_cell (n := w3.heap.size) p0 (by simp only; omega)
    have y1 := cls_cell (n := w3.heap.size) j1 (by simp only; omega)
    clear o0 hI hM hIl hMl ha hnm HR hl3
    go_enter Tryz.func39, Tryz.ntmps39
    go_upto_region 1 with fail
    rw [← HW2.out]
    go_upto_region 2 with fail
    rw [← HW3.out]
    clear q0 q1 q2 q3 i0 i1
    go_upto_region 4 with fail
    refine wp_region_cls (n := w3.heap.size) (w0 := w3) (Below.refl _ _) (by kernel_rfl) (by kernel_rfl) ?_
    iterate 5 (go_big_quiet_step (fail))
    go_big_quiet_step (exact cls_calls HC.out _)
    iterate 2 (go_big_quiet_step (fail))
    refine wpQuiet_nil ?_
    rintro _ ⟨c, rfl⟩
    obtain ⟨w5, hb5⟩ := c
    dsimp only
    have HB5 : Hid (Below w.heap.size w w5) := HB3.out.trans (hb5.mono HB3.out.size)
    clear hb5
    go_wp2
    go_ret
    exact ⟨rfl, HB5.out⟩
end Go.Proofs.YtechkkphbajmoaaGreatDoor
