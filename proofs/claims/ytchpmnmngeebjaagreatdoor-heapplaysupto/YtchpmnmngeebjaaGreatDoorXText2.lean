/- lex: how a token is written. -/
import Derived.Test.YtchpmnmngeebjaaGreatDoorXText
namespace Go.Proofs.YtchpmnmngeebjaaGreatDoor
open Go.RowKit Go.Shelf

/-- The tables, and that of Itoa. -/
def TabsP (w : World) : Prop := Tabs w ∧ Lib.TabIs Tryz.prog w "internal/strconv.uint64pow10" .u64 Lib.pow10Tab

theorem TabsP.below {w w' : World} {B : Nat} (h : TabsP w) (hb : Below B w w') (hB : w.heap.size ≤ B) : TabsP w' :=
  ⟨h.1.below hb hB, Lib.tabBelow_of_tabIs h.2 w' (hb.mono hB)⟩

/-- How a token is written, if it is one. -/
def wrB (k n : Int) (s : List UInt8) : List UInt8 := if k = 2 then Lib.itoa n else if k = 3 then quoteB s else s

set_option maxHeartbeats 4000000 in
set_option maxRecDepth 100000 in
theorem written_any (k n a b : Int) (s : List UInt8) (w : World) (hn0 : -9223372036854775808 ≤ n) (hn1 : n ≤ 9223372036854775807) (hl : s.length ≤ 100000000) (ht : TabsP w) :
    Calls Tryz.prog 66 #[.agg #[.int .i64 k, .string (strB s), .int .i64 n, .int .i64 a, .int .i64 b]] w fun e w' => e = .returned (.string (strB (wrB k n s))) ∧ Below w.heap.size w w' := by
  obtain ⟨w1, hw1⟩ : ∃ w1, w1 = w.alloc (.cells #[.int .i64 k, .string (strB s), .int .i64 n, .int .i64 a, .int .i64 b] 100) := ⟨_, rfl⟩
  have hb1 : Below w.heap.size w w1 := by rw [hw1]; exact (Below.refl _ w).alloc (Nat.le_refl _) _
  have HT : Hid (TabsP w1) := ht.below hb1 (Nat.le_refl _)
  have HB1 : Hid (Below w.heap.size w w1) := hb1
  have hz1 := hb1.size
  clear ht hb1
  by_cases h2 : k = 2
  · have HR : Hid (wrB k n s = Lib.itoa n) := if_pos h2
    have c1 := Tryz.strconv_Itoa n hn0 hn1 w1 HT.out.2
    rw [hw1] at c1
    subst h2
    go_enter Tryz.func66, Tryz.ntmps66
    go_wp2_with fail
    refine c1.mono ?_
    clear c1
    rintro e w2 ⟨rfl, q, os, hw2⟩
    have HB2 : Hid (Below w.heap.size w w2) := by
      show Below w.heap.size w w2
      rw [← hw1] at hw2
      rw [hw2]
      exact HB1.out.trans (Lib.below_grow w.heap.size w1 hz1 q os)
    clear hw2 hw1
    go_wp2
    go_ret
    rw [HR.out]
    exact ⟨rfl, HB2.out⟩
  · have h2b : (k == 2) = false := by rw [beq_eq_false_iff_ne]; exact h2
    by_cases h3 : k = 3
    · have HR : Hid (wrB k n s = quoteB s) := show _ = _ by unfold wrB; rw [if_neg h2, if_pos h3]
      have c1 := quoted_any s w1 hl HT.out.1
      rw [hw1] at c1
      subst h3
      go_enter Tryz.func66, Tryz.ntmps66
      go_wp2_with fail
      refine c1.mono ?_
      clear c1
      rintro e w2 ⟨rfl, hb2⟩
      have HB2 : Hid (Below w.heap.size w w2) := by
        show Below w.heap.size w w2
        rw [← hw1] at hb2
        exact HB1.out.trans (hb2.mono hz1)
      clear hb2 hw1
      go_wp2
      go_ret
      rw [HR.out]
      exact ⟨rfl, HB2.out⟩
    · have h3b : (k == 3) = false := by rw [beq_eq_false_iff_ne]; exact h3
      have HR : Hid (wrB k n s = s) := show _ = _ by unfold wrB; rw [if_neg h2, if_neg h3]
      have HB2 : Hid (Below w.heap.size w (w.alloc (.cells #[.int .i64 k, .string (strB s), .int .i64 n, .int .i64 a, .int .i64 b] 100))) := by rw [← hw1]; exact HB1.out
      clear hw1
      go_enter Tryz.func66, Tryz.ntmps66
      go_wp2
      go_ret
      rw [HR.out]
      exact ⟨rfl, HB2.out⟩

/-- Is a token read from what is written of it? -/
def backB (k n : Int) (s : List UInt8) : Prop := (tokT (wrB k n s)).e = 0 ∧ ((tokT (wrB k n s)).k : Int) = k ∧ (tokT (wrB k n s)).s = s ∧ ((tokT (wrB k n s)).n : Int) = n
instance (k n : Int) (s : List UInt8) : Decidable (backB k n s) := by unfold backB; infer_instance
/-- A token's text, or ErrArg. -/
def tkB (k n : Int) (s : List UInt8) : List UInt8 × Nat := if backB k n s then (wrB k n s, 0) else ([], 2)

theorem wrB_len (k n : Int) (s : List UInt8) (hn0 : -9223372036854775808 ≤ n) (hn1 : n ≤ 9223372036854775807) : (wrB k n s).length ≤ 2 * s.length + 30 := by
  have key : ∀ u : Nat, u ≤ 9223372036854775808 → (Lib.decDigits u).length ≤ 20 := fun u hu => by
    rw [Lib.decDigits_length]
    rcases Nat.lt_or_ge (Lib.nDigits u) 21 with h | h
    · omega
    · exfalso
      have h1 := Lib.nDigits_pos u
      have : ∀ (j u : Nat), j + 1 ≤ Lib.nDigits u → 10 ^ j ≤ u ∨ j = 0 := by
        intro j
        induction j with
        | zero => intro u _; exact .inr rfl
        | succ j ih =>
          intro u hj
          by_cases hu : u < 10
          · rw [Lib.nDigits_small hu] at hj; omega
          · rw [Lib.nDigits_big hu] at hj
            left
            rcases ih (u / 10) (by omega) with h9 | h9
            · rw [Nat.pow_succ]; omega
            · subst h9; omega
      rcases this 19 u (by omega) with h9 | h9
      · have : (10 : Nat) ^ 19 = 10000000000000000000 := by decide
        omega
      · omega
  unfold wrB
  split
  · unfold Lib.itoa
    split
    · have := key n.natAbs (by omega)
      rw [List.length_cons]
      omega
    · have := key n.toNat (by omega)
      omega
  · split
    · unfold quoteB
      have := flat_len s
      rw [List.length_cons, List.length_append, List.length_singleton]
      omega
    · omega

set_option maxHeartbeats 4000000 in
set_option maxRecDepth 100000 in
theorem lexText_any (k n a b : Int) (s : List UInt8) (w : World) (hn0 : -9223372036854775808 ≤ n) (hn1 : n ≤ 9223372036854775807) (hl : s.length ≤ 100000000) (ht : TabsP w) :
    Calls Tryz.prog 55 #[.agg #[.int .i64 k, .string (strB s), .int .i64 n, .int .i64 a, .int .i64 b]] w fun e w' => e = .returned (.tuple #[.string (strB (tkB k n s).1), .int .i64 (tkB k n s).2]) ∧ Below w.heap.size w w' := by
  obtain ⟨w1, hw1⟩ : ∃ w1, w1 = w.alloc (.cells #[.int .i64 k, .string (strB s), .int .i64 n, .int .i64 0, .int .i64 0] 100) := ⟨_, rfl⟩
  have hb1 : Below w.heap.size w w1 := by rw [hw1]; exact (Below.refl _ w).alloc (Nat.le_refl _) _
  have hz1 : w1.heap.size = w.heap.size + 1 := by rw [hw1]; simp
  have hblk : w1.heap[w.heap.size]? = some (.cells #[.int .i64 k, .string (strB s), .int .i64 n, .int .i64 0, .int .i64 0] 100 (0, 0)) := by rw [hw1]; exact World.alloc_heap_new w _
  have HT : Hid (TabsP w1) := ht.below hb1 (Nat.le_refl _)
  have HB1 : Hid (Below w.heap.size w w1) := hb1
  have c1 := written_any k n 0 0 s w1 hn0 hn1 hl HT.out
  have hwl := wrB_len k n s hn0 hn1
  have HTK : Hid (tkB k n s = if backB k n s then (wrB k n s, 0) else ([], 2)) := rfl
  have HBB : Hid (backB k n s ↔ (tokT (wrB k n s)).e = 0 ∧ ((tokT (wrB k n s)).k : Int) = k ∧ (tokT (wrB k n s)).s = s ∧ ((tokT (wrB k n s)).n : Int) = n) := Iff.rfl
  obtain ⟨x, hx⟩ : ∃ x, x = wrB k n s := ⟨_, rfl⟩
  rw [← hx] at c1 hwl HTK HBB
  obtain ⟨R, hR⟩ : ∃ R, R = tokT x := ⟨_, rfl⟩
  rw [← hR] at HBB
  have c2 := fun wx (h : Tabs wx) => token_any x wx (by omega) h
  rw [← hR] at c2
  unfold resV at c2
  have c3 := fun wx => clone_str x wx (by omega)
  clear ht hb1 hx hR
  rw [hw1] at c1
  go_enter Tryz.func55, Tryz.ntmps55
  go_wp2_with fail
  refine c1.mono ?_
  clear c1
  rw [← hw1]
  rintro e w2 ⟨rfl, hb2⟩
  have hT2 := HT.out.below hb2 (Nat.le_refl _)
  have hblk2 := (hb2.block w.heap.size (by omega)).trans hblk
  have HB2 : Hid (Below w.heap.size w w2) := HB1.out.trans (hb2.mono (by omega))
  have hz2 : w.heap.size + 1 ≤ w2.heap.size := by rw [← hz1]; exact hb2.size
  have c2' := c2 w2 hT2.1
  clear hb2 c2 hw1 hblk hT2
  go_wp2_with fail
  refine c2'.mono ?_
  clear c2'
  rintro e w3 ⟨rfl, hb3⟩
  have hblk3 := (hb3.block w.heap.size (by omega)).trans hblk2
  have HB3 : Hid (Below w.heap.size w w3) := HB2.out.trans (hb3.mono (by omega))
  have hz3 : w.heap.size + 1 ≤ w3.heap.size := Nat.le_trans hz2 hb3.size
  have q0 : ∀ o, (w3.alloc o).cell? ⟨w.heap.size, 0, none⟩ = some (.int .i64 k) := fun o => Lib.cell?_alloc_some o (by rw [cell_of_row _ _ _ _ _ _ hblk3]; rfl)
  have q1 : ∀ o, (w3.alloc o).cell? ⟨w.heap.size, 1, none⟩ = some (.string (strB s)) := fun o => Lib.cell?_alloc_some o (by rw [cell_of_row _ _ _ _ _ _ hblk3]; rfl)
  have q2 : ∀ o, (w3.alloc o).cell? ⟨w.heap.size, 2, none⟩ = some (.int .i64 n) := fun o => Lib.cell?_alloc_some o (by rw [cell_of_row _ _ _ _ _ _ hblk3]; rfl)
  have q3 : ∀ o, (w3.alloc o).cell? ⟨w.heap.size, 3, none⟩ = some (.int .i64 0) := fun o => Lib.cell?_alloc_some o (by rw [cell_of_row _ _ _ _ _ _ hblk3]; rfl)
  have q4 : ∀ o, (w3.alloc o).cell? ⟨w.heap.size, 4, none⟩ = some (.int .i64 0) := fun o => Lib.cell?_alloc_some o (by rw [cell_of_row _ _ _ _ _ _ hblk3]; rfl)
  clear hb3 hblk2 hblk3
  by_cases he : R.e = 0
  · rw [he]
    by_cases hk : (R.k : Int) = k
    · by_cases hs : R.s = s
      · by_cases hn : (R.n : Int) = n
        · have HTT : Hid (tkB k n s = (x, 0)) := HTK.out.trans (if_pos (HBB.out.2 ⟨he, hk, hs, hn⟩))
          rw [hk, hs, hn]
          have c3' := c3 (w3.alloc (.cells #[.int .i64 k, .string (strB s), .int .i64 n, .int .i64 0, .int .i64 0] 100))
          go_wp2_with fail
          refine c3'.mono ?_
          clear c3' c3
          rintro e w4 ⟨rfl, hb4⟩
          have HB4 : Hid (Below w.heap.size w w4) := (HB3.out.alloc (by omega) _).trans (hb4.mono (by simp; omega))
          clear hb4
          go_wp2
          go_ret2
          rw [HTT.out]
          exact ⟨rfl, HB4.out⟩
        · have HTT : Hid (tkB k n s = ([], 2)) := HTK.out.trans (if_neg (fun h => hn (HBB.out.1 h).2.2.2))
          have hnb : ((R.n : Int) == n) = false := by rw [beq_eq_false_iff_ne]; exact hn
          rw [hk, hs]
          clear c3
          go_wp2
          go_ret2
          rw [HTT.out]
          exact ⟨rfl, HB3.out.alloc (by omega) _⟩
      · have HTT : Hid (tkB k n s = ([], 2)) := HTK.out.trans (if_neg (fun h => hs (HBB.out.1 h).2.2.1))
        have hsb : (R.s == s) = false := by rw [beqL]; exact decide_eq_false hs
        rw [hk]
        clear c3
        go_wp2
        go_ret2
        rw [HTT.out]
        exact ⟨rfl, HB3.out.alloc (by omega) _⟩
    · have HTT : Hid (tkB k n s = ([], 2)) := HTK.out.trans (if_neg (fun h => hk (HBB.out.1 h).2.1))
      have hkb : ((R.k : Int) == k) = false := by rw [beq_eq_false_iff_ne]; exact hk
      clear c3
      go_wp2
      go_ret2
      rw [HTT.out]
      exact ⟨rfl, HB3.out.alloc (by omega) _⟩
  · have HTT : Hid (tkB k n s = ([], 2)) := HTK.out.trans (if_neg (fun h => he (HBB.out.1 h).1))
    have heb : ((R.e : Int) != 0) = true := by rw [bne_iff_ne]; omega
    clear c3
    go_wp2
    go_ret2
    rw [HTT.out]
    exact ⟨rfl, HB3.out.alloc (by omega) _⟩
end Go.Proofs.YtchpmnmngeebjaaGreatDoor
