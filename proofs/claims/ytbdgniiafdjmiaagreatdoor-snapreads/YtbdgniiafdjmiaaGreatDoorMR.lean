import Derived.Test.YtbdgniiafdjmiaaGreatDoorPRead
/- snap: a value is read. -/
namespace Go.Proofs.YtbdgniiafdjmiaaGreatDoor
open Go.RowKit Go.Shelf

/-- All but the reader's block and one more is kept. -/
structure RdK (w w' : World) (p M : Nat) : Prop where
  os : w'.os = w.os
  tape : w'.tape = w.tape
  output : w'.output = w.output
  size : w.heap.size ≤ w'.heap.size
  block : ∀ k, k < w.heap.size → k ≠ p → k ≠ M → w'.heap[k]? = w.heap[k]?
theorem RdK.refl (w : World) (p M : Nat) : RdK w w p M := ⟨rfl, rfl, rfl, Nat.le_refl _, fun _ _ _ _ => rfl⟩
theorem RdK.of {w V : World} {p M j : Nat} {v : Value} (h : w.grownBy V (some p)) : RdK w (V.setCell ⟨M, j, none⟩ v) p M :=
  ⟨h.os, h.tape, h.output, by simpa using h.size, fun k hk hp hM => (Below.heap_setCell _ _ _ _ (by simpa using hM)).trans (h.block k hk (by simpa using hp))⟩

set_option maxRecDepth 100000 in
set_option maxHeartbeats 8000000 in
theorem pRdN_any (N M p : Nat) (base : Option Addr) (cap : Nat) (bs : List UInt8) (W0 : World) (a r : Nat) (x0 x1 x2 : Value) (hr : ReaderAt W0 p base cap bs a r) (hN : W0.heap[N]? = some (.cells #[.pointer (some ⟨p, 0, none⟩)] 65 (0, 0))) (hM : W0.heap[M]? = some (.cells #[x0, x1, x2] 54 (0, 0))) (hpM : p ≠ M) (hbM : ∀ x, base = some x → x.block ≠ M) :
    Calls Tryz.prog 112 #[.pointer (some ⟨M, 1, none⟩), .pointer (some ⟨N, 0, none⟩)] W0 fun e w' => e = .returned (.tuple #[]) ∧ ReaderAt w' p base cap bs (rI bs a r).2.1 (rI bs a r).2.2 ∧ w'.heap[M]? = some (.cells #[x0, .int .i64 (rI bs a r).1, x2] 54 (0, 0)) ∧ RdK W0 w' p M := by
  have c := int_any hr
  obtain ⟨y, a1, r1, hx⟩ : ∃ x a1 r1, rI bs a r = (x, a1, r1) := ⟨_, _, _, rfl⟩
  rw [show stepR 0 a r (getI (bs.drop a)) = (y, a1, r1) from hx] at c
  rw [hx]
  simp only at c ⊢
  have n0 := cells1p hN
  have HM : Hid (W0.heap[M]? = some (.cells #[x0, x1, x2] 54 (0, 0))) := hM
  have HPM : Hid (p ≠ M) := hpM
  have HBM : Hid (∀ x, base = some x → x.block ≠ M) := hbM
  clear hx hr hN hM hpM hbM
  go_enter Tryz.func112, Tryz.ntmps112
  go_wp2_with fail
  refine c.mono ?_
  clear c
  rintro e V ⟨rfl, hr1, hg1⟩
  have hMV : V.heap[M]? = some (.cells #[x0, x1, x2] 54 (0, 0)) := (hg1.block M (heap_lt HM.out) (by have := HPM.out; simp; omega)).trans HM.out
  obtain ⟨m0, m1, m2⟩ := cells3p hMV
  have fz := cfrozen hMV 1
  have HRK : Hid (RdK W0 (V.setCell ⟨M, 1, none⟩ (.int .i64 y)) p M) := RdK.of hg1
  have HRD : Hid (ReaderAt (V.setCell ⟨M, 1, none⟩ (.int .i64 y)) p base cap bs a1 r1) := hr1.kept fun k _ hc => Below.heap_setCell _ _ _ _ (by
    rcases hc with rfl | ⟨x, e, rfl⟩
    · simpa using HPM.out
    · simpa using HBM.out x e)
  have HMM : Hid ((V.setCell ⟨M, 1, none⟩ (.int .i64 y)).heap[M]? = some (.cells #[x0, .int .i64 y, x2] 54 (0, 0))) := csetCell_block _ hMV
  clear hr1 hg1 hMV n0
  go_wp2
  refine bodyPost_end (v := .tuple #[]) (by simp [results, Tryz.results112]) rfl ?_
  exact ⟨rfl, HRD.out, HMM.out, HRK.out⟩

set_option maxRecDepth 100000 in
set_option maxHeartbeats 8000000 in
theorem pRdT_any (N M p : Nat) (base : Option Addr) (cap : Nat) (bs : List UInt8) (W0 : World) (a r : Nat) (x0 x1 x2 : Value) (hr : ReaderAt W0 p base cap bs a r) (hN : W0.heap[N]? = some (.cells #[.pointer (some ⟨p, 0, none⟩)] 65 (0, 0))) (hM : W0.heap[M]? = some (.cells #[x0, x1, x2] 54 (0, 0))) (hpM : p ≠ M) (hbM : ∀ x, base = some x → x.block ≠ M) :
    Calls Tryz.prog 113 #[.pointer (some ⟨M, 2, none⟩), .pointer (some ⟨N, 0, none⟩)] W0 fun e w' => e = .returned (.tuple #[]) ∧ ReaderAt w' p base cap bs (rTx 255 bs a r).2.1 (rTx 255 bs a r).2.2 ∧ w'.heap[M]? = some (.cells #[x0, x1, .string (strB (rTx 255 bs a r).1)] 54 (0, 0)) ∧ RdK W0 w' p M := by
  have c := text_any 255 hr
  obtain ⟨y, a1, r1, hx⟩ : ∃ x a1 r1, rTx 255 bs a r = (x, a1, r1) := ⟨_, _, _, rfl⟩
  rw [show stepR [] a r (getT (bs.drop a) 255) = (y, a1, r1) from hx] at c
  rw [hx]
  simp only at c ⊢
  have n0 := cells1p hN
  have HM : Hid (W0.heap[M]? = some (.cells #[x0, x1, x2] 54 (0, 0))) := hM
  have HPM : Hid (p ≠ M) := hpM
  have HBM : Hid (∀ x, base = some x → x.block ≠ M) := hbM
  clear hx hr hN hM hpM hbM
  go_enter Tryz.func113, Tryz.ntmps113
  go_wp2_with fail
  refine c.mono ?_
  clear c
  rintro e V ⟨rfl, hr1, hg1⟩
  have hMV : V.heap[M]? = some (.cells #[x0, x1, x2] 54 (0, 0)) := (hg1.block M (heap_lt HM.out) (by have := HPM.out; simp; omega)).trans HM.out
  obtain ⟨m0, m1, m2⟩ := cells3p hMV
  have fz := cfrozen hMV 2
  have HRK : Hid (RdK W0 (V.setCell ⟨M, 2, none⟩ (.string (strB y))) p M) := RdK.of hg1
  have HRD : Hid (ReaderAt (V.setCell ⟨M, 2, none⟩ (.string (strB y))) p base cap bs a1 r1) := hr1.kept fun k _ hc => Below.heap_setCell _ _ _ _ (by
    rcases hc with rfl | ⟨x, e, rfl⟩
    · simpa using HPM.out
    · simpa using HBM.out x e)
  have HMM : Hid ((V.setCell ⟨M, 2, none⟩ (.string (strB y))).heap[M]? = some (.cells #[x0, x1, .string (strB y)] 54 (0, 0))) := csetCell_block _ hMV
  clear hr1 hg1 hMV n0
  go_wp2
  refine bodyPost_end (v := .tuple #[]) (by simp [results, Tryz.results113]) rfl ?_
  exact ⟨rfl, HRD.out, HMM.out, HRK.out⟩

set_option maxRecDepth 100000 in
set_option maxHeartbeats 8000000 in
theorem pBehRd_any (N M p : Nat) (base : Option Addr) (cap : Nat) (bs : List UInt8) (W0 : World) (a0 r0 a r : Nat) (k : Int) (hk : rI bs a0 r0 = (k, a, r)) (hr : ReaderAt W0 p base cap bs a r) (hN : W0.heap[N]? = some (.cells #[.pointer (some ⟨p, 0, none⟩)] 65 (0, 0))) (hM : W0.heap[M]? = some (.cells #[.int .i64 k, .int .i64 0, .string ⟨#[]⟩] 54 (0, 0))) (hpM : p ≠ M) (hbM : ∀ x, base = some x → x.block ≠ M) (Z : Vl × Nat × Nat) (hZ : Z = rVl bs a0 r0) :
    Calls Tryz.prog 72 #[.pointer (some ⟨M, 0, none⟩), .func (.func 112) #[] #[.pointer (some ⟨N, 0, none⟩)], .func (.func 113) #[] #[.pointer (some ⟨N, 0, none⟩)]] W0 fun e w' => e = .returned (.tuple #[]) ∧ ReaderAt w' p base cap bs Z.2.1 Z.2.2 ∧ w'.heap[M]? = some (.cells #[.int .i64 Z.1.k, .int .i64 Z.1.n, .string (strB Z.1.s)] 54 (0, 0)) ∧ RdK W0 w' p M := by
  have c1 : k = 1 ∨ k = 2 ∨ k = 4 → Calls Tryz.prog 112 #[.pointer (some ⟨M, 1, none⟩), .pointer (some ⟨N, 0, none⟩)] W0 fun e w' => e = .returned (.tuple #[]) ∧ ReaderAt w' p base cap bs Z.2.1 Z.2.2 ∧ w'.heap[M]? = some (.cells #[.int .i64 Z.1.k, .int .i64 Z.1.n, .string (strB Z.1.s)] 54 (0, 0)) ∧ RdK W0 w' p M := fun h => by
    have e : Z = (⟨k, (rI bs a r).1, []⟩, (rI bs a r).2) := by rw [hZ]; unfold rVl; rw [hk]; simp only [if_pos h]
    rw [e]
    exact pRdN_any N M p base cap bs W0 a r _ _ _ hr hN hM hpM hbM
  have c2 : k = 3 → Calls Tryz.prog 113 #[.pointer (some ⟨M, 2, none⟩), .pointer (some ⟨N, 0, none⟩)] W0 fun e w' => e = .returned (.tuple #[]) ∧ ReaderAt w' p base cap bs Z.2.1 Z.2.2 ∧ w'.heap[M]? = some (.cells #[.int .i64 Z.1.k, .int .i64 Z.1.n, .string (strB Z.1.s)] 54 (0, 0)) ∧ RdK W0 w' p M := fun h => by
    have e : Z = (⟨k, 0, (rTx 255 bs a r).1⟩, (rTx 255 bs a r).2) := by rw [hZ]; unfold rVl; rw [hk]; simp only [if_neg (show ¬ (k = 1 ∨ k = 2 ∨ k = 4) by omega), if_pos h]
    rw [e]
    exact pRdT_any N M p base cap bs W0 a r _ _ _ hr hN hM hpM hbM
  have HZ : Hid (¬ (k = 1 ∨ k = 2 ∨ k = 4) → ¬ k = 3 → ReaderAt W0 p base cap bs Z.2.1 Z.2.2 ∧ W0.heap[M]? = some (.cells #[.int .i64 Z.1.k, .int .i64 Z.1.n, .string (strB Z.1.s)] 54 (0, 0)) ∧ RdK W0 W0 p M) := fun h1 h2 => by
    have e : Z = (⟨k, 0, []⟩, a, r) := by rw [hZ]; unfold rVl; rw [hk]; simp only [if_neg h1, if_neg h2]
    rw [e]
    exact ⟨hr, hM, RdK.refl _ _ _⟩
  obtain ⟨m0, m1, m2⟩ := cells3p hM
  have hml := heap_lt hM
  clear hr hN hM hpM hbM hZ hk
  by_cases h1 : k = 1
  · subst h1
    replace c1 := c1 (.inl rfl)
    clear c2
    go_enter Tryz.func72, Tryz.ntmps72
    go_wp2_with fail
    refine c1.mono ?_
    clear c1
    rintro e w1 ⟨rfl, ho⟩
    have HE : Hid (ReaderAt w1 p base cap bs Z.2.1 Z.2.2 ∧ w1.heap[M]? = some (.cells #[.int .i64 Z.1.k, .int .i64 Z.1.n, .string (strB Z.1.s)] 54 (0, 0)) ∧ RdK W0 w1 p M) := ho
    clear ho
    go_wp2
    refine bodyPost_end (v := .tuple #[]) (by simp [results, Tryz.results72]) rfl ?_
    exact ⟨rfl, HE.out⟩
  · by_cases h2 : k = 2
    · subst h2
      replace c1 := c1 (.inr (.inl rfl))
      clear c2
      go_enter Tryz.func72, Tryz.ntmps72
      go_wp2_with fail
      refine c1.mono ?_
      clear c1
      rintro e w1 ⟨rfl, ho⟩
      have HE : Hid (ReaderAt w1 p base cap bs Z.2.1 Z.2.2 ∧ w1.heap[M]? = some (.cells #[.int .i64 Z.1.k, .int .i64 Z.1.n, .string (strB Z.1.s)] 54 (0, 0)) ∧ RdK W0 w1 p M) := ho
      clear ho
      go_wp2
      refine bodyPost_end (v := .tuple #[]) (by simp [results, Tryz.results72]) rfl ?_
      exact ⟨rfl, HE.out⟩
    · by_cases h4 : k = 4
      · subst h4
        replace c1 := c1 (.inr (.inr rfl))
        clear c2
        go_enter Tryz.func72, Tryz.ntmps72
        go_wp2_with fail
        refine c1.mono ?_
        clear c1
        rintro e w1 ⟨rfl, ho⟩
        have HE : Hid (ReaderAt w1 p base cap bs Z.2.1 Z.2.2 ∧ w1.heap[M]? = some (.cells #[.int .i64 Z.1.k, .int .i64 Z.1.n, .string (strB Z.1.s)] 54 (0, 0)) ∧ RdK W0 w1 p M) := ho
        clear ho
        go_wp2
        refine bodyPost_end (v := .tuple #[]) (by simp [results, Tryz.results72]) rfl ?_
        exact ⟨rfl, HE.out⟩
      · by_cases h3 : k = 3
        · subst h3
          replace c2 := c2 rfl
          clear c1
          go_enter Tryz.func72, Tryz.ntmps72
          go_wp2_with fail
          refine c2.mono ?_
          clear c2
          rintro e w1 ⟨rfl, ho⟩
          have HE : Hid (ReaderAt w1 p base cap bs Z.2.1 Z.2.2 ∧ w1.heap[M]? = some (.cells #[.int .i64 Z.1.k, .int .i64 Z.1.n, .string (strB Z.1.s)] 54 (0, 0)) ∧ RdK W0 w1 p M) := ho
          clear ho
          go_wp2
          refine bodyPost_end (v := .tuple #[]) (by simp [results, Tryz.results72]) rfl ?_
          exact ⟨rfl, HE.out⟩
        · have HZ2 : Hid (ReaderAt W0 p base cap bs Z.2.1 Z.2.2 ∧ W0.heap[M]? = some (.cells #[.int .i64 Z.1.k, .int .i64 Z.1.n, .string (strB Z.1.s)] 54 (0, 0)) ∧ RdK W0 W0 p M) := HZ.out (by omega) h3
          have d1 : (k == 1) = false := by rw [beq_eq_false_iff_ne]; exact h1
          have d2 : (k == 2) = false := by rw [beq_eq_false_iff_ne]; exact h2
          have d3 : (k == 3) = false := by rw [beq_eq_false_iff_ne]; exact h3
          have d4 : (k == 4) = false := by rw [beq_eq_false_iff_ne]; exact h4
          clear c1 c2 HZ
          go_enter Tryz.func72, Tryz.ntmps72
          go_wp2
          refine bodyPost_end (v := .tuple #[]) (by simp [results, Tryz.results72]) rfl ?_
          exact ⟨rfl, HZ2.out⟩

set_option maxRecDepth 100000 in
set_option maxHeartbeats 8000000 in
theorem pReadVal_any (p : Nat) (base : Option Addr) (cap : Nat) (bs : List UInt8) (w : World) (a0 r0 : Nat) (hr : ReaderAt w p base cap bs a0 r0) (hp : p < w.heap.size) (hbl : ∀ x, base = some x → x.block < w.heap.size) :
    Calls Tryz.prog 94 #[.pointer (some ⟨p, 0, none⟩)] w fun e w' => ∃ x, x = (rVl bs a0 r0).1 ∧ (e = .returned (vlV x) ∧ True) ∧ ReaderAt w' p base cap bs (rVl bs a0 r0).2.1 (rVl bs a0 r0).2.2 ∧ w.grownBy w' (some p) := by
  obtain ⟨W0, hW0, hbW, HZW, hN, hY⟩ := box2 w (.cells #[.pointer (some ⟨p, 0, none⟩)] 65) (.cells #[.int .i64 0, .int .i64 0, .string ⟨#[]⟩] 54)
  have HW0 : Hid (W0 = (w.alloc (.cells #[.pointer (some ⟨p, 0, none⟩)] 65)).alloc (.cells #[.int .i64 0, .int .i64 0, .string ⟨#[]⟩] 54)) := hW0
  have HBW : Hid (Below w.heap.size w W0) := hbW
  have HN : Hid (W0.heap[w.heap.size]? = some (.cells #[.pointer (some ⟨p, 0, none⟩)] 65 (0, 0))) := hN
  have HY : Hid (W0.heap[w.heap.size + 1]? = some (.cells #[.int .i64 0, .int .i64 0, .string ⟨#[]⟩] 54 (0, 0))) := hY
  have HP : Hid (p < w.heap.size) := hp
  have HBL : Hid (∀ x, base = some x → x.block < w.heap.size) := hbl
  have c := pReadK_any p base cap bs W0 a0 r0 (hr.below hbW (Nat.le_refl _))
  obtain ⟨k, a1, r1, hx⟩ : ∃ x a1 r1, rI bs a0 r0 = (x, a1, r1) := ⟨_, _, _, rfl⟩
  have HX : Hid (rI bs a0 r0 = (k, a1, r1)) := hx
  rw [hx] at c
  simp only at c
  obtain ⟨Z, hZ⟩ : ∃ Z, Z = rVl bs a0 r0 := ⟨_, rfl⟩
  have HZ : Hid (Z = rVl bs a0 r0) := hZ
  rw [← hZ]
  have n0 := cells1p hN
  clear hr hp hbl hW0 hbW hN hY hx hZ
  go_enter Tryz.func94, Tryz.ntmps94
  go_wp2_with fail
  rw [← HW0.out]
  (try go_simp)
  refine c.mono ?_
  clear c
  rintro e V ⟨rfl, hr1, hg1⟩
  have hsz := HZW.out
  have hsV := hg1.size
  have hNV : V.heap[w.heap.size]? = some (.cells #[.pointer (some ⟨p, 0, none⟩)] 65 (0, 0)) := (hg1.block _ (by omega) (by have := HP.out; simp; omega)).trans HN.out
  have hYV : V.heap[w.heap.size + 1]? = some (.cells #[.int .i64 0, .int .i64 0, .string ⟨#[]⟩] 54 (0, 0)) := (hg1.block _ (by omega) (by have := HP.out; simp; omega)).trans HY.out
  obtain ⟨W2, hW2, hb2, HS2, hM2⟩ := box1 V (.cells #[.int .i64 k, .int .i64 0, .string ⟨#[]⟩] 54)
  have HW2 : Hid (W2 = V.alloc (.cells #[.int .i64 k, .int .i64 0, .string ⟨#[]⟩] 54)) := hW2
  obtain ⟨M, hMe⟩ : ∃ M, M = V.heap.size := ⟨_, rfl⟩
  have HME : Hid (V.heap.size = M) := hMe.symm
  rw [← hMe] at hM2
  have hs2 := HS2.out
  have hr2 : ReaderAt W2 p base cap bs a1 r1 := hr1.kept fun q hq _ => hb2.block q hq
  have HNE : Hid (p ≠ M ∧ ∀ x, base = some x → x.block ≠ M) := ⟨by have := HP.out; omega, fun x e => by have := HBL.out x e; omega⟩
  have cb := pBehRd_any w.heap.size M p base cap bs W2 a0 r0 a1 r1 k HX.out hr2 ((hb2.block _ (by omega)).trans hNV) hM2 HNE.out.1 HNE.out.2 Z HZ.out
  have HY2 : Hid (W2.heap[w.heap.size + 1]? = some (.cells #[.int .i64 0, .int .i64 0, .string ⟨#[]⟩] 54 (0, 0))) := (hb2.block _ (by omega)).trans hYV
  have HG2 : Hid (w.grownBy W2 (some p)) := ⟨by rw [hW2]; exact hg1.os.trans HBW.out.os, by rw [hW2]; exact hg1.tape.trans HBW.out.tape, by rw [hW2]; exact hg1.output.trans HBW.out.output, by omega, fun q hq hne => (hb2.block q (by omega)).trans ((hg1.block q (by omega) hne).trans (HBW.out.block q hq))⟩
  have HLM : Hid (w.heap.size + 2 ≤ M ∧ M < W2.heap.size) := ⟨by omega, by omega⟩
  clear hr1 hg1 hNV hYV hMe hM2 hW2 hb2 HS2 hs2 hr2 hsz hsV n0
  go_wp2_with fail
  rw [HME.out, ← HW2.out]
  refine cb.mono ?_
  clear cb
  rintro e z ⟨rfl, hrz, hMz, hkz⟩
  have hYz : z.heap[w.heap.size + 1]? = some (.cells #[.int .i64 0, .int .i64 0, .string ⟨#[]⟩] 54 (0, 0)) := (hkz.block _ (by have := HLM.out; omega) (by have := HP.out; omega) (by have := HLM.out; omega)).trans HY2.out
  have HZE : Hid (Z.1 = (rVl bs a0 r0).1) := by rw [HZ.out]; exact rfl
  obtain ⟨x, a9, r9⟩ := Z
  obtain ⟨xk, xn, xs⟩ := x
  simp only at hrz hMz HZE ⊢
  have HGz : Hid (w.grownBy z (some p)) := ⟨hkz.os.trans HG2.out.os, hkz.tape.trans HG2.out.tape, hkz.output.trans HG2.out.output, Nat.le_trans HG2.out.size hkz.size, fun q hq hne => (hkz.block q (by have := HG2.out.size; omega) (by simpa using hne) (by have := HLM.out; omega)).trans (HG2.out.block q hq hne)⟩
  have HRz : Hid (ReaderAt z p base cap bs a9 r9) := hrz
  have HYz : Hid (z.heap[w.heap.size + 1]? = some (.cells #[.int .i64 0, .int .i64 0, .string ⟨#[]⟩] 54 (0, 0))) := hYz
  obtain ⟨m0, m1, m2⟩ := cells3p hMz
  obtain ⟨y0, y1, y2⟩ := cells3p hYz
  have yf := cfrozen hYz
  have hYe : (((z.setCell ⟨w.heap.size + 1, 0, none⟩ (.int .i64 xk)).setCell ⟨w.heap.size + 1, 1, none⟩ (.int .i64 xn)).setCell ⟨w.heap.size + 1, 2, none⟩ (.string (strB xs))).heap[w.heap.size + 1]? = some (.cells #[.int .i64 xk, .int .i64 xn, .string (strB xs)] 54 (0, 0)) := csetCell_block _ (csetCell_block _ (csetCell_block _ hYz))
  obtain ⟨z0, z1, z2⟩ := cells3p hYe
  have hke : ∀ q, q ≠ w.heap.size + 1 → (((z.setCell ⟨w.heap.size + 1, 0, none⟩ (.int .i64 xk)).setCell ⟨w.heap.size + 1, 1, none⟩ (.int .i64 xn)).setCell ⟨w.heap.size + 1, 2, none⟩ (.string (strB xs))).heap[q]? = z.heap[q]? := fun q hq => by
    rw [Below.heap_setCell _ _ _ _ (by simpa using hq), Below.heap_setCell _ _ _ _ (by simpa using hq), Below.heap_setCell _ _ _ _ (by simpa using hq)]
  have HRe : Hid (ReaderAt (((z.setCell ⟨w.heap.size + 1, 0, none⟩ (.int .i64 xk)).setCell ⟨w.heap.size + 1, 1, none⟩ (.int .i64 xn)).setCell ⟨w.heap.size + 1, 2, none⟩ (.string (strB xs))) p base cap bs a9 r9) := hrz.kept fun q _ hc => hke q (by
    rcases hc with rfl | ⟨x, e, rfl⟩
    · have := HP.out; omega
    · have := HBL.out x e; omega)
  have HGe : Hid (w.grownBy (((z.setCell ⟨w.heap.size + 1, 0, none⟩ (.int .i64 xk)).setCell ⟨w.heap.size + 1, 1, none⟩ (.int .i64 xn)).setCell ⟨w.heap.size + 1, 2, none⟩ (.string (strB xs))) (some p)) := ⟨HGz.out.os, HGz.out.tape, HGz.out.output, by simpa using HGz.out.size, fun q hq hne => (hke q (by omega)).trans (HGz.out.block q hq hne)⟩
  clear hrz hMz hkz hYz hYe hke
  go_wp2
  refine bodyPost_ret (v := .agg #[.int .i64 xk, .int .i64 xn, .string (strB xs)]) (by simp [results, Tryz.results94, go_sem, z0, z1, z2]) rfl ?_
  exact ⟨rfl, HRe.out, HGe.out⟩
end Go.Proofs.YtbdgniiafdjmiaaGreatDoor
/- snap: how many there are, and each, read: at hindcast/api.Val. -/
namespace Go.Proofs.YtbdgniiafdjmiaaGreatDoor
open Go.RowKit Go.Shelf

set_option maxRecDepth 100000 in
set_option maxHeartbeats 8000000 in
theorem pReadAllVal_any (p : Nat) (base : Option Addr) (cap : Nat) (bs : List UInt8) (one : Nat → Nat → Vl × Nat × Nat) (w : World) (a0 r0 : Nat) (hr : ReaderAt w p base cap bs a0 r0) (hp : p < w.heap.size) (hbl : ∀ x, base = some x → x.block < w.heap.size)
    (hk : ∀ W a, w.heap.size ≤ W.heap.size → ReaderAt W p base cap bs a 0 → Calls Tryz.prog 94 #[.pointer (some ⟨p, 0, none⟩)] W fun e w' => ∃ x, x = (one a 0).1 ∧ (e = .returned (vlV x) ∧ True) ∧ ReaderAt w' p base cap bs (one a 0).2.1 (one a 0).2.2 ∧ W.grownBy w' (some p)) :
    Calls Tryz.prog 93 #[.pointer (some ⟨p, 0, none⟩), .func (.func 94) #[] #[]] w fun e w' => ∃ v, e = .returned v ∧ ∃ css, RowJ coVal 3 w.heap.size p 54 w base cap bs v w' (rAll bs one a0 r0).1 css (rAll bs one a0 r0).2.1 (rAll bs one a0 r0).2.2 := by
  have HK : Hid (∀ W a, w.heap.size ≤ W.heap.size → ReaderAt W p base cap bs a 0 → Calls Tryz.prog 94 #[.pointer (some ⟨p, 0, none⟩)] W fun e w' => ∃ x, x = (one a 0).1 ∧ (e = .returned (vlV x) ∧ True) ∧ ReaderAt w' p base cap bs (one a 0).2.1 (one a 0).2.2 ∧ W.grownBy w' (some p)) := hk
  obtain ⟨i0, hinf, hz0, hz1, hz2⟩ := info_parts pinfo_val
  have HR : Hid (ReaderAt w p base cap bs a0 r0) := hr
  have HP : Hid (p < w.heap.size) := hp
  have HBL : Hid (∀ x, base = some x → x.block < w.heap.size) := hbl
  have cc := count_any 1048576 hr
  have hbd := rC_bound bs a0 r0
  obtain ⟨n, a1, r1, hrc⟩ : ∃ (n : Nat) (a1 r1 : Nat), rC bs a0 r0 = ((n : Int), a1, r1) := ⟨(rC bs a0 r0).1.toNat, (rC bs a0 r0).2.1, (rC bs a0 r0).2.2, by rw [Int.toNat_of_nonneg hbd.1]⟩
  have hrc' : stepR 0 a0 r0 (getC (bs.drop a0) 1048576) = ((n : Int), a1, r1) := hrc
  rw [hrc'] at cc
  simp only at cc
  have hn : (n : Int) ≤ 1048576 := by rw [hrc] at hbd; exact hbd.2
  have HALL : Hid (rAll bs one a0 r0 = loopR one n a1 r1) := by
    show _ = _
    unfold rAll
    rw [hrc]
    simp only [Int.toNat_natCast]
  obtain ⟨RR, hRR⟩ : ∃ RR, RR = rAll bs one a0 r0 := ⟨_, rfl⟩
  rw [← hRR] at HALL ⊢
  clear hk hr hp hbl hbd hrc hrc' hRR
  go_enter Tryz.func93, Tryz.ntmps93
  go_wp2_with fail
  refine cc.mono ?_
  clear cc
  rintro e w1 ⟨rfl, hr1, hg1⟩
  have HJ0 : Hid (RowJ coVal 3 w.heap.size p 54 w base cap bs (.slice none 0 0) w1 ([] : List Vl) [] a1 r1) := RowJ.start hr1 hg1 rfl HP.out HBL.out
  clear hr1 hg1
  go_wp2
  go_loopw [5, 6] (fun v vi wr => ∃ (m : Nat) (l : List Vl) (css : List (List Value)) (a r : Nat), vi = .int .i64 (m : Int) ∧ m ≤ n ∧ l.length + m ≤ n ∧ RowJ coVal 3 w.heap.size p 54 w base cap bs v wr l css a r ∧ RR = (l ++ (loopR one m a r).1, (loopR one m a r).2)) (fun _ vi _ => (intOf vi).toNat)
  case atStart => exact ⟨n, [], [], a1, r1, rfl, Nat.le_refl _, by simp, HJ0.out, by rw [HALL.out]; rfl⟩
  case round =>
    obtain ⟨m, l, css, a, r, rfl, hmn, hlm, hJ, hRR⟩ := hrel
    have HJ : Hid (RowJ coVal 3 w.heap.size p 54 w base cap bs u5 wr l css a r) := hJ
    have HRR : Hid (RR = (l ++ (loopR one m a r).1, (loopR one m a r).2)) := hRR
    have HLM : Hid (l.length + m ≤ n) := hlm
    by_cases hm : 0 < m
    · have hm1 : (0 : Int) < m := by omega
      have hm2 : (m : Int) ≤ 1048576 := by omega
      have ce := err_any hJ.rd
      obtain ⟨b5, n5, c5, hv5⟩ : ∃ b n c, u5 = .slice b n c := by
        rcases hJ.row.2 with ⟨h, _⟩ | ⟨g, cp, cur, h, _⟩
        · exact ⟨_, _, _, h⟩
        · exact ⟨_, _, _, h⟩
      subst hv5
      by_cases hr0 : r = 0
      · subst hr0
        have c1 := HK.out wr a hJ.low hJ.rd
        have HRS : Hid (RR = (l ++ [(one a 0).1] ++ (loopR one (m - 1) (one a 0).2.1 (one a 0).2.2).1, (loopR one (m - 1) (one a 0).2.1 (one a 0).2.2).2)) := by
          obtain ⟨m', rfl⟩ : ∃ m', m = m' + 1 := ⟨m - 1, by omega⟩
          show _ = _
          rw [hRR, loopR_succ]
          simp
        clear hJ hRR hlm
        go_wp2_with fail
        refine ce.mono ?_
        clear ce
        rintro e _ ⟨rfl, rfl⟩
        go_wp2_with fail
        refine c1.mono ?_
        clear c1
        rintro e w2 ⟨x, hx, ⟨rfl, hnest⟩, hr2, hg2⟩
        have HX : Hid (x = (one a 0).1) := hx
        have HR2 : Hid (ReaderAt w2 p base cap bs (one a 0).2.1 (one a 0).2.2) := hr2
        have HG2 : Hid (wr.grownBy w2 (some p)) := hg2
        have HCO : Hid (coVal (fun b => wr.heap.size ≤ b) w2 x [.int .i64 x.k, .int .i64 x.n, .string (strB x.s)]) := rfl
        have HROW : Hid (w2.ownsRow w.heap.size 54 3 (.slice b5 n5 c5) l.length css.flatten) := HJ.out.row.kept hg2 (by
          by_cases hob : (Value.slice b5 n5 c5).ownBlock = none
          · exact .inl hob
          · refine .inr fun e => ?_
            have := (HJ.out.row.lt p e).1
            have := HP.out
            omega)
        have HW2 : Hid (w.heap.size ≤ w2.heap.size) := Nat.le_trans HJ.out.low hg2.size
        have HLN : Hid (l.length + 1 ≤ 1048576) := by have := HLM.out; show _ ≤ _; omega
        clear hx hnest hr2 hg2
        go_wp2_with (first
          | (at_builtin; refine wpList_append_own_at _ rfl _ _ 47 rfl w.heap.size 54 i0 (.agg #[.int .i64 0, .int .i64 0, .string ⟨#[]⟩]) 3 32 Tryz.underlying47 hinf hz0 hz1 hz2 rfl (by decide) _ _ _ rfl (HROW.out.alloc _) ⟨w2.heap.size, 0, none⟩ 1 1 [.int .i64 x.k, .int .i64 x.n, .string (strB x.s)] rfl rfl (rcells_new _ _ _) (lawVal.one _ _ _ _ HCO.out) (by have := HLN.out; unfold maxLen; omega) (by have := HLN.out; omega) (by have := HW2.out; simp; omega) ?_; intro v' w9 hown9 hgrow9 hnil9 hloc9)
          | go_in)
        go_roundw
        case rel =>
          refine ⟨m - 1, l ++ [x], css ++ [[.int .i64 x.k, .int .i64 x.n, .string (strB x.s)]], (one a 0).2.1, (one a 0).2.2, ?_, by omega, by have := HLM.out; simp; omega, HJ.out.snoc lawVal HR2.out HG2.out HCO.out rfl hown9 hgrow9 hloc9, by rw [HX.out]; exact HRS.out⟩
          have : ((m - 1 : Nat) : Int) = (m : Int) - 1 := by omega
          rw [this]
        case measure => simp [intOf]; omega
      · have hrb : ((r : Int) == 0) = false := by rw [beq_eq_false_iff_ne]; omega
        have HE : Hid (RR = (l, a, r)) := by rw [hRR, loopR_bad one m a r hr0]; show _ = _; simp
        clear hJ hRR hlm
        go_wp2_with fail
        refine ce.mono ?_
        clear ce
        rintro e _ ⟨rfl, rfl⟩
        go_wp2
        go_ret
        refine ⟨_, rfl, css, ?_⟩
        rw [HE.out]
        exact HJ.out
    · obtain rfl : m = 0 := by omega
      have HE : Hid (RR = (l, a, r)) := by rw [hRR, loopR_zero]; show _ = _; simp
      clear hJ hRR hlm
      go_wp2
      go_ret
      refine ⟨_, rfl, css, ?_⟩
      rw [HE.out]
      exact HJ.out
end Go.Proofs.YtbdgniiafdjmiaaGreatDoor
/- snap: readCall. -/
namespace Go.Proofs.YtbdgniiafdjmiaaGreatDoor
open Go.RowKit Go.Shelf

set_option maxRecDepth 100000 in
set_option maxHeartbeats 8000000 in
theorem pReadCall_any (p : Nat) (base : Option Addr) (cap : Nat) (bs : List UInt8) (w : World) (a0 r0 : Nat) (hr : ReaderAt w p base cap bs a0 r0) (hp : p < w.heap.size) (hbl : ∀ x, base = some x → x.block < w.heap.size) :
    Calls Tryz.prog 61 #[.pointer (some ⟨p, 0, none⟩)] w fun e w' => ∃ x, x = (rCal bs a0 r0).1 ∧ (∃ bi ni ci bv nv cv, e = .returned (calV x (.slice bi ni ci) (.slice bv nv cv)) ∧ valsR (fun b => w.heap.size ≤ b) w' (.slice bi ni ci) x.slots ∧ valsR (fun b => w.heap.size ≤ b) w' (.slice bv nv cv) x.stack) ∧ ReaderAt w' p base cap bs (rCal bs a0 r0).2.1 (rCal bs a0 r0).2.2 ∧ w.grownBy w' (some p) := by
  have B0 : Hid (RdBox w ((w.alloc (.cells #[.int .i64 0, .int .i64 0, .int .i64 0, .slice none 0 0, .slice none 0 0] 49)).alloc (.cells #[.int .i64 0, .int .i64 0, .int .i64 0, .slice none 0 0, .slice none 0 0] 49)) p base cap bs a0 r0 49 #[.int .i64 0, .int .i64 0, .int .i64 0, .slice none 0 0, .slice none 0 0] #[.int .i64 0, .int .i64 0, .int .i64 0, .slice none 0 0, .slice none 0 0]) := RdBox.start hr hp hbl _ _
  obtain ⟨W0, hW0⟩ : ∃ W, W = (w.alloc (.cells #[.int .i64 0, .int .i64 0, .int .i64 0, .slice none 0 0, .slice none 0 0] 49)).alloc (.cells #[.int .i64 0, .int .i64 0, .int .i64 0, .slice none 0 0, .slice none 0 0] 49) := ⟨_, rfl⟩
  have HW0 : Hid (W0 = (w.alloc (.cells #[.int .i64 0, .int .i64 0, .int .i64 0, .slice none 0 0, .slice none 0 0] 49)).alloc (.cells #[.int .i64 0, .int .i64 0, .int .i64 0, .slice none 0 0, .slice none 0 0] 49)) := hW0
  rw [← hW0] at B0
  obtain ⟨x0, a1, r1, hx0⟩ : ∃ x ya yr, rI bs a0 r0 = (x, ya, yr) := ⟨_, _, _, rfl⟩
  obtain ⟨x1, a2, r2, hx1⟩ : ∃ x ya yr, rI bs a1 r1 = (x, ya, yr) := ⟨_, _, _, rfl⟩
  obtain ⟨x2, a3, r3, hx2⟩ : ∃ x ya yr, rI bs a2 r2 = (x, ya, yr) := ⟨_, _, _, rfl⟩
  obtain ⟨x3, a4, r4, hx3⟩ : ∃ x ya yr, rAll bs (rVl bs) a3 r3 = (x, ya, yr) := ⟨_, _, _, rfl⟩
  obtain ⟨x4, a5, r5, hx4⟩ : ∃ x ya yr, rAll bs (rVl bs) a4 r4 = (x, ya, yr) := ⟨_, _, _, rfl⟩
  have HRES : Hid (rCal bs a0 r0 = ((⟨x0, x1, x2, x3, x4⟩ : Cal), a5, r5)) := by
    show _ = _
    simp only [rCal, hx0, hx1, hx2, hx3, hx4]
  have HX0 : Hid (rI bs a0 r0 = (x0, a1, r1)) := hx0
  have HX1 : Hid (rI bs a1 r1 = (x1, a2, r2)) := hx1
  have HX2 : Hid (rI bs a2 r2 = (x2, a3, r3)) := hx2
  have HX3 : Hid (rAll bs (rVl bs) a3 r3 = (x3, a4, r4)) := hx3
  have HX4 : Hid (rAll bs (rVl bs) a4 r4 = (x4, a5, r5)) := hx4
  obtain ⟨RR, hRR⟩ : ∃ RR, RR = rCal bs a0 r0 := ⟨_, rfl⟩
  rw [← hRR] at HRES ⊢
  clear hr hp hbl hW0 hRR hx0 hx1 hx2 hx3 hx4
  go_enter Tryz.func61, Tryz.ntmps61
  have c := int_any B0.out.rd
  rw [show stepR 0 a0 r0 (getI (bs.drop a0)) = (x0, a1, r1) from HX0.out] at c
  simp only at c
  go_wp2_with fail
  rw [← HW0.out]
  refine c.mono ?_
  clear c
  rintro e V0 ⟨rfl, hr1, hg1⟩
  have A0 : Hid (RdBox w V0 p base cap bs a1 r1 49 #[.int .i64 0, .int .i64 0, .int .i64 0, .slice none 0 0, .slice none 0 0] #[.int .i64 0, .int .i64 0, .int .i64 0, .slice none 0 0, .slice none 0 0]) := B0.out.call hr1 hg1
  have HGV0 : Hid (W0.grownBy V0 (some p)) := hg1
  obtain ⟨W1, hW⟩ : ∃ W, W = V0.setCell ⟨w.heap.size + 1, 0, none⟩ (.int .i64 x0) := ⟨_, rfl⟩
  have HW1 : Hid (W1 = V0.setCell ⟨w.heap.size + 1, 0, none⟩ (.int .i64 x0)) := hW
  have B1 : Hid (RdBox w W1 p base cap bs a1 r1 49 #[.int .i64 0, .int .i64 0, .int .i64 0, .slice none 0 0, .slice none 0 0] #[.int .i64 x0, .int .i64 0, .int .i64 0, .slice none 0 0, .slice none 0 0]) := by rw [hW]; exact A0.out.store 0 _
  obtain ⟨q0, -, -, -, -⟩ := cells5p A0.out.X
  have fz := cfrozen A0.out.X 0
  clear hr1 hg1 hW 
  have c := int_any B1.out.rd
  rw [show stepR 0 a1 r1 (getI (bs.drop a1)) = (x1, a2, r2) from HX1.out] at c
  simp only at c
  go_wp2_with fail
  rw [← HW1.out]
  refine c.mono ?_
  clear c
  rintro e V1 ⟨rfl, hr1, hg1⟩
  have A1 : Hid (RdBox w V1 p base cap bs a2 r2 49 #[.int .i64 0, .int .i64 0, .int .i64 0, .slice none 0 0, .slice none 0 0] #[.int .i64 x0, .int .i64 0, .int .i64 0, .slice none 0 0, .slice none 0 0]) := B1.out.call hr1 hg1
  have HGV1 : Hid (W1.grownBy V1 (some p)) := hg1
  obtain ⟨W2, hW⟩ : ∃ W, W = V1.setCell ⟨w.heap.size + 1, 1, none⟩ (.int .i64 x1) := ⟨_, rfl⟩
  have HW2 : Hid (W2 = V1.setCell ⟨w.heap.size + 1, 1, none⟩ (.int .i64 x1)) := hW
  have B2 : Hid (RdBox w W2 p base cap bs a2 r2 49 #[.int .i64 0, .int .i64 0, .int .i64 0, .slice none 0 0, .slice none 0 0] #[.int .i64 x0, .int .i64 x1, .int .i64 0, .slice none 0 0, .slice none 0 0]) := by rw [hW]; exact A1.out.store 1 _
  obtain ⟨-, q1, -, -, -⟩ := cells5p A1.out.X
  have fz := cfrozen A1.out.X 1
  clear hr1 hg1 hW 
  have c := int_any B2.out.rd
  rw [show stepR 0 a2 r2 (getI (bs.drop a2)) = (x2, a3, r3) from HX2.out] at c
  simp only at c
  go_wp2_with fail
  rw [← HW2.out]
  refine c.mono ?_
  clear c
  rintro e V2 ⟨rfl, hr1, hg1⟩
  have A2 : Hid (RdBox w V2 p base cap bs a3 r3 49 #[.int .i64 0, .int .i64 0, .int .i64 0, .slice none 0 0, .slice none 0 0] #[.int .i64 x0, .int .i64 x1, .int .i64 0, .slice none 0 0, .slice none 0 0]) := B2.out.call hr1 hg1
  have HGV2 : Hid (W2.grownBy V2 (some p)) := hg1
  obtain ⟨W3, hW⟩ : ∃ W, W = V2.setCell ⟨w.heap.size + 1, 2, none⟩ (.int .i64 x2) := ⟨_, rfl⟩
  have HW3 : Hid (W3 = V2.setCell ⟨w.heap.size + 1, 2, none⟩ (.int .i64 x2)) := hW
  have B3 : Hid (RdBox w W3 p base cap bs a3 r3 49 #[.int .i64 0, .int .i64 0, .int .i64 0, .slice none 0 0, .slice none 0 0] #[.int .i64 x0, .int .i64 x1, .int .i64 x2, .slice none 0 0, .slice none 0 0]) := by rw [hW]; exact A2.out.store 2 _
  obtain ⟨-, -, q2, -, -⟩ := cells5p A2.out.X
  have fz := cfrozen A2.out.X 2
  clear hr1 hg1 hW 
  have c := pReadAllVal_any p base cap bs (rVl bs) W3 a3 r3 B3.out.rd (Nat.lt_of_lt_of_le B3.out.plt B3.out.G.size) (fun x e => Nat.lt_of_lt_of_le (B3.out.blt x e) B3.out.G.size) (fun W a hs hW => (pReadVal_any p base cap bs W a 0 hW (Nat.lt_of_lt_of_le B3.out.plt (Nat.le_trans B3.out.G.size hs)) (fun x e => Nat.lt_of_lt_of_le (B3.out.blt x e) (Nat.le_trans B3.out.G.size hs))))
  rw [HX3.out] at c
  simp only at c
  go_wp2_with fail
  rw [← HW3.out]
  refine c.mono ?_
  clear c
  rintro e V3 ⟨v3, rfl, css, hJ⟩
  obtain ⟨b3, n3, c3, rfl⟩ : ∃ b n c, v3 = .slice b n c := by
    rcases hJ.row.2 with ⟨h, _⟩ | ⟨g, cp, cur, h, _⟩
    · exact ⟨_, _, _, h⟩
    · exact ⟨_, _, _, h⟩
  have hin : valsR (fun b => W3.heap.size ≤ b ∧ b ≠ p) V3 (.slice b3 n3 c3) x3 := hJ.rowIn lawVal (fun x cs b o hco hc => by rw [show cs = [.int .i64 x.k, .int .i64 x.n, .string (strB x.s)] from hco] at hc; exact ⟨hc 0 (by simp), hc 1 (by simp), hc 2 (by simp)⟩)
  have HIN3 : Hid (valsR (fun b => W3.heap.size ≤ b ∧ b ≠ p) V3 (.slice b3 n3 c3) x3) := hin
  have hr1 := hJ.rd
  have hg1 := hJ.kept
  clear hin hJ
  have A3 : Hid (RdBox w V3 p base cap bs a4 r4 49 #[.int .i64 0, .int .i64 0, .int .i64 0, .slice none 0 0, .slice none 0 0] #[.int .i64 x0, .int .i64 x1, .int .i64 x2, .slice none 0 0, .slice none 0 0]) := B3.out.call hr1 hg1
  have HGV3 : Hid (W3.grownBy V3 (some p)) := hg1
  obtain ⟨W4, hW⟩ : ∃ W, W = V3.setCell ⟨w.heap.size + 1, 3, none⟩ (.slice b3 n3 c3) := ⟨_, rfl⟩
  have HW4 : Hid (W4 = V3.setCell ⟨w.heap.size + 1, 3, none⟩ (.slice b3 n3 c3)) := hW
  have B4 : Hid (RdBox w W4 p base cap bs a4 r4 49 #[.int .i64 0, .int .i64 0, .int .i64 0, .slice none 0 0, .slice none 0 0] #[.int .i64 x0, .int .i64 x1, .int .i64 x2, .slice b3 n3 c3, .slice none 0 0]) := by rw [hW]; exact A3.out.store 3 _
  obtain ⟨-, -, -, q3, -⟩ := cells5p A3.out.X
  have fz := cfrozen A3.out.X 3
  clear hr1 hg1 hW 
  have c := pReadAllVal_any p base cap bs (rVl bs) W4 a4 r4 B4.out.rd (Nat.lt_of_lt_of_le B4.out.plt B4.out.G.size) (fun x e => Nat.lt_of_lt_of_le (B4.out.blt x e) B4.out.G.size) (fun W a hs hW => (pReadVal_any p base cap bs W a 0 hW (Nat.lt_of_lt_of_le B4.out.plt (Nat.le_trans B4.out.G.size hs)) (fun x e => Nat.lt_of_lt_of_le (B4.out.blt x e) (Nat.le_trans B4.out.G.size hs))))
  rw [HX4.out] at c
  simp only at c
  go_wp2_with fail
  rw [← HW4.out]
  refine c.mono ?_
  clear c
  rintro e V4 ⟨v4, rfl, css, hJ⟩
  obtain ⟨b4, n4, c4, rfl⟩ : ∃ b n c, v4 = .slice b n c := by
    rcases hJ.row.2 with ⟨h, _⟩ | ⟨g, cp, cur, h, _⟩
    · exact ⟨_, _, _, h⟩
    · exact ⟨_, _, _, h⟩
  have hin : valsR (fun b => W4.heap.size ≤ b ∧ b ≠ p) V4 (.slice b4 n4 c4) x4 := hJ.rowIn lawVal (fun x cs b o hco hc => by rw [show cs = [.int .i64 x.k, .int .i64 x.n, .string (strB x.s)] from hco] at hc; exact ⟨hc 0 (by simp), hc 1 (by simp), hc 2 (by simp)⟩)
  have HIN4 : Hid (valsR (fun b => W4.heap.size ≤ b ∧ b ≠ p) V4 (.slice b4 n4 c4) x4) := hin
  have hr1 := hJ.rd
  have hg1 := hJ.kept
  clear hin hJ
  have A4 : Hid (RdBox w V4 p base cap bs a5 r5 49 #[.int .i64 0, .int .i64 0, .int .i64 0, .slice none 0 0, .slice none 0 0] #[.int .i64 x0, .int .i64 x1, .int .i64 x2, .slice b3 n3 c3, .slice none 0 0]) := B4.out.call hr1 hg1
  have HGV4 : Hid (W4.grownBy V4 (some p)) := hg1
  obtain ⟨W5, hW⟩ : ∃ W, W = V4.setCell ⟨w.heap.size + 1, 4, none⟩ (.slice b4 n4 c4) := ⟨_, rfl⟩
  have HW5 : Hid (W5 = V4.setCell ⟨w.heap.size + 1, 4, none⟩ (.slice b4 n4 c4)) := hW
  have B5 : Hid (RdBox w W5 p base cap bs a5 r5 49 #[.int .i64 0, .int .i64 0, .int .i64 0, .slice none 0 0, .slice none 0 0] #[.int .i64 x0, .int .i64 x1, .int .i64 x2, .slice b3 n3 c3, .slice b4 n4 c4]) := by rw [hW]; exact A4.out.store 4 _
  obtain ⟨-, -, -, -, q4⟩ := cells5p A4.out.X
  have fz := cfrozen A4.out.X 4
  clear hr1 hg1 hW 
  go_upto_region 7 with fail
  rw [← HW5.out]
  obtain ⟨d0, d1, d2, d3, d4⟩ := cells5p B5.out.X
  obtain ⟨y0, y1, y2, y3, y4⟩ := cells5p B5.out.Y
  have yf := cfrozen B5.out.Y
  have HE : Hid (RdBox w (((((W5.setCell ⟨w.heap.size, 0, none⟩ (.int .i64 x0)).setCell ⟨w.heap.size, 1, none⟩ (.int .i64 x1)).setCell ⟨w.heap.size, 2, none⟩ (.int .i64 x2)).setCell ⟨w.heap.size, 3, none⟩ (.slice b3 n3 c3)).setCell ⟨w.heap.size, 4, none⟩ (.slice b4 n4 c4)) p base cap bs a5 r5 49 #[.int .i64 x0, .int .i64 x1, .int .i64 x2, .slice b3 n3 c3, .slice b4 n4 c4] #[.int .i64 x0, .int .i64 x1, .int .i64 x2, .slice b3 n3 c3, .slice b4 n4 c4]) := (((((B5.out.storeY 0 (.int .i64 x0)).storeY 1 (.int .i64 x1)).storeY 2 (.int .i64 x2)).storeY 3 (.slice b3 n3 c3)).storeY 4 (.slice b4 n4 c4))
  obtain ⟨z0, z1, z2, z3, z4⟩ := cells5p HE.out.Y
  have hkeep : ∀ q, w.heap.size + 2 ≤ q → ((((((W5.setCell ⟨w.heap.size, 0, none⟩ (.int .i64 x0)).setCell ⟨w.heap.size, 1, none⟩ (.int .i64 x1)).setCell ⟨w.heap.size, 2, none⟩ (.int .i64 x2)).setCell ⟨w.heap.size, 3, none⟩ (.slice b3 n3 c3)).setCell ⟨w.heap.size, 4, none⟩ (.slice b4 n4 c4))).heap[q]? = W5.heap[q]? := fun q hq => by
    rw [Below.heap_setCell _ _ _ _ (by simp; omega), Below.heap_setCell _ _ _ _ (by simp; omega), Below.heap_setCell _ _ _ _ (by simp; omega), Below.heap_setCell _ _ _ _ (by simp; omega), Below.heap_setCell _ _ _ _ (by simp; omega)]
  have hsz : ((((((W5.setCell ⟨w.heap.size, 0, none⟩ (.int .i64 x0)).setCell ⟨w.heap.size, 1, none⟩ (.int .i64 x1)).setCell ⟨w.heap.size, 2, none⟩ (.int .i64 x2)).setCell ⟨w.heap.size, 3, none⟩ (.slice b3 n3 c3)).setCell ⟨w.heap.size, 4, none⟩ (.slice b4 n4 c4))).heap.size = W5.heap.size := by simp
  have HN3 : Hid (valsR (fun b => w.heap.size ≤ b) ((((((W5.setCell ⟨w.heap.size, 0, none⟩ (.int .i64 x0)).setCell ⟨w.heap.size, 1, none⟩ (.int .i64 x1)).setCell ⟨w.heap.size, 2, none⟩ (.int .i64 x2)).setCell ⟨w.heap.size, 3, none⟩ (.slice b3 n3 c3)).setCell ⟨w.heap.size, 4, none⟩ (.slice b4 n4 c4))) (.slice b3 n3 c3) x3) := by
    have hWs : w.heap.size + 1 < W3.heap.size := heap_lt B3.out.X
    have h1 : valsR (fun b => w.heap.size + 2 ≤ b ∧ b ≠ p) V3 (.slice b3 n3 c3) x3 := rowIn.wide HIN3.out (fun q _ hq => ⟨by have := hq.1; omega, hq.2⟩) fun _ _ _ h => h
    have h2 := rowIn.kept (w' := W4) h1 (valE_keeps _) (by rw [HW4.out]; simp) fun q hq _ => by
      rw [HW4.out, Below.heap_setCell _ _ _ _ (by have := hq.1; simp; omega)]
    have h3 := rowIn.kept (w' := V4) h2 (valE_keeps _) HGV4.out.size fun q hq hlt => HGV4.out.block q hlt (by have := hq.2; simp; exact this)
    have hz := rowIn.kept (w' := (((((W5.setCell ⟨w.heap.size, 0, none⟩ (.int .i64 x0)).setCell ⟨w.heap.size, 1, none⟩ (.int .i64 x1)).setCell ⟨w.heap.size, 2, none⟩ (.int .i64 x2)).setCell ⟨w.heap.size, 3, none⟩ (.slice b3 n3 c3)).setCell ⟨w.heap.size, 4, none⟩ (.slice b4 n4 c4))) h3 (valE_keeps _) (by rw [hsz, HW5.out]; simp) fun q hq _ => by
      rw [hkeep q hq.1, HW5.out, Below.heap_setCell _ _ _ _ (by have := hq.1; simp; omega)]
    exact rowIn.wide hz (fun q _ hq => by have := hq.1; omega) fun _ _ _ h => h
  have HN4 : Hid (valsR (fun b => w.heap.size ≤ b) ((((((W5.setCell ⟨w.heap.size, 0, none⟩ (.int .i64 x0)).setCell ⟨w.heap.size, 1, none⟩ (.int .i64 x1)).setCell ⟨w.heap.size, 2, none⟩ (.int .i64 x2)).setCell ⟨w.heap.size, 3, none⟩ (.slice b3 n3 c3)).setCell ⟨w.heap.size, 4, none⟩ (.slice b4 n4 c4))) (.slice b4 n4 c4) x4) := by
    have hWs : w.heap.size + 1 < W4.heap.size := heap_lt B4.out.X
    have h1 : valsR (fun b => w.heap.size + 2 ≤ b ∧ b ≠ p) V4 (.slice b4 n4 c4) x4 := rowIn.wide HIN4.out (fun q _ hq => ⟨by have := hq.1; omega, hq.2⟩) fun _ _ _ h => h
    have hz := rowIn.kept (w' := (((((W5.setCell ⟨w.heap.size, 0, none⟩ (.int .i64 x0)).setCell ⟨w.heap.size, 1, none⟩ (.int .i64 x1)).setCell ⟨w.heap.size, 2, none⟩ (.int .i64 x2)).setCell ⟨w.heap.size, 3, none⟩ (.slice b3 n3 c3)).setCell ⟨w.heap.size, 4, none⟩ (.slice b4 n4 c4))) h1 (valE_keeps _) (by rw [hsz, HW5.out]; simp) fun q hq _ => by
      rw [hkeep q hq.1, HW5.out, Below.heap_setCell _ _ _ _ (by have := hq.1; simp; omega)]
    exact rowIn.wide hz (fun q _ hq => by have := hq.1; omega) fun _ _ _ h => h
  clear hkeep hsz
  go_wp2
  refine bodyPost_ret (v := .agg #[.int .i64 x0, .int .i64 x1, .int .i64 x2, .slice b3 n3 c3, .slice b4 n4 c4]) (by simp [results, Tryz.results61, go_sem, z0, z1, z2, z3, z4]) rfl ?_
  refine ⟨(⟨x0, x1, x2, x3, x4⟩ : Cal), by rw [HRES.out], ⟨_, _, _, _, _, _, rfl, ⟨HN3.out, HN4.out⟩⟩, ?_, HE.out.G⟩
  rw [HRES.out]
  exact HE.out.rd
end Go.Proofs.YtbdgniiafdjmiaaGreatDoor
/- snap: readObject. -/
namespace Go.Proofs.YtbdgniiafdjmiaaGreatDoor
open Go.RowKit Go.Shelf

set_option maxRecDepth 100000 in
set_option maxHeartbeats 8000000 in
theorem pReadObject_any (p : Nat) (base : Option Addr) (cap : Nat) (bs : List UInt8) (w : World) (a0 r0 : Nat) (hr : ReaderAt w p base cap bs a0 r0) (hp : p < w.heap.size) (hbl : ∀ x, base = some x → x.block < w.heap.size) :
    Calls Tryz.prog 63 #[.pointer (some ⟨p, 0, none⟩)] w fun e w' => ∃ x, x = (rObj bs a0 r0).1 ∧ (∃ bf nf cf, e = .returned (obV x (.slice bf nf cf)) ∧ valsR (fun b => w.heap.size ≤ b) w' (.slice bf nf cf) x.2) ∧ ReaderAt w' p base cap bs (rObj bs a0 r0).2.1 (rObj bs a0 r0).2.2 ∧ w.grownBy w' (some p) := by
  have B0 : Hid (RdBox w ((w.alloc (.cells #[.string ⟨#[]⟩, .slice none 0 0] 51)).alloc (.cells #[.string ⟨#[]⟩, .slice none 0 0] 51)) p base cap bs a0 r0 51 #[.string ⟨#[]⟩, .slice none 0 0] #[.string ⟨#[]⟩, .slice none 0 0]) := RdBox.start hr hp hbl _ _
  obtain ⟨W0, hW0⟩ : ∃ W, W = (w.alloc (.cells #[.string ⟨#[]⟩, .slice none 0 0] 51)).alloc (.cells #[.string ⟨#[]⟩, .slice none 0 0] 51) := ⟨_, rfl⟩
  have HW0 : Hid (W0 = (w.alloc (.cells #[.string ⟨#[]⟩, .slice none 0 0] 51)).alloc (.cells #[.string ⟨#[]⟩, .slice none 0 0] 51)) := hW0
  rw [← hW0] at B0
  obtain ⟨x0, a1, r1, hx0⟩ : ∃ x ya yr, rTx 255 bs a0 r0 = (x, ya, yr) := ⟨_, _, _, rfl⟩
  obtain ⟨x1, a2, r2, hx1⟩ : ∃ x ya yr, rAll bs (rVl bs) a1 r1 = (x, ya, yr) := ⟨_, _, _, rfl⟩
  have HRES : Hid (rObj bs a0 r0 = (((x0, x1) : Ob), a2, r2)) := by
    show _ = _
    simp only [rObj, hx0, hx1]
  have HX0 : Hid (rTx 255 bs a0 r0 = (x0, a1, r1)) := hx0
  have HX1 : Hid (rAll bs (rVl bs) a1 r1 = (x1, a2, r2)) := hx1
  obtain ⟨RR, hRR⟩ : ∃ RR, RR = rObj bs a0 r0 := ⟨_, rfl⟩
  rw [← hRR] at HRES ⊢
  clear hr hp hbl hW0 hRR hx0 hx1
  go_enter Tryz.func63, Tryz.ntmps63
  have c := text_any 255 B0.out.rd
  rw [show stepR [] a0 r0 (getT (bs.drop a0) 255) = (x0, a1, r1) from HX0.out] at c
  simp only at c
  go_wp2_with fail
  rw [← HW0.out]
  refine c.mono ?_
  clear c
  rintro e V0 ⟨rfl, hr1, hg1⟩
  have A0 : Hid (RdBox w V0 p base cap bs a1 r1 51 #[.string ⟨#[]⟩, .slice none 0 0] #[.string ⟨#[]⟩, .slice none 0 0]) := B0.out.call hr1 hg1
  have HGV0 : Hid (W0.grownBy V0 (some p)) := hg1
  obtain ⟨W1, hW⟩ : ∃ W, W = V0.setCell ⟨w.heap.size + 1, 0, none⟩ (.string (strB x0)) := ⟨_, rfl⟩
  have HW1 : Hid (W1 = V0.setCell ⟨w.heap.size + 1, 0, none⟩ (.string (strB x0))) := hW
  have B1 : Hid (RdBox w W1 p base cap bs a1 r1 51 #[.string ⟨#[]⟩, .slice none 0 0] #[.string (strB x0), .slice none 0 0]) := by rw [hW]; exact A0.out.store 0 _
  obtain ⟨q0, -⟩ := bcells2 A0.out.X
  have fz := cfrozen A0.out.X 0
  clear hr1 hg1 hW 
  have c := pReadAllVal_any p base cap bs (rVl bs) W1 a1 r1 B1.out.rd (Nat.lt_of_lt_of_le B1.out.plt B1.out.G.size) (fun x e => Nat.lt_of_lt_of_le (B1.out.blt x e) B1.out.G.size) (fun W a hs hW => (pReadVal_any p base cap bs W a 0 hW (Nat.lt_of_lt_of_le B1.out.plt (Nat.le_trans B1.out.G.size hs)) (fun x e => Nat.lt_of_lt_of_le (B1.out.blt x e) (Nat.le_trans B1.out.G.size hs))))
  rw [HX1.out] at c
  simp only at c
  go_wp2_with fail
  rw [← HW1.out]
  refine c.mono ?_
  clear c
  rintro e V1 ⟨v1, rfl, css, hJ⟩
  obtain ⟨b1, n1, c1, rfl⟩ : ∃ b n c, v1 = .slice b n c := by
    rcases hJ.row.2 with ⟨h, _⟩ | ⟨g, cp, cur, h, _⟩
    · exact ⟨_, _, _, h⟩
    · exact ⟨_, _, _, h⟩
  have hin : valsR (fun b => W1.heap.size ≤ b ∧ b ≠ p) V1 (.slice b1 n1 c1) x1 := hJ.rowIn lawVal (fun x cs b o hco hc => by rw [show cs = [.int .i64 x.k, .int .i64 x.n, .string (strB x.s)] from hco] at hc; exact ⟨hc 0 (by simp), hc 1 (by simp), hc 2 (by simp)⟩)
  have HIN1 : Hid (valsR (fun b => W1.heap.size ≤ b ∧ b ≠ p) V1 (.slice b1 n1 c1) x1) := hin
  have hr1 := hJ.rd
  have hg1 := hJ.kept
  clear hin hJ
  have A1 : Hid (RdBox w V1 p base cap bs a2 r2 51 #[.string ⟨#[]⟩, .slice none 0 0] #[.string (strB x0), .slice none 0 0]) := B1.out.call hr1 hg1
  have HGV1 : Hid (W1.grownBy V1 (some p)) := hg1
  obtain ⟨W2, hW⟩ : ∃ W, W = V1.setCell ⟨w.heap.size + 1, 1, none⟩ (.slice b1 n1 c1) := ⟨_, rfl⟩
  have HW2 : Hid (W2 = V1.setCell ⟨w.heap.size + 1, 1, none⟩ (.slice b1 n1 c1)) := hW
  have B2 : Hid (RdBox w W2 p base cap bs a2 r2 51 #[.string ⟨#[]⟩, .slice none 0 0] #[.string (strB x0), .slice b1 n1 c1]) := by rw [hW]; exact A1.out.store 1 _
  obtain ⟨-, q1⟩ := bcells2 A1.out.X
  have fz := cfrozen A1.out.X 1
  clear hr1 hg1 hW 
  go_upto_region 4 with fail
  rw [← HW2.out]
  obtain ⟨d0, d1⟩ := bcells2 B2.out.X
  obtain ⟨y0, y1⟩ := bcells2 B2.out.Y
  have yf := cfrozen B2.out.Y
  have HE : Hid (RdBox w ((W2.setCell ⟨w.heap.size, 0, none⟩ (.string (strB x0))).setCell ⟨w.heap.size, 1, none⟩ (.slice b1 n1 c1)) p base cap bs a2 r2 51 #[.string (strB x0), .slice b1 n1 c1] #[.string (strB x0), .slice b1 n1 c1]) := ((B2.out.storeY 0 (.string (strB x0))).storeY 1 (.slice b1 n1 c1))
  obtain ⟨z0, z1⟩ := bcells2 HE.out.Y
  have HN1 : Hid (valsR (fun b => w.heap.size ≤ b) ((W2.setCell ⟨w.heap.size, 0, none⟩ (.string (strB x0))).setCell ⟨w.heap.size, 1, none⟩ (.slice b1 n1 c1)) (.slice b1 n1 c1) x1) := by
    have hWs : w.heap.size + 1 < W1.heap.size := heap_lt B1.out.X
    have h1 : valsR (fun b => w.heap.size + 2 ≤ b ∧ b ≠ p) V1 (.slice b1 n1 c1) x1 := rowIn.wide HIN1.out (fun q _ hq => ⟨by have := hq.1; omega, hq.2⟩) fun _ _ _ h => h
    have h2 := rowIn.kept (w' := ((W2.setCell ⟨w.heap.size, 0, none⟩ (.string (strB x0))).setCell ⟨w.heap.size, 1, none⟩ (.slice b1 n1 c1))) h1 (valE_keeps _) (by rw [HW2.out]; simp) fun q hq _ => by
      have hq1 := hq.1
      rw [Below.heap_setCell _ _ _ _ (by simp; omega), Below.heap_setCell _ _ _ _ (by simp; omega), HW2.out, Below.heap_setCell _ _ _ _ (by simp; omega)]
    exact rowIn.wide h2 (fun q _ hq => by have := hq.1; omega) fun _ _ _ h => h
  go_wp2
  refine bodyPost_ret (v := .agg #[.string (strB x0), .slice b1 n1 c1]) (by simp [results, Tryz.results63, go_sem, z0, z1]) rfl ?_
  refine ⟨((x0, x1) : Ob), by rw [HRES.out], ⟨_, _, _, rfl, HN1.out⟩, ?_, HE.out.G⟩
  rw [HRES.out]
  exact HE.out.rd
end Go.Proofs.YtbdgniiafdjmiaaGreatDoor
/- snap: how many there are, and each, read: at hindcast/api.Called. -/
namespace Go.Proofs.YtbdgniiafdjmiaaGreatDoor
open Go.RowKit Go.Shelf

set_option maxRecDepth 100000 in
set_option maxHeartbeats 8000000 in
theorem pReadAllCal_any (p : Nat) (base : Option Addr) (cap : Nat) (bs : List UInt8) (one : Nat → Nat → Cal × Nat × Nat) (w : World) (a0 r0 : Nat) (hr : ReaderAt w p base cap bs a0 r0) (hp : p < w.heap.size) (hbl : ∀ x, base = some x → x.block < w.heap.size)
    (hk : ∀ W a, w.heap.size ≤ W.heap.size → ReaderAt W p base cap bs a 0 → Calls Tryz.prog 61 #[.pointer (some ⟨p, 0, none⟩)] W fun e w' => ∃ x, x = (one a 0).1 ∧ (∃ bi ni ci bv nv cv, e = .returned (calV x (.slice bi ni ci) (.slice bv nv cv)) ∧ valsR (fun b => W.heap.size ≤ b) w' (.slice bi ni ci) x.slots ∧ valsR (fun b => W.heap.size ≤ b) w' (.slice bv nv cv) x.stack) ∧ ReaderAt w' p base cap bs (one a 0).2.1 (one a 0).2.2 ∧ W.grownBy w' (some p)) :
    Calls Tryz.prog 60 #[.pointer (some ⟨p, 0, none⟩), .func (.func 61) #[] #[]] w fun e w' => ∃ v, e = .returned v ∧ ∃ css, RowJ coCal 5 w.heap.size p 49 w base cap bs v w' (rAll bs one a0 r0).1 css (rAll bs one a0 r0).2.1 (rAll bs one a0 r0).2.2 := by
  have HK : Hid (∀ W a, w.heap.size ≤ W.heap.size → ReaderAt W p base cap bs a 0 → Calls Tryz.prog 61 #[.pointer (some ⟨p, 0, none⟩)] W fun e w' => ∃ x, x = (one a 0).1 ∧ (∃ bi ni ci bv nv cv, e = .returned (calV x (.slice bi ni ci) (.slice bv nv cv)) ∧ valsR (fun b => W.heap.size ≤ b) w' (.slice bi ni ci) x.slots ∧ valsR (fun b => W.heap.size ≤ b) w' (.slice bv nv cv) x.stack) ∧ ReaderAt w' p base cap bs (one a 0).2.1 (one a 0).2.2 ∧ W.grownBy w' (some p)) := hk
  obtain ⟨i0, hinf, hz0, hz1, hz2⟩ := info_parts pinfo_cal
  have HR : Hid (ReaderAt w p base cap bs a0 r0) := hr
  have HP : Hid (p < w.heap.size) := hp
  have HBL : Hid (∀ x, base = some x → x.block < w.heap.size) := hbl
  have cc := count_any 1048576 hr
  have hbd := rC_bound bs a0 r0
  obtain ⟨n, a1, r1, hrc⟩ : ∃ (n : Nat) (a1 r1 : Nat), rC bs a0 r0 = ((n : Int), a1, r1) := ⟨(rC bs a0 r0).1.toNat, (rC bs a0 r0).2.1, (rC bs a0 r0).2.2, by rw [Int.toNat_of_nonneg hbd.1]⟩
  have hrc' : stepR 0 a0 r0 (getC (bs.drop a0) 1048576) = ((n : Int), a1, r1) := hrc
  rw [hrc'] at cc
  simp only at cc
  have hn : (n : Int) ≤ 1048576 := by rw [hrc] at hbd; exact hbd.2
  have HALL : Hid (rAll bs one a0 r0 = loopR one n a1 r1) := by
    show _ = _
    unfold rAll
    rw [hrc]
    simp only [Int.toNat_natCast]
  obtain ⟨RR, hRR⟩ : ∃ RR, RR = rAll bs one a0 r0 := ⟨_, rfl⟩
  rw [← hRR] at HALL ⊢
  clear hk hr hp hbl hbd hrc hrc' hRR
  go_enter Tryz.func60, Tryz.ntmps60
  go_wp2_with fail
  refine cc.mono ?_
  clear cc
  rintro e w1 ⟨rfl, hr1, hg1⟩
  have HJ0 : Hid (RowJ coCal 5 w.heap.size p 49 w base cap bs (.slice none 0 0) w1 ([] : List Cal) [] a1 r1) := RowJ.start hr1 hg1 rfl HP.out HBL.out
  clear hr1 hg1
  go_wp2
  go_loopw [5, 6] (fun v vi wr => ∃ (m : Nat) (l : List Cal) (css : List (List Value)) (a r : Nat), vi = .int .i64 (m : Int) ∧ m ≤ n ∧ l.length + m ≤ n ∧ RowJ coCal 5 w.heap.size p 49 w base cap bs v wr l css a r ∧ RR = (l ++ (loopR one m a r).1, (loopR one m a r).2)) (fun _ vi _ => (intOf vi).toNat)
  case atStart => exact ⟨n, [], [], a1, r1, rfl, Nat.le_refl _, by simp, HJ0.out, by rw [HALL.out]; rfl⟩
  case round =>
    obtain ⟨m, l, css, a, r, rfl, hmn, hlm, hJ, hRR⟩ := hrel
    have HJ : Hid (RowJ coCal 5 w.heap.size p 49 w base cap bs u5 wr l css a r) := hJ
    have HRR : Hid (RR = (l ++ (loopR one m a r).1, (loopR one m a r).2)) := hRR
    have HLM : Hid (l.length + m ≤ n) := hlm
    by_cases hm : 0 < m
    · have hm1 : (0 : Int) < m := by omega
      have hm2 : (m : Int) ≤ 1048576 := by omega
      have ce := err_any hJ.rd
      obtain ⟨b5, n5, c5, hv5⟩ : ∃ b n c, u5 = .slice b n c := by
        rcases hJ.row.2 with ⟨h, _⟩ | ⟨g, cp, cur, h, _⟩
        · exact ⟨_, _, _, h⟩
        · exact ⟨_, _, _, h⟩
      subst hv5
      by_cases hr0 : r = 0
      · subst hr0
        have c1 := HK.out wr a hJ.low hJ.rd
        have HRS : Hid (RR = (l ++ [(one a 0).1] ++ (loopR one (m - 1) (one a 0).2.1 (one a 0).2.2).1, (loopR one (m - 1) (one a 0).2.1 (one a 0).2.2).2)) := by
          obtain ⟨m', rfl⟩ : ∃ m', m = m' + 1 := ⟨m - 1, by omega⟩
          show _ = _
          rw [hRR, loopR_succ]
          simp
        clear hJ hRR hlm
        go_wp2_with fail
        refine ce.mono ?_
        clear ce
        rintro e _ ⟨rfl, rfl⟩
        go_wp2_with fail
        refine c1.mono ?_
        clear c1
        rintro e w2 ⟨x, hx, ⟨bi, ni, ci, bv, nv, cv, rfl, hnest⟩, hr2, hg2⟩
        have HX : Hid (x = (one a 0).1) := hx
        have HR2 : Hid (ReaderAt w2 p base cap bs (one a 0).2.1 (one a 0).2.2) := hr2
        have HG2 : Hid (wr.grownBy w2 (some p)) := hg2
        have HCO : Hid (coCal (fun b => wr.heap.size ≤ b) w2 x [.int .i64 x.unit, .int .i64 x.at0, .int .i64 x.mark, .slice bi ni ci, .slice bv nv cv]) := ⟨_, _, _, _, _, _, rfl, hnest⟩
        have HROW : Hid (w2.ownsRow w.heap.size 49 5 (.slice b5 n5 c5) l.length css.flatten) := HJ.out.row.kept hg2 (by
          by_cases hob : (Value.slice b5 n5 c5).ownBlock = none
          · exact .inl hob
          · refine .inr fun e => ?_
            have := (HJ.out.row.lt p e).1
            have := HP.out
            omega)
        have HW2 : Hid (w.heap.size ≤ w2.heap.size) := Nat.le_trans HJ.out.low hg2.size
        have HLN : Hid (l.length + 1 ≤ 1048576) := by have := HLM.out; show _ ≤ _; omega
        clear hx hnest hr2 hg2
        go_wp2_with (first
          | (at_builtin; refine wpList_append_own_at _ rfl _ _ 24 rfl w.heap.size 49 i0 (.agg #[.int .i64 0, .int .i64 0, .int .i64 0, .slice none 0 0, .slice none 0 0]) 5 72 Tryz.underlying24 hinf hz0 hz1 hz2 rfl (by decide) _ _ _ rfl (HROW.out.alloc _) ⟨w2.heap.size, 0, none⟩ 1 1 [.int .i64 x.unit, .int .i64 x.at0, .int .i64 x.mark, .slice bi ni ci, .slice bv nv cv] rfl rfl (rcells_new _ _ _) (lawCal.one _ _ _ _ HCO.out) (by have := HLN.out; unfold maxLen; omega) (by have := HLN.out; omega) (by have := HW2.out; simp; omega) ?_; intro v' w9 hown9 hgrow9 hnil9 hloc9)
          | go_in)
        go_roundw
        case rel =>
          refine ⟨m - 1, l ++ [x], css ++ [[.int .i64 x.unit, .int .i64 x.at0, .int .i64 x.mark, .slice bi ni ci, .slice bv nv cv]], (one a 0).2.1, (one a 0).2.2, ?_, by omega, by have := HLM.out; simp; omega, HJ.out.snoc lawCal HR2.out HG2.out HCO.out rfl hown9 hgrow9 hloc9, by rw [HX.out]; exact HRS.out⟩
          have : ((m - 1 : Nat) : Int) = (m : Int) - 1 := by omega
          rw [this]
        case measure => simp [intOf]; omega
      · have hrb : ((r : Int) == 0) = false := by rw [beq_eq_false_iff_ne]; omega
        have HE : Hid (RR = (l, a, r)) := by rw [hRR, loopR_bad one m a r hr0]; show _ = _; simp
        clear hJ hRR hlm
        go_wp2_with fail
        refine ce.mono ?_
        clear ce
        rintro e _ ⟨rfl, rfl⟩
        go_wp2
        go_ret
        refine ⟨_, rfl, css, ?_⟩
        rw [HE.out]
        exact HJ.out
    · obtain rfl : m = 0 := by omega
      have HE : Hid (RR = (l, a, r)) := by rw [hRR, loopR_zero]; show _ = _; simp
      clear hJ hRR hlm
      go_wp2
      go_ret
      refine ⟨_, rfl, css, ?_⟩
      rw [HE.out]
      exact HJ.out
end Go.Proofs.YtbdgniiafdjmiaaGreatDoor
/- snap: how many there are, and each, read: at hindcast/api.Obj. -/
namespace Go.Proofs.YtbdgniiafdjmiaaGreatDoor
open Go.RowKit Go.Shelf

set_option maxRecDepth 100000 in
set_option maxHeartbeats 8000000 in
theorem pReadAllObj_any (p : Nat) (base : Option Addr) (cap : Nat) (bs : List UInt8) (one : Nat → Nat → Ob × Nat × Nat) (w : World) (a0 r0 : Nat) (hr : ReaderAt w p base cap bs a0 r0) (hp : p < w.heap.size) (hbl : ∀ x, base = some x → x.block < w.heap.size)
    (hk : ∀ W a, w.heap.size ≤ W.heap.size → ReaderAt W p base cap bs a 0 → Calls Tryz.prog 63 #[.pointer (some ⟨p, 0, none⟩)] W fun e w' => ∃ x, x = (one a 0).1 ∧ (∃ bf nf cf, e = .returned (obV x (.slice bf nf cf)) ∧ valsR (fun b => W.heap.size ≤ b) w' (.slice bf nf cf) x.2) ∧ ReaderAt w' p base cap bs (one a 0).2.1 (one a 0).2.2 ∧ W.grownBy w' (some p)) :
    Calls Tryz.prog 62 #[.pointer (some ⟨p, 0, none⟩), .func (.func 63) #[] #[]] w fun e w' => ∃ v, e = .returned v ∧ ∃ css, RowJ coObj 2 w.heap.size p 51 w base cap bs v w' (rAll bs one a0 r0).1 css (rAll bs one a0 r0).2.1 (rAll bs one a0 r0).2.2 := by
  have HK : Hid (∀ W a, w.heap.size ≤ W.heap.size → ReaderAt W p base cap bs a 0 → Calls Tryz.prog 63 #[.pointer (some ⟨p, 0, none⟩)] W fun e w' => ∃ x, x = (one a 0).1 ∧ (∃ bf nf cf, e = .returned (obV x (.slice bf nf cf)) ∧ valsR (fun b => W.heap.size ≤ b) w' (.slice bf nf cf) x.2) ∧ ReaderAt w' p base cap bs (one a 0).2.1 (one a 0).2.2 ∧ W.grownBy w' (some p)) := hk
  obtain ⟨i0, hinf, hz0, hz1, hz2⟩ := info_parts pinfo_obj
  have HR : Hid (ReaderAt w p base cap bs a0 r0) := hr
  have HP : Hid (p < w.heap.size) := hp
  have HBL : Hid (∀ x, base = some x → x.block < w.heap.size) := hbl
  have cc := count_any 1048576 hr
  have hbd := rC_bound bs a0 r0
  obtain ⟨n, a1, r1, hrc⟩ : ∃ (n : Nat) (a1 r1 : Nat), rC bs a0 r0 = ((n : Int), a1, r1) := ⟨(rC bs a0 r0).1.toNat, (rC bs a0 r0).2.1, (rC bs a0 r0).2.2, by rw [Int.toNat_of_nonneg hbd.1]⟩
  have hrc' : stepR 0 a0 r0 (getC (bs.drop a0) 1048576) = ((n : Int), a1, r1) := hrc
  rw [hrc'] at cc
  simp only at cc
  have hn : (n : Int) ≤ 1048576 := by rw [hrc] at hbd; exact hbd.2
  have HALL : Hid (rAll bs one a0 r0 = loopR one n a1 r1) := by
    show _ = _
    unfold rAll
    rw [hrc]
    simp only [Int.toNat_natCast]
  obtain ⟨RR, hRR⟩ : ∃ RR, RR = rAll bs one a0 r0 := ⟨_, rfl⟩
  rw [← hRR] at HALL ⊢
  clear hk hr hp hbl hbd hrc hrc' hRR
  go_enter Tryz.func62, Tryz.ntmps62
  go_wp2_with fail
  refine cc.mono ?_
  clear cc
  rintro e w1 ⟨rfl, hr1, hg1⟩
  have HJ0 : Hid (RowJ coObj 2 w.heap.size p 51 w base cap bs (.slice none 0 0) w1 ([] : List Ob) [] a1 r1) := RowJ.start hr1 hg1 rfl HP.out HBL.out
  clear hr1 hg1
  go_wp2
  go_loopw [5, 6] (fun v vi wr => ∃ (m : Nat) (l : List Ob) (css : List (List Value)) (a r : Nat), vi = .int .i64 (m : Int) ∧ m ≤ n ∧ l.length + m ≤ n ∧ RowJ coObj 2 w.heap.size p 51 w base cap bs v wr l css a r ∧ RR = (l ++ (loopR one m a r).1, (loopR one m a r).2)) (fun _ vi _ => (intOf vi).toNat)
  case atStart => exact ⟨n, [], [], a1, r1, rfl, Nat.le_refl _, by simp, HJ0.out, by rw [HALL.out]; rfl⟩
  case round =>
    obtain ⟨m, l, css, a, r, rfl, hmn, hlm, hJ, hRR⟩ := hrel
    have HJ : Hid (RowJ coObj 2 w.heap.size p 51 w base cap bs u5 wr l css a r) := hJ
    have HRR : Hid (RR = (l ++ (loopR one m a r).1, (loopR one m a r).2)) := hRR
    have HLM : Hid (l.length + m ≤ n) := hlm
    by_cases hm : 0 < m
    · have hm1 : (0 : Int) < m := by omega
      have hm2 : (m : Int) ≤ 1048576 := by omega
      have ce := err_any hJ.rd
      obtain ⟨b5, n5, c5, hv5⟩ : ∃ b n c, u5 = .slice b n c := by
        rcases hJ.row.2 with ⟨h, _⟩ | ⟨g, cp, cur, h, _⟩
        · exact ⟨_, _, _, h⟩
        · exact ⟨_, _, _, h⟩
      subst hv5
      by_cases hr0 : r = 0
      · subst hr0
        have c1 := HK.out wr a hJ.low hJ.rd
        have HRS : Hid (RR = (l ++ [(one a 0).1] ++ (loopR one (m - 1) (one a 0).2.1 (one a 0).2.2).1, (loopR one (m - 1) (one a 0).2.1 (one a 0).2.2).2)) := by
          obtain ⟨m', rfl⟩ : ∃ m', m = m' + 1 := ⟨m - 1, by omega⟩
          show _ = _
          rw [hRR, loopR_succ]
          simp
        clear hJ hRR hlm
        go_wp2_with fail
        refine ce.mono ?_
        clear ce
        rintro e _ ⟨rfl, rfl⟩
        go_wp2_with fail
        refine c1.mono ?_
        clear c1
        rintro e w2 ⟨x, hx, ⟨bf, nf, cf, rfl, hnest⟩, hr2, hg2⟩
        have HX : Hid (x = (one a 0).1) := hx
        have HR2 : Hid (ReaderAt w2 p base cap bs (one a 0).2.1 (one a 0).2.2) := hr2
        have HG2 : Hid (wr.grownBy w2 (some p)) := hg2
        have HCO : Hid (coObj (fun b => wr.heap.size ≤ b) w2 x [.string (strB x.1), .slice bf nf cf]) := ⟨_, _, _, rfl, hnest⟩
        have HROW : Hid (w2.ownsRow w.heap.size 51 2 (.slice b5 n5 c5) l.length css.flatten) := HJ.out.row.kept hg2 (by
          by_cases hob : (Value.slice b5 n5 c5).ownBlock = none
          · exact .inl hob
          · refine .inr fun e => ?_
            have := (HJ.out.row.lt p e).1
            have := HP.out
            omega)
        have HW2 : Hid (w.heap.size ≤ w2.heap.size) := Nat.le_trans HJ.out.low hg2.size
        have HLN : Hid (l.length + 1 ≤ 1048576) := by have := HLM.out; show _ ≤ _; omega
        clear hx hnest hr2 hg2
        go_wp2_with (first
          | (at_builtin; refine wpList_append_own_at _ rfl _ _ 25 rfl w.heap.size 51 i0 (.agg #[.string ⟨#[]⟩, .slice none 0 0]) 2 40 Tryz.underlying25 hinf hz0 hz1 hz2 rfl (by decide) _ _ _ rfl (HROW.out.alloc _) ⟨w2.heap.size, 0, none⟩ 1 1 [.string (strB x.1), .slice bf nf cf] rfl rfl (rcells_new _ _ _) (lawObj.one _ _ _ _ HCO.out) (by have := HLN.out; unfold maxLen; omega) (by have := HLN.out; omega) (by have := HW2.out; simp; omega) ?_; intro v' w9 hown9 hgrow9 hnil9 hloc9)
          | go_in)
        go_roundw
        case rel =>
          refine ⟨m - 1, l ++ [x], css ++ [[.string (strB x.1), .slice bf nf cf]], (one a 0).2.1, (one a 0).2.2, ?_, by omega, by have := HLM.out; simp; omega, HJ.out.snoc lawObj HR2.out HG2.out HCO.out rfl hown9 hgrow9 hloc9, by rw [HX.out]; exact HRS.out⟩
          have : ((m - 1 : Nat) : Int) = (m : Int) - 1 := by omega
          rw [this]
        case measure => simp [intOf]; omega
      · have hrb : ((r : Int) == 0) = false := by rw [beq_eq_false_iff_ne]; omega
        have HE : Hid (RR = (l, a, r)) := by rw [hRR, loopR_bad one m a r hr0]; show _ = _; simp
        clear hJ hRR hlm
        go_wp2_with fail
        refine ce.mono ?_
        clear ce
        rintro e _ ⟨rfl, rfl⟩
        go_wp2
        go_ret
        refine ⟨_, rfl, css, ?_⟩
        rw [HE.out]
        exact HJ.out
    · obtain rfl : m = 0 := by omega
      have HE : Hid (RR = (l, a, r)) := by rw [hRR, loopR_zero]; show _ = _; simp
      clear hJ hRR hlm
      go_wp2
      go_ret
      refine ⟨_, rfl, css, ?_⟩
      rw [HE.out]
      exact HJ.out
end Go.Proofs.YtbdgniiafdjmiaaGreatDoor
/- snap: readState. -/
namespace Go.Proofs.YtbdgniiafdjmiaaGreatDoor
open Go.RowKit Go.Shelf

set_option maxRecDepth 100000 in
set_option maxHeartbeats 8000000 in
theorem pReadState_any (p : Nat) (base : Option Addr) (cap : Nat) (bs : List UInt8) (w : World) (a0 r0 : Nat) (hr : ReaderAt w p base cap bs a0 r0) (hp : p < w.heap.size) (hbl : ∀ x, base = some x → x.block < w.heap.size) :
    Calls Tryz.prog 30 #[.pointer (some ⟨p, 0, none⟩)] w fun e w' => ∃ x, x = (rSn bs a0 r0).1 ∧ (∃ bi ni ci bv nv cv, e = .returned (snV x (.slice bi ni ci) (.slice bv nv cv)) ∧ SnIn (fun b => w.heap.size ≤ b) w' x (.slice bi ni ci) (.slice bv nv cv)) ∧ ReaderAt w' p base cap bs (rSn bs a0 r0).2.1 (rSn bs a0 r0).2.2 ∧ w.grownBy w' (some p) := by
  have B0 : Hid (RdBox w ((w.alloc (.cells #[.int .i64 0, .int .i64 0, .int .i64 0, .slice none 0 0, .slice none 0 0, .string ⟨#[]⟩, .int .i64 0] 27)).alloc (.cells #[.int .i64 0, .int .i64 0, .int .i64 0, .slice none 0 0, .slice none 0 0, .string ⟨#[]⟩, .int .i64 0] 27)) p base cap bs a0 r0 27 #[.int .i64 0, .int .i64 0, .int .i64 0, .slice none 0 0, .slice none 0 0, .string ⟨#[]⟩, .int .i64 0] #[.int .i64 0, .int .i64 0, .int .i64 0, .slice none 0 0, .slice none 0 0, .string ⟨#[]⟩, .int .i64 0]) := RdBox.start hr hp hbl _ _
  obtain ⟨W0, hW0⟩ : ∃ W, W = (w.alloc (.cells #[.int .i64 0, .int .i64 0, .int .i64 0, .slice none 0 0, .slice none 0 0, .string ⟨#[]⟩, .int .i64 0] 27)).alloc (.cells #[.int .i64 0, .int .i64 0, .int .i64 0, .slice none 0 0, .slice none 0 0, .string ⟨#[]⟩, .int .i64 0] 27) := ⟨_, rfl⟩
  have HW0 : Hid (W0 = (w.alloc (.cells #[.int .i64 0, .int .i64 0, .int .i64 0, .slice none 0 0, .slice none 0 0, .string ⟨#[]⟩, .int .i64 0] 27)).alloc (.cells #[.int .i64 0, .int .i64 0, .int .i64 0, .slice none 0 0, .slice none 0 0, .string ⟨#[]⟩, .int .i64 0] 27)) := hW0
  rw [← hW0] at B0
  obtain ⟨x0, a1, r1, hx0⟩ : ∃ x ya yr, rI bs a0 r0 = (x, ya, yr) := ⟨_, _, _, rfl⟩
  obtain ⟨x1, a2, r2, hx1⟩ : ∃ x ya yr, rI bs a1 r1 = (x, ya, yr) := ⟨_, _, _, rfl⟩
  obtain ⟨x2, a3, r3, hx2⟩ : ∃ x ya yr, rI bs a2 r2 = (x, ya, yr) := ⟨_, _, _, rfl⟩
  obtain ⟨x3, a4, r4, hx3⟩ : ∃ x ya yr, rI bs a3 r3 = (x, ya, yr) := ⟨_, _, _, rfl⟩
  obtain ⟨x4, a5, r5, hx4⟩ : ∃ x ya yr, rTx 4096 bs a4 r4 = (x, ya, yr) := ⟨_, _, _, rfl⟩
  obtain ⟨x5, a6, r6, hx5⟩ : ∃ x ya yr, rAll bs (rCal bs) a5 r5 = (x, ya, yr) := ⟨_, _, _, rfl⟩
  obtain ⟨x6, a7, r7, hx6⟩ : ∃ x ya yr, rAll bs (rObj bs) a6 r6 = (x, ya, yr) := ⟨_, _, _, rfl⟩
  have HRES : Hid (rSn bs a0 r0 = ((⟨x0, x1, x2, x5, x6, x4, x3⟩ : Sn), a7, r7)) := by
    show _ = _
    simp only [rSn, hx0, hx1, hx2, hx3, hx4, hx5, hx6]
  have HX0 : Hid (rI bs a0 r0 = (x0, a1, r1)) := hx0
  have HX1 : Hid (rI bs a1 r1 = (x1, a2, r2)) := hx1
  have HX2 : Hid (rI bs a2 r2 = (x2, a3, r3)) := hx2
  have HX3 : Hid (rI bs a3 r3 = (x3, a4, r4)) := hx3
  have HX4 : Hid (rTx 4096 bs a4 r4 = (x4, a5, r5)) := hx4
  have HX5 : Hid (rAll bs (rCal bs) a5 r5 = (x5, a6, r6)) := hx5
  have HX6 : Hid (rAll bs (rObj bs) a6 r6 = (x6, a7, r7)) := hx6
  obtain ⟨RR, hRR⟩ : ∃ RR, RR = rSn bs a0 r0 := ⟨_, rfl⟩
  rw [← hRR] at HRES ⊢
  clear hr hp hbl hW0 hRR hx0 hx1 hx2 hx3 hx4 hx5 hx6
  go_enter Tryz.func30, Tryz.ntmps30
  have c := int_any B0.out.rd
  rw [show stepR 0 a0 r0 (getI (bs.drop a0)) = (x0, a1, r1) from HX0.out] at c
  simp only at c
  go_wp2_with fail
  rw [← HW0.out]
  refine c.mono ?_
  clear c
  rintro e V0 ⟨rfl, hr1, hg1⟩
  have A0 : Hid (RdBox w V0 p base cap bs a1 r1 27 #[.int .i64 0, .int .i64 0, .int .i64 0, .slice none 0 0, .slice none 0 0, .string ⟨#[]⟩, .int .i64 0] #[.int .i64 0, .int .i64 0, .int .i64 0, .slice none 0 0, .slice none 0 0, .string ⟨#[]⟩, .int .i64 0]) := B0.out.call hr1 hg1
  have HGV0 : Hid (W0.grownBy V0 (some p)) := hg1
  obtain ⟨W1, hW⟩ : ∃ W, W = V0.setCell ⟨w.heap.size + 1, 0, none⟩ (.int .i64 x0) := ⟨_, rfl⟩
  have HW1 : Hid (W1 = V0.setCell ⟨w.heap.size + 1, 0, none⟩ (.int .i64 x0)) := hW
  have B1 : Hid (RdBox w W1 p base cap bs a1 r1 27 #[.int .i64 0, .int .i64 0, .int .i64 0, .slice none 0 0, .slice none 0 0, .string ⟨#[]⟩, .int .i64 0] #[.int .i64 x0, .int .i64 0, .int .i64 0, .slice none 0 0, .slice none 0 0, .string ⟨#[]⟩, .int .i64 0]) := by rw [hW]; exact A0.out.store 0 _
  obtain ⟨q0, -, -, -, -, -, -⟩ := cells7 A0.out.X
  have fz := cfrozen A0.out.X 0
  clear hr1 hg1 hW 
  have c := pReadS_any p base cap bs W1 a1 r1 B1.out.rd
  rw [HX1.out] at c
  simp only at c
  go_wp2_with fail
  rw [← HW1.out]
  refine c.mono ?_
  clear c
  rintro e V1 ⟨rfl, hr1, hg1⟩
  have A1 : Hid (RdBox w V1 p base cap bs a2 r2 27 #[.int .i64 0, .int .i64 0, .int .i64 0, .slice none 0 0, .slice none 0 0, .string ⟨#[]⟩, .int .i64 0] #[.int .i64 x0, .int .i64 0, .int .i64 0, .slice none 0 0, .slice none 0 0, .string ⟨#[]⟩, .int .i64 0]) := B1.out.call hr1 hg1
  have HGV1 : Hid (W1.grownBy V1 (some p)) := hg1
  obtain ⟨W2, hW⟩ : ∃ W, W = V1.setCell ⟨w.heap.size + 1, 1, none⟩ (.int .i64 x1) := ⟨_, rfl⟩
  have HW2 : Hid (W2 = V1.setCell ⟨w.heap.size + 1, 1, none⟩ (.int .i64 x1)) := hW
  have B2 : Hid (RdBox w W2 p base cap bs a2 r2 27 #[.int .i64 0, .int .i64 0, .int .i64 0, .slice none 0 0, .slice none 0 0, .string ⟨#[]⟩, .int .i64 0] #[.int .i64 x0, .int .i64 x1, .int .i64 0, .slice none 0 0, .slice none 0 0, .string ⟨#[]⟩, .int .i64 0]) := by rw [hW]; exact A1.out.store 1 _
  obtain ⟨-, q1, -, -, -, -, -⟩ := cells7 A1.out.X
  have fz := cfrozen A1.out.X 1
  clear hr1 hg1 hW 
  have c := pReadF_any p base cap bs W2 a2 r2 B2.out.rd
  rw [HX2.out] at c
  simp only at c
  go_wp2_with fail
  rw [← HW2.out]
  refine c.mono ?_
  clear c
  rintro e V2 ⟨rfl, hr1, hg1⟩
  have A2 : Hid (RdBox w V2 p base cap bs a3 r3 27 #[.int .i64 0, .int .i64 0, .int .i64 0, .slice none 0 0, .slice none 0 0, .string ⟨#[]⟩, .int .i64 0] #[.int .i64 x0, .int .i64 x1, .int .i64 0, .slice none 0 0, .slice none 0 0, .string ⟨#[]⟩, .int .i64 0]) := B2.out.call hr1 hg1
  have HGV2 : Hid (W2.grownBy V2 (some p)) := hg1
  obtain ⟨W3, hW⟩ : ∃ W, W = V2.setCell ⟨w.heap.size + 1, 2, none⟩ (.int .i64 x2) := ⟨_, rfl⟩
  have HW3 : Hid (W3 = V2.setCell ⟨w.heap.size + 1, 2, none⟩ (.int .i64 x2)) := hW
  have B3 : Hid (RdBox w W3 p base cap bs a3 r3 27 #[.int .i64 0, .int .i64 0, .int .i64 0, .slice none 0 0, .slice none 0 0, .string ⟨#[]⟩, .int .i64 0] #[.int .i64 x0, .int .i64 x1, .int .i64 x2, .slice none 0 0, .slice none 0 0, .string ⟨#[]⟩, .int .i64 0]) := by rw [hW]; exact A2.out.store 2 _
  obtain ⟨-, -, q2, -, -, -, -⟩ := cells7 A2.out.X
  have fz := cfrozen A2.out.X 2
  clear hr1 hg1 hW 
  have c := int_any B3.out.rd
  rw [show stepR 0 a3 r3 (getI (bs.drop a3)) = (x3, a4, r4) from HX3.out] at c
  simp only at c
  go_wp2_with fail
  rw [← HW3.out]
  refine c.mono ?_
  clear c
  rintro e V3 ⟨rfl, hr1, hg1⟩
  have A3 : Hid (RdBox w V3 p base cap bs a4 r4 27 #[.int .i64 0, .int .i64 0, .int .i64 0, .slice none 0 0, .slice none 0 0, .string ⟨#[]⟩, .int .i64 0] #[.int .i64 x0, .int .i64 x1, .int .i64 x2, .slice none 0 0, .slice none 0 0, .string ⟨#[]⟩, .int .i64 0]) := B3.out.call hr1 hg1
  have HGV3 : Hid (W3.grownBy V3 (some p)) := hg1
  obtain ⟨W4, hW⟩ : ∃ W, W = V3.setCell ⟨w.heap.size + 1, 6, none⟩ (.int .i64 x3) := ⟨_, rfl⟩
  have HW4 : Hid (W4 = V3.setCell ⟨w.heap.size + 1, 6, none⟩ (.int .i64 x3)) := hW
  have B4 : Hid (RdBox w W4 p base cap bs a4 r4 27 #[.int .i64 0, .int .i64 0, .int .i64 0, .slice none 0 0, .slice none 0 0, .string ⟨#[]⟩, .int .i64 0] #[.int .i64 x0, .int .i64 x1, .int .i64 x2, .slice none 0 0, .slice none 0 0, .string ⟨#[]⟩, .int .i64 x3]) := by rw [hW]; exact A3.out.store 6 _
  obtain ⟨-, -, -, -, -, -, q6⟩ := cells7 A3.out.X
  have fz := cfrozen A3.out.X 6
  clear hr1 hg1 hW 
  have c := text_any 4096 B4.out.rd
  rw [show stepR [] a4 r4 (getT (bs.drop a4) 4096) = (x4, a5, r5) from HX4.out] at c
  simp only at c
  go_wp2_with fail
  rw [← HW4.out]
  refine c.mono ?_
  clear c
  rintro e V4 ⟨rfl, hr1, hg1⟩
  have A4 : Hid (RdBox w V4 p base cap bs a5 r5 27 #[.int .i64 0, .int .i64 0, .int .i64 0, .slice none 0 0, .slice none 0 0, .string ⟨#[]⟩, .int .i64 0] #[.int .i64 x0, .int .i64 x1, .int .i64 x2, .slice none 0 0, .slice none 0 0, .string ⟨#[]⟩, .int .i64 x3]) := B4.out.call hr1 hg1
  have HGV4 : Hid (W4.grownBy V4 (some p)) := hg1
  obtain ⟨W5, hW⟩ : ∃ W, W = V4.setCell ⟨w.heap.size + 1, 5, none⟩ (.string (strB x4)) := ⟨_, rfl⟩
  have HW5 : Hid (W5 = V4.setCell ⟨w.heap.size + 1, 5, none⟩ (.string (strB x4))) := hW
  have B5 : Hid (RdBox w W5 p base cap bs a5 r5 27 #[.int .i64 0, .int .i64 0, .int .i64 0, .slice none 0 0, .slice none 0 0, .string ⟨#[]⟩, .int .i64 0] #[.int .i64 x0, .int .i64 x1, .int .i64 x2, .slice none 0 0, .slice none 0 0, .string (strB x4), .int .i64 x3]) := by rw [hW]; exact A4.out.store 5 _
  obtain ⟨-, -, -, -, -, q5, -⟩ := cells7 A4.out.X
  have fz := cfrozen A4.out.X 5
  clear hr1 hg1 hW 
  have c := pReadAllCal_any p base cap bs (rCal bs) W5 a5 r5 B5.out.rd (Nat.lt_of_lt_of_le B5.out.plt B5.out.G.size) (fun x e => Nat.lt_of_lt_of_le (B5.out.blt x e) B5.out.G.size) (fun W a hs hW => (pReadCall_any p base cap bs W a 0 hW (Nat.lt_of_lt_of_le B5.out.plt (Nat.le_trans B5.out.G.size hs)) (fun x e => Nat.lt_of_lt_of_le (B5.out.blt x e) (Nat.le_trans B5.out.G.size hs))))
  rw [HX5.out] at c
  simp only at c
  go_wp2_with fail
  rw [← HW5.out]
  refine c.mono ?_
  clear c
  rintro e V5 ⟨v5, rfl, css, hJ⟩
  obtain ⟨b5, n5, c5, rfl⟩ : ∃ b n c, v5 = .slice b n c := by
    rcases hJ.row.2 with ⟨h, _⟩ | ⟨g, cp, cur, h, _⟩
    · exact ⟨_, _, _, h⟩
    · exact ⟨_, _, _, h⟩
  have hin : calsR (fun b => W5.heap.size ≤ b ∧ b ≠ p) V5 (.slice b5 n5 c5) x5 := hJ.rowIn lawCal (fun x cs b o hco hc => by obtain ⟨b5, n5, c5, b6, n6, c6, rfl, h5, h6⟩ := hco; exact ⟨hc 0 (by simp), hc 1 (by simp), hc 2 (by simp), ⟨_, hc 3 (by simp), h5⟩, _, hc 4 (by simp), h6⟩)
  have HIN5 : Hid (calsR (fun b => W5.heap.size ≤ b ∧ b ≠ p) V5 (.slice b5 n5 c5) x5) := hin
  have hr1 := hJ.rd
  have hg1 := hJ.kept
  clear hin hJ
  have A5 : Hid (RdBox w V5 p base cap bs a6 r6 27 #[.int .i64 0, .int .i64 0, .int .i64 0, .slice none 0 0, .slice none 0 0, .string ⟨#[]⟩, .int .i64 0] #[.int .i64 x0, .int .i64 x1, .int .i64 x2, .slice none 0 0, .slice none 0 0, .string (strB x4), .int .i64 x3]) := B5.out.call hr1 hg1
  have HGV5 : Hid (W5.grownBy V5 (some p)) := hg1
  obtain ⟨W6, hW⟩ : ∃ W, W = V5.setCell ⟨w.heap.size + 1, 3, none⟩ (.slice b5 n5 c5) := ⟨_, rfl⟩
  have HW6 : Hid (W6 = V5.setCell ⟨w.heap.size + 1, 3, none⟩ (.slice b5 n5 c5)) := hW
  have B6 : Hid (RdBox w W6 p base cap bs a6 r6 27 #[.int .i64 0, .int .i64 0, .int .i64 0, .slice none 0 0, .slice none 0 0, .string ⟨#[]⟩, .int .i64 0] #[.int .i64 x0, .int .i64 x1, .int .i64 x2, .slice b5 n5 c5, .slice none 0 0, .string (strB x4), .int .i64 x3]) := by rw [hW]; exact A5.out.store 3 _
  obtain ⟨-, -, -, q3, -, -, -⟩ := cells7 A5.out.X
  have fz := cfrozen A5.out.X 3
  clear hr1 hg1 hW 
  have c := pReadAllObj_any p base cap bs (rObj bs) W6 a6 r6 B6.out.rd (Nat.lt_of_lt_of_le B6.out.plt B6.out.G.size) (fun x e => Nat.lt_of_lt_of_le (B6.out.blt x e) B6.out.G.size) (fun W a hs hW => (pReadObject_any p base cap bs W a 0 hW (Nat.lt_of_lt_of_le B6.out.plt (Nat.le_trans B6.out.G.size hs)) (fun x e => Nat.lt_of_lt_of_le (B6.out.blt x e) (Nat.le_trans B6.out.G.size hs))))
  rw [HX6.out] at c
  simp only at c
  go_wp2_with fail
  rw [← HW6.out]
  refine c.mono ?_
  clear c
  rintro e V6 ⟨v6, rfl, css, hJ⟩
  obtain ⟨b6, n6, c6, rfl⟩ : ∃ b n c, v6 = .slice b n c := by
    rcases hJ.row.2 with ⟨h, _⟩ | ⟨g, cp, cur, h, _⟩
    · exact ⟨_, _, _, h⟩
    · exact ⟨_, _, _, h⟩
  have hin : objsR (fun b => W6.heap.size ≤ b ∧ b ≠ p) V6 (.slice b6 n6 c6) x6 := hJ.rowIn lawObj (fun x cs b o hco hc => by obtain ⟨b5, n5, c5, rfl, h5⟩ := hco; exact ⟨hc 0 (by simp), _, hc 1 (by simp), h5⟩)
  have HIN6 : Hid (objsR (fun b => W6.heap.size ≤ b ∧ b ≠ p) V6 (.slice b6 n6 c6) x6) := hin
  have hr1 := hJ.rd
  have hg1 := hJ.kept
  clear hin hJ
  have A6 : Hid (RdBox w V6 p base cap bs a7 r7 27 #[.int .i64 0, .int .i64 0, .int .i64 0, .slice none 0 0, .slice none 0 0, .string ⟨#[]⟩, .int .i64 0] #[.int .i64 x0, .int .i64 x1, .int .i64 x2, .slice b5 n5 c5, .slice none 0 0, .string (strB x4), .int .i64 x3]) := B6.out.call hr1 hg1
  have HGV6 : Hid (W6.grownBy V6 (some p)) := hg1
  obtain ⟨W7, hW⟩ : ∃ W, W = V6.setCell ⟨w.heap.size + 1, 4, none⟩ (.slice b6 n6 c6) := ⟨_, rfl⟩
  have HW7 : Hid (W7 = V6.setCell ⟨w.heap.size + 1, 4, none⟩ (.slice b6 n6 c6)) := hW
  have B7 : Hid (RdBox w W7 p base cap bs a7 r7 27 #[.int .i64 0, .int .i64 0, .int .i64 0, .slice none 0 0, .slice none 0 0, .string ⟨#[]⟩, .int .i64 0] #[.int .i64 x0, .int .i64 x1, .int .i64 x2, .slice b5 n5 c5, .slice b6 n6 c6, .string (strB x4), .int .i64 x3]) := by rw [hW]; exact A6.out.store 4 _
  obtain ⟨-, -, -, -, q4, -, -⟩ := cells7 A6.out.X
  have fz := cfrozen A6.out.X 4
  clear hr1 hg1 hW 
  go_upto_region 9 with fail
  rw [← HW7.out]
  obtain ⟨d0, d1, d2, d3, d4, d5, d6⟩ := cells7 B7.out.X
  obtain ⟨y0, y1, y2, y3, y4, y5, y6⟩ := cells7 B7.out.Y
  have yf := cfrozen B7.out.Y
  have HE : Hid (RdBox w (((((((W7.setCell ⟨w.heap.size, 0, none⟩ (.int .i64 x0)).setCell ⟨w.heap.size, 1, none⟩ (.int .i64 x1)).setCell ⟨w.heap.size, 2, none⟩ (.int .i64 x2)).setCell ⟨w.heap.size, 3, none⟩ (.slice b5 n5 c5)).setCell ⟨w.heap.size, 4, none⟩ (.slice b6 n6 c6)).setCell ⟨w.heap.size, 5, none⟩ (.string (strB x4))).setCell ⟨w.heap.size, 6, none⟩ (.int .i64 x3)) p base cap bs a7 r7 27 #[.int .i64 x0, .int .i64 x1, .int .i64 x2, .slice b5 n5 c5, .slice b6 n6 c6, .string (strB x4), .int .i64 x3] #[.int .i64 x0, .int .i64 x1, .int .i64 x2, .slice b5 n5 c5, .slice b6 n6 c6, .string (strB x4), .int .i64 x3]) := (((((((B7.out.storeY 0 (.int .i64 x0)).storeY 1 (.int .i64 x1)).storeY 2 (.int .i64 x2)).storeY 3 (.slice b5 n5 c5)).storeY 4 (.slice b6 n6 c6)).storeY 5 (.string (strB x4))).storeY 6 (.int .i64 x3))
  obtain ⟨z0, z1, z2, z3, z4, z5, z6⟩ := cells7 HE.out.Y
  have hkeep : ∀ q, w.heap.size + 2 ≤ q → ((((((((W7.setCell ⟨w.heap.size, 0, none⟩ (.int .i64 x0)).setCell ⟨w.heap.size, 1, none⟩ (.int .i64 x1)).setCell ⟨w.heap.size, 2, none⟩ (.int .i64 x2)).setCell ⟨w.heap.size, 3, none⟩ (.slice b5 n5 c5)).setCell ⟨w.heap.size, 4, none⟩ (.slice b6 n6 c6)).setCell ⟨w.heap.size, 5, none⟩ (.string (strB x4))).setCell ⟨w.heap.size, 6, none⟩ (.int .i64 x3))).heap[q]? = W7.heap[q]? := fun q hq => by
    rw [Below.heap_setCell _ _ _ _ (by simp; omega), Below.heap_setCell _ _ _ _ (by simp; omega), Below.heap_setCell _ _ _ _ (by simp; omega), Below.heap_setCell _ _ _ _ (by simp; omega), Below.heap_setCell _ _ _ _ (by simp; omega), Below.heap_setCell _ _ _ _ (by simp; omega), Below.heap_setCell _ _ _ _ (by simp; omega)]
  have hsz : ((((((((W7.setCell ⟨w.heap.size, 0, none⟩ (.int .i64 x0)).setCell ⟨w.heap.size, 1, none⟩ (.int .i64 x1)).setCell ⟨w.heap.size, 2, none⟩ (.int .i64 x2)).setCell ⟨w.heap.size, 3, none⟩ (.slice b5 n5 c5)).setCell ⟨w.heap.size, 4, none⟩ (.slice b6 n6 c6)).setCell ⟨w.heap.size, 5, none⟩ (.string (strB x4))).setCell ⟨w.heap.size, 6, none⟩ (.int .i64 x3))).heap.size = W7.heap.size := by simp
  have HN5 : Hid (calsR (fun b => w.heap.size ≤ b) ((((((((W7.setCell ⟨w.heap.size, 0, none⟩ (.int .i64 x0)).setCell ⟨w.heap.size, 1, none⟩ (.int .i64 x1)).setCell ⟨w.heap.size, 2, none⟩ (.int .i64 x2)).setCell ⟨w.heap.size, 3, none⟩ (.slice b5 n5 c5)).setCell ⟨w.heap.size, 4, none⟩ (.slice b6 n6 c6)).setCell ⟨w.heap.size, 5, none⟩ (.string (strB x4))).setCell ⟨w.heap.size, 6, none⟩ (.int .i64 x3))) (.slice b5 n5 c5) x5) := by
    have hWs : w.heap.size + 1 < W5.heap.size := heap_lt B5.out.X
    have h1 : calsR (fun b => w.heap.size + 2 ≤ b ∧ b ≠ p) V5 (.slice b5 n5 c5) x5 := rowIn.wide HIN5.out (fun q _ hq => ⟨by have := hq.1; omega, hq.2⟩) (calE_wide fun q _ hq => ⟨by have := hq.1; omega, hq.2⟩)
    have h2 := rowIn.kept (w' := W6) h1 (calE_keeps _) (by rw [HW6.out]; simp) fun q hq _ => by
      rw [HW6.out, Below.heap_setCell _ _ _ _ (by have := hq.1; simp; omega)]
    have h3 := rowIn.kept (w' := V6) h2 (calE_keeps _) HGV6.out.size fun q hq hlt => HGV6.out.block q hlt (by have := hq.2; simp; exact this)
    have hz := rowIn.kept (w' := (((((((W7.setCell ⟨w.heap.size, 0, none⟩ (.int .i64 x0)).setCell ⟨w.heap.size, 1, none⟩ (.int .i64 x1)).setCell ⟨w.heap.size, 2, none⟩ (.int .i64 x2)).setCell ⟨w.heap.size, 3, none⟩ (.slice b5 n5 c5)).setCell ⟨w.heap.size, 4, none⟩ (.slice b6 n6 c6)).setCell ⟨w.heap.size, 5, none⟩ (.string (strB x4))).setCell ⟨w.heap.size, 6, none⟩ (.int .i64 x3))) h3 (calE_keeps _) (by rw [hsz, HW7.out]; simp) fun q hq _ => by
      rw [hkeep q hq.1, HW7.out, Below.heap_setCell _ _ _ _ (by have := hq.1; simp; omega)]
    exact rowIn.wide hz (fun q _ hq => by have := hq.1; omega) (calE_wide fun q _ hq => by have := hq.1; omega)
  have HN6 : Hid (objsR (fun b => w.heap.size ≤ b) ((((((((W7.setCell ⟨w.heap.size, 0, none⟩ (.int .i64 x0)).setCell ⟨w.heap.size, 1, none⟩ (.int .i64 x1)).setCell ⟨w.heap.size, 2, none⟩ (.int .i64 x2)).setCell ⟨w.heap.size, 3, none⟩ (.slice b5 n5 c5)).setCell ⟨w.heap.size, 4, none⟩ (.slice b6 n6 c6)).setCell ⟨w.heap.size, 5, none⟩ (.string (strB x4))).setCell ⟨w.heap.size, 6, none⟩ (.int .i64 x3))) (.slice b6 n6 c6) x6) := by
    have hWs : w.heap.size + 1 < W6.heap.size := heap_lt B6.out.X
    have h1 : objsR (fun b => w.heap.size + 2 ≤ b ∧ b ≠ p) V6 (.slice b6 n6 c6) x6 := rowIn.wide HIN6.out (fun q _ hq => ⟨by have := hq.1; omega, hq.2⟩) (objE_wide fun q _ hq => ⟨by have := hq.1; omega, hq.2⟩)
    have hz := rowIn.kept (w' := (((((((W7.setCell ⟨w.heap.size, 0, none⟩ (.int .i64 x0)).setCell ⟨w.heap.size, 1, none⟩ (.int .i64 x1)).setCell ⟨w.heap.size, 2, none⟩ (.int .i64 x2)).setCell ⟨w.heap.size, 3, none⟩ (.slice b5 n5 c5)).setCell ⟨w.heap.size, 4, none⟩ (.slice b6 n6 c6)).setCell ⟨w.heap.size, 5, none⟩ (.string (strB x4))).setCell ⟨w.heap.size, 6, none⟩ (.int .i64 x3))) h1 (objE_keeps _) (by rw [hsz, HW7.out]; simp) fun q hq _ => by
      rw [hkeep q hq.1, HW7.out, Below.heap_setCell _ _ _ _ (by have := hq.1; simp; omega)]
    exact rowIn.wide hz (fun q _ hq => by have := hq.1; omega) (objE_wide fun q _ hq => by have := hq.1; omega)
  clear hkeep hsz
  go_wp2
  refine bodyPost_ret (v := .agg #[.int .i64 x0, .int .i64 x1, .int .i64 x2, .slice b5 n5 c5, .slice b6 n6 c6, .string (strB x4), .int .i64 x3]) (by simp [results, Tryz.results30, go_sem, z0, z1, z2, z3, z4, z5, z6]) rfl ?_
  refine ⟨(⟨x0, x1, x2, x5, x6, x4, x3⟩ : Sn), by rw [HRES.out], ⟨_, _, _, _, _, _, rfl, ⟨HN5.out, HN6.out⟩⟩, ?_, HE.out.G⟩
  rw [HRES.out]
  exact HE.out.rd
end Go.Proofs.YtbdgniiafdjmiaaGreatDoor
