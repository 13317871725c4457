import Derived.Test.YtchpmnmngeebjaaGreatDoorHRefs
import Derived.Test.YtchpmnmngeebjaaGreatDoorHVAIn
import Derived.Test.YtchpmnmngeebjaaGreatDoorHCopy
import Derived.Test.YtchpmnmngeebjaaGreatDoorHLoad
/- HeapPlays: a step's memory. -/
namespace Go.Proofs.YtchpmnmngeebjaaGreatDoor
open Go.RowKit Go.Shelf

/-- All blocks below n but R are as they were. -/
def ButR (R n : Nat) (w0 W : World) : Prop := ∀ q, q < n → q ≠ R → W.heap[q]? = w0.heap[q]?
instance butR_one (R n : Nat) (w : World) : Nonempty (ClsP (ButR R n w)) := ⟨⟨w, fun _ _ _ => rfl⟩⟩
theorem butR_cell {R n : Nat} {w0 : World} {p : Addr} {v : Value} (h : w0.cell? p = some v) (hp : p.block < n) (hne : p.block ≠ R) (c : ClsP (ButR R n w0)) : c.1.cell? p = some v :=
  (World.cell?_of_block (c.2 p.block hp hne)).trans h
theorem ButR.set {R n : Nat} {w0 W : World} (h : ButR R n w0 W) (j : Nat) (z : Value) : ButR R n w0 (W.setCell ⟨R, j, none⟩ z) := fun q hq hne => (Below.heap_setCell _ _ _ _ (by simpa using hne)).trans (h q hq hne)
theorem ButR.on {R n : Nat} {w0 W W' : World} (h : ButR R n w0 W) (hb : Below n W W') : ButR R n w0 W' := fun q hq hne => (hb.block q hq).trans (h q hq hne)

abbrev acV (a : Ac) (u : Value) : Value := .agg #[.int .i64 a.kind, .string (strB a.tag), u, .int .i64 a.v.k, .int .i64 a.v.n, .string (strB a.v.s), .int .i64 a.x.k, .int .i64 a.x.n, .string (strB a.x.s), .int .i64 a.i]
abbrev stepW (w : World) (M : Int) (v : Value) (a : Ac) (u : Value) : World := ((w.alloc (.cells #[.int .i64 M, v] 30)).alloc (.cells #[.int .i64 a.kind, .string (strB a.tag), u, .int .i64 a.v.k, .int .i64 a.v.n, .string (strB a.v.s), .int .i64 a.x.k, .int .i64 a.x.n, .string (strB a.x.s), .int .i64 a.i] 35)).alloc (.cells #[.int .i64 0, .slice none 0 0] 30)
theorem stepW_facts (w : World) (M : Int) (v : Value) (a : Ac) (u : Value) : (stepW w M v a u).heap.size = w.heap.size + 3 ∧ Below w.heap.size w (stepW w M v a u) ∧ (stepW w M v a u).heap[w.heap.size]? = some (.cells #[.int .i64 M, v] 30 (0, 0)) ∧ (stepW w M v a u).heap[w.heap.size + 1]? = some (.cells #[.int .i64 a.kind, .string (strB a.tag), u, .int .i64 a.v.k, .int .i64 a.v.n, .string (strB a.v.s), .int .i64 a.x.k, .int .i64 a.x.n, .string (strB a.x.s), .int .i64 a.i] 35 (0, 0)) ∧ (stepW w M v a u).heap[w.heap.size + 2]? = some (.cells #[.int .i64 0, .slice none 0 0] 30 (0, 0)) := by
  have e1 : (w.alloc (.cells #[.int .i64 M, v] 30)).heap.size = w.heap.size + 1 := by simp
  have e2 : ((w.alloc (.cells #[.int .i64 M, v] 30)).alloc (.cells #[.int .i64 a.kind, .string (strB a.tag), u, .int .i64 a.v.k, .int .i64 a.v.n, .string (strB a.v.s), .int .i64 a.x.k, .int .i64 a.x.n, .string (strB a.x.s), .int .i64 a.i] 35)).heap.size = w.heap.size + 2 := by simp
  refine ⟨by simp, (((Below.refl _ w).alloc (Nat.le_refl _) _).alloc (by omega) _).alloc (by omega) _, ?_, ?_, ?_⟩
  · rw [Below.heap_alloc _ _ _ (by omega), Below.heap_alloc _ _ _ (by omega)]; exact World.alloc_heap_new _ _
  · rw [Below.heap_alloc _ _ _ (by omega)]
    have := World.alloc_heap_new (w.alloc (.cells #[.int .i64 M, v] 30)) (.cells #[.int .i64 a.kind, .string (strB a.tag), u, .int .i64 a.v.k, .int .i64 a.v.n, .string (strB a.v.s), .int .i64 a.x.k, .int .i64 a.x.n, .string (strB a.x.s), .int .i64 a.i] 35)
    rwa [e1] at this
  · have := World.alloc_heap_new ((w.alloc (.cells #[.int .i64 M, v] 30)).alloc (.cells #[.int .i64 a.kind, .string (strB a.tag), u, .int .i64 a.v.k, .int .i64 a.v.n, .string (strB a.v.s), .int .i64 a.x.k, .int .i64 a.x.n, .string (strB a.x.s), .int .i64 a.i] 35)) (.cells #[.int .i64 0, .slice none 0 0] 30)
    rwa [e2] at this

theorem cells10 {w : World} {N : Nat} {x0 x1 x2 x3 x4 x5 x6 x7 x8 x9 : Value} {ty : TypeId} (h : w.heap[N]? = some (.cells #[x0, x1, x2, x3, x4, x5, x6, x7, x8, x9] ty (0, 0))) :
    w.cell? ⟨N, 0, none⟩ = some x0 ∧ w.cell? ⟨N, 1, none⟩ = some x1 ∧ w.cell? ⟨N, 2, none⟩ = some x2 ∧ (w.cell? ⟨N, 3, none⟩ = some x3 ∧ w.cell? ⟨N, 4, none⟩ = some x4 ∧ w.cell? ⟨N, 5, none⟩ = some x5) ∧ (w.cell? ⟨N, 6, none⟩ = some x6 ∧ w.cell? ⟨N, 7, none⟩ = some x7 ∧ w.cell? ⟨N, 8, none⟩ = some x8) ∧ w.cell? ⟨N, 9, none⟩ = some x9 := by
  refine ⟨?_, ?_, ?_, ⟨?_, ?_, ?_⟩, ⟨?_, ?_, ?_⟩, ?_⟩ <;> (simp only [World.cell?, h]; rfl)

/-- The program's heap, and the document's, alike: in blocks of S; of T, which are others. -/
structure PlayIn (S T : Nat → Prop) (w : World) (m : Nat) (os : List Ob) (h : Nat) (vo vc vL : Value) : Prop where
  hp : HpIn S w m os h vo vc
  ref : objsIn T w vL os
  form : vL = .slice none 0 0 ∨ ∃ ad n c, vL = .slice (some ad) n c
  low : ∀ q, S q ∨ T q → q < w.heap.size
  apart : ∀ q, S q → ¬ T q

theorem PlayIn.below {S T : Nat → Prop} {w w' : World} {m : Nat} {os : List Ob} {h : Nat} {vo vc vL : Value} (H : PlayIn S T w m os h vo vc vL) (hb : Below w.heap.size w w') : PlayIn S T w' m os h vo vc vL :=
  ⟨H.hp.below hb, H.ref.kept hb.size fun q _ hq => hb.block q hq, H.form, fun q hq => Nat.lt_of_lt_of_le (H.low q hq) hb.size, H.apart⟩

/-- What is left of one behind a step: nothing else was changed. -/
def PlayP (S T : Nat → Prop) (w : World) (m : Nat) (os : List Ob) (e : Ending) (w' : World) : Prop :=
  ∃ (h : Nat) (vL : Value), e = .returned (.tuple #[.pointer (some ⟨h, 0, none⟩), rhV m vL, .bool true]) ∧ KeptS S w w' ∧ ∃ S' T' vo vc, PlayIn S' T' w' m os h vo vc vL ∧ (∀ q, S' q → S q ∨ w.heap.size ≤ q) ∧ ∀ q, T' q → T q ∨ w.heap.size ≤ q

set_option maxRecDepth 100000 in
set_option maxHeartbeats 8000000 in
theorem step_get (S T : Nat → Prop) (m : Nat) (os : List Ob) (h : Nat) (vo vc vL : Value) (a : Ac) (u : Value) (w : World) (H : PlayIn S T w m os h vo vc vL) (hk : a.kind = 2) (hv : smallV a.v) (hol : ∀ o ∈ os, o.2.length ≤ 1048576) (ht : TabsP w) :
    Calls Tryz.prog 7 #[.pointer (some ⟨h, 0, none⟩), rhV m vL, acV a u] w (PlayP S T w m os) := by
  have huse := H.hp.use
  have hmay := H.hp.may
  obtain ⟨bL, cL, rfl, -⟩ := H.ref.at
  obtain ⟨M, hM⟩ : ∃ M : Int, M = (m : Int) := ⟨_, rfl⟩
  have HM : Hid (M = (m : Int)) := hM
  obtain ⟨w1, hw1⟩ : ∃ w1, w1 = stepW w M (.slice bL os.length cL) a u := ⟨_, rfl⟩
  obtain ⟨hz, hb, hbh, hba, hbr⟩ := stepW_facts w M (.slice bL os.length cL) a u
  rw [← hw1] at hz hb hbh hba hbr
  obtain ⟨h0, h1, -⟩ := cellsH2 hbh
  obtain ⟨a0, -, -, ⟨a3, a4, a5⟩, -, a9⟩ := cells10 hba
  have HPL : Hid (PlayIn S T w m os h vo vc (.slice bL os.length cL)) := H
  have HB1 : Hid (Below w.heap.size w w1) := hb
  have HBH : Hid (w1.heap[w.heap.size]? = some (.cells #[.int .i64 M, .slice bL os.length cL] 30 (0, 0))) := hbh
  have HBA : Hid (w1.heap[w.heap.size + 1]? = some (.cells #[.int .i64 a.kind, .string (strB a.tag), u, .int .i64 a.v.k, .int .i64 a.v.n, .string (strB a.v.s), .int .i64 a.x.k, .int .i64 a.x.n, .string (strB a.x.s), .int .i64 a.i] 35 (0, 0))) := hba
  have HBR : Hid (w1.heap[w.heap.size + 2]? = some (.cells #[.int .i64 0, .slice none 0 0] 30 (0, 0))) := hbr
  have HW1 : Hid (w1 = stepW w M (.slice bL os.length cL) a u) := hw1
  have HT : Hid (TabsP w) := ht
  have HV : Hid (smallV a.v) := hv
  have HOL : Hid (∀ o ∈ os, o.2.length ≤ 1048576) := hol
  have hosl : os.length ≤ 1048576 := by omega
  obtain ⟨y, hy⟩ : ∃ y, y = getR os a.v a.i := ⟨_, rfl⟩
  obtain ⟨l, hl⟩ : ∃ l, l = lenR os a.v := ⟨_, rfl⟩
  obtain ⟨g, hg⟩ : ∃ g, g = tagR os a.v := ⟨_, rfl⟩
  have cg := fun W (hW : Below w.heap.size w W) => refGetH_any T m os (.slice bL os.length cL) a.v a.i W (H.ref.kept hW.size fun q _ hq => hW.block q hq) hosl hol hv
  have dg := fun W (hW : Below w.heap.size w W) => getH_any a.v a.i W (H.hp.below hW) hv (ht.below hW (Nat.le_refl _))
  have cl := fun W (hW : Below w.heap.size w W) => refLen_any T m os (.slice bL os.length cL) a.v W (H.ref.kept hW.size fun q _ hq => hW.block q hq) hosl hv
  have dl := fun W (hW : Below w.heap.size w W) => lenH_any a.v W (H.hp.below hW) hv (ht.below hW (Nat.le_refl _))
  have ct := fun W (hW : Below w.heap.size w W) => refTag_any T m os (.slice bL os.length cL) a.v W (H.ref.kept hW.size fun q _ hq => hW.block q hq) hosl hv
  have dt := fun W (hW : Below w.heap.size w W) => tagH_any a.v W (H.hp.below hW) hv (ht.below hW (Nat.le_refl _))
  rw [← hy] at cg dg
  rw [← hl] at cl dl
  rw [← hg] at ct dt
  rw [show rhV m (.slice bL os.length cL) = .agg #[.int .i64 M, .slice bL os.length cL] by rw [hM]] at cg cl ct ⊢
  obtain ⟨⟨yk, yn, ys⟩, ye⟩ := y
  obtain ⟨ln, le⟩ := l
  obtain ⟨tg, te⟩ := g
  obtain ⟨kd, tag, cells, ⟨vk, vn, vs⟩, ⟨xk, xn, xs⟩, ai⟩ := a
  simp only at hk
  subst hk
  have fx : ∀ W, Below w1.heap.size w1 W → W.cell? ⟨w.heap.size, 0, none⟩ = some (.int .i64 M) ∧ W.cell? ⟨w.heap.size, 1, none⟩ = some (.slice bL os.length cL) ∧ W.cell? ⟨w.heap.size + 1, 3, none⟩ = some (.int .i64 vk) ∧ W.cell? ⟨w.heap.size + 1, 4, none⟩ = some (.int .i64 vn) ∧ W.cell? ⟨w.heap.size + 1, 5, none⟩ = some (.string (strB vs)) ∧ W.cell? ⟨w.heap.size + 1, 9, none⟩ = some (.int .i64 ai) := fun W hW => by
    obtain ⟨q0, q1, -⟩ := cellsH2 ((hW.block w.heap.size (by omega)).trans HBH.out)
    obtain ⟨-, -, -, ⟨q3, q4, q5⟩, -, q9⟩ := cells10 ((hW.block (w.heap.size + 1) (by omega)).trans HBA.out)
    exact ⟨q0, q1, q3, q4, q5, q9⟩
  have FX : Hid (∀ W, Below w1.heap.size w1 W → W.cell? ⟨w.heap.size, 0, none⟩ = some (.int .i64 M) ∧ W.cell? ⟨w.heap.size, 1, none⟩ = some (.slice bL os.length cL) ∧ W.cell? ⟨w.heap.size + 1, 3, none⟩ = some (.int .i64 vk) ∧ W.cell? ⟨w.heap.size + 1, 4, none⟩ = some (.int .i64 vn) ∧ W.cell? ⟨w.heap.size + 1, 5, none⟩ = some (.string (strB vs)) ∧ W.cell? ⟨w.heap.size + 1, 9, none⟩ = some (.int .i64 ai)) := fx
  have k1 := cg w1 hb
  have DG : Hid (∀ W, Below w.heap.size w W → Calls Tryz.prog 17 #[.pointer (some ⟨h, 0, none⟩), vlV ⟨vk, vn, vs⟩, .int .i64 ai] W fun e w' => e = .returned (.tuple #[vlV ⟨yk, yn, ys⟩, .int .i64 ye]) ∧ Below W.heap.size W w') := dg
  have CL : Hid (∀ W, Below w.heap.size w W → Calls Tryz.prog 21 #[.agg #[.int .i64 M, .slice bL os.length cL], vlV ⟨vk, vn, vs⟩] W fun e w' => e = .returned (.tuple #[.int .i64 ln, .int .i64 le]) ∧ Below W.heap.size W w') := cl
  have DL : Hid (∀ W, Below w.heap.size w W → Calls Tryz.prog 22 #[.pointer (some ⟨h, 0, none⟩), vlV ⟨vk, vn, vs⟩] W fun e w' => e = .returned (.tuple #[.int .i64 ln, .int .i64 le]) ∧ Below W.heap.size W w') := dl
  have CT : Hid (∀ W, Below w.heap.size w W → Calls Tryz.prog 23 #[.agg #[.int .i64 M, .slice bL os.length cL], vlV ⟨vk, vn, vs⟩] W fun e w' => e = .returned (.tuple #[.string (strB tg), .int .i64 te]) ∧ Below W.heap.size W w') := ct
  have DT : Hid (∀ W, Below w.heap.size w W → Calls Tryz.prog 24 #[.pointer (some ⟨h, 0, none⟩), vlV ⟨vk, vn, vs⟩] W fun e w' => e = .returned (.tuple #[.string (strB tg), .int .i64 te]) ∧ Below W.heap.size W w') := dt
  simp only at a0 a3 a4 a5 a9
  clear H hv hol ht hM hw1 hb hbh hba hbr hy hl hg cg dg cl dl ct dt fx
  go_enter Tryz.func7, Tryz.ntmps7
  go_wp2_with fail
  rw [show ((w.alloc (.cells #[.int .i64 M, .slice bL os.length cL] 30)).alloc (.cells #[.int .i64 2, .string (strB tag), u, .int .i64 vk, .int .i64 vn, .string (strB vs), .int .i64 xk, .int .i64 xn, .string (strB xs), .int .i64 ai] 35)).alloc (.cells #[.int .i64 0, .slice none 0 0] 30) = w1 from HW1.out.symm]
  refine k1.mono ?_
  clear k1 h0 h1 a0 a3 a4 a5 a9
  rintro e w2 ⟨rfl, hb2⟩
  have HB2 : Hid (Below w1.heap.size w1 w2) := hb2
  have hs2 := hb2.size
  obtain ⟨w3, hw3⟩ : ∃ w3, w3 = w2.alloc (.cells #[.int .i64 yk, .int .i64 yn, .string (strB ys)] 25) := ⟨_, rfl⟩
  have HB3 : Hid (Below w1.heap.size w1 w3) := by show Below _ _ _; rw [hw3]; exact HB2.out.alloc hs2 _
  have hz3 : w3.heap.size = w2.heap.size + 1 := by rw [hw3]; simp
  have HX3 : Hid (w3.heap[w2.heap.size]? = some (.cells #[.int .i64 yk, .int .i64 yn, .string (strB ys)] 25 (0, 0))) := by show _ = _; rw [hw3]; exact World.alloc_heap_new _ _
  have hbb3 : Below w2.heap.size w2 w3 := by rw [hw3]; exact (Below.refl _ _).alloc (Nat.le_refl _) _
  have hw3' := hw3.symm
  clear hw3
  obtain ⟨c20, c21, c23, c24, c25, c29⟩ := FX.out w3 HB3.out
  have k2 := DG.out w3 (HB1.out.trans (HB3.out.mono (by omega)))
  go_wp2_with fail
  refine k2.mono ?_
  clear k2 c20 c21 c23 c24 c25 c29
  rintro e w4 ⟨rfl, hb4⟩
  have HB4 : Hid (Below w1.heap.size w1 w4) := HB3.out.trans (hb4.mono HB3.out.size)
  have hs4 := hb4.size
  clear hw3'
  obtain ⟨w5, hw5⟩ : ∃ w5, w5 = w4.alloc (.cells #[.int .i64 yk, .int .i64 yn, .string (strB ys)] 25) := ⟨_, rfl⟩
  have HB5 : Hid (Below w1.heap.size w1 w5) := by show Below _ _ _; rw [hw5]; exact HB4.out.alloc HB4.out.size _
  have hz5 : w5.heap.size = w4.heap.size + 1 := by rw [hw5]; simp
  have HX5 : Hid (w5.heap[w4.heap.size]? = some (.cells #[.int .i64 yk, .int .i64 yn, .string (strB ys)] 25 (0, 0))) := by show _ = _; rw [hw5]; exact World.alloc_heap_new _ _
  have hbb5 : Below w4.heap.size w4 w5 := by rw [hw5]; exact (Below.refl _ _).alloc (Nat.le_refl _) _
  have hw5' := hw5.symm
  clear hw5
  obtain ⟨c30, c31, c33, c34, c35, c39⟩ := FX.out w5 HB5.out
  have k3 := CL.out w5 (HB1.out.trans (HB5.out.mono (by omega)))
  go_wp2_with fail
  refine k3.mono ?_
  clear k3 c30 c31 c33 c34 c35 c39
  rintro e w6 ⟨rfl, hb6⟩
  have HB6 : Hid (Below w1.heap.size w1 w6) := HB5.out.trans (hb6.mono HB5.out.size)
  have hs6 := hb6.size
  clear hw5'
  obtain ⟨c40, c41, c43, c44, c45, c49⟩ := FX.out w6 HB6.out
  have k4 := DL.out w6 (HB1.out.trans (HB6.out.mono (by omega)))
  go_wp2_with fail
  refine k4.mono ?_
  clear k4 c40 c41 c43 c44 c45 c49
  rintro e w7 ⟨rfl, hb7⟩
  have HB7 : Hid (Below w1.heap.size w1 w7) := HB6.out.trans (hb7.mono HB6.out.size)
  have hs7 := hb7.size
  obtain ⟨c50, c51, c53, c54, c55, c59⟩ := FX.out w7 HB7.out
  have k5 := CT.out w7 (HB1.out.trans (HB7.out.mono (by omega)))
  go_wp2_with fail
  refine k5.mono ?_
  clear k5 c50 c51 c53 c54 c55 c59
  rintro e w8 ⟨rfl, hb8⟩
  have HB8 : Hid (Below w1.heap.size w1 w8) := HB7.out.trans (hb8.mono HB7.out.size)
  have hs8 := hb8.size
  obtain ⟨c60, c61, c63, c64, c65, c69⟩ := FX.out w8 HB8.out
  have k6 := DT.out w8 (HB1.out.trans (HB8.out.mono (by omega)))
  go_wp2_with fail
  refine k6.mono ?_
  clear k6 c60 c61 c63 c64 c65 c69
  rintro e w9 ⟨rfl, hb9⟩
  have HB9 : Hid (Below w1.heap.size w1 w9) := HB8.out.trans (hb9.mono HB8.out.size)
  have hs9 := hb9.size
  have b5 := ((hb9.block w4.heap.size (by omega)).trans ((hb8.block w4.heap.size (by omega)).trans ((hb7.block w4.heap.size (by omega)).trans (hb6.block w4.heap.size (by omega))))).trans HX5.out
  have b3 := ((hb9.block w2.heap.size (by omega)).trans ((hb8.block w2.heap.size (by omega)).trans ((hb7.block w2.heap.size (by omega)).trans ((hb6.block w2.heap.size (by omega)).trans ((hbb5.block w2.heap.size (by omega)).trans (hb4.block w2.heap.size (by omega))))))).trans HX3.out
  obtain ⟨p0, p1, p2, -⟩ := cellsH3 b3
  obtain ⟨q0, q1, q2, -⟩ := cellsH3 b5
  obtain ⟨c0, c1, -⟩ := FX.out w9 HB9.out
  have br := (HB9.out.block (w.heap.size + 2) (by omega)).trans HBR.out
  obtain ⟨r0, r1, rf⟩ := cellsH2 br
  have rf0 := rf 0
  have rf1 := rf 1
  have h29 : w2.heap.size < w9.heap.size := by omega
  have h49 : w4.heap.size < w9.heap.size := by omega
  have h19 : w1.heap.size ≤ w9.heap.size := HB9.out.size
  have x0 := butR_cell (R := w.heap.size + 2) (n := w9.heap.size) p0 (by simp only; omega) (by simp only; omega)
  have x1 := butR_cell (R := w.heap.size + 2) (n := w9.heap.size) p1 (by simp only; omega) (by simp only; omega)
  have x2 := butR_cell (R := w.heap.size + 2) (n := w9.heap.size) p2 (by simp only; omega) (by simp only; omega)
  have x3 := butR_cell (R := w.heap.size + 2) (n := w9.heap.size) q0 (by simp only; omega) (by simp only; omega)
  have x4 := butR_cell (R := w.heap.size + 2) (n := w9.heap.size) q1 (by simp only; omega) (by simp only; omega)
  have x5 := butR_cell (R := w.heap.size + 2) (n := w9.heap.size) q2 (by simp only; omega) (by simp only; omega)
  have x6 := butR_cell (R := w.heap.size + 2) (n := w9.heap.size) c0 (by simp only; omega) (by simp only; omega)
  have x7 := butR_cell (R := w.heap.size + 2) (n := w9.heap.size) c1 (by simp only; omega) (by simp only; omega)
  obtain ⟨z0, z1⟩ := set2H_cells br (.int .i64 M) (.slice bL os.length cL)
  have HB10 : Hid (Below w.heap.size w ((w9.setCell ⟨w.heap.size + 2, 0, none⟩ (.int .i64 M)).setCell ⟨w.heap.size + 2, 1, none⟩ (.slice bL os.length cL))) := ((HB1.out.trans (HB9.out.mono (by omega))).setCell (by simp only; omega) _).setCell (by simp only; omega) _
  have HBUT : Hid (ButR (w.heap.size + 2) w9.heap.size w9 w9.drew) := fun _ _ _ => rfl
  clear b3 b5 p0 p1 p2 q0 q1 q2 c0 c1 br rf hb9 hb8 hb7 hb6 hb4 hb2 hbb5 hbb3
  go_upto_region 12 with fail
  refine mix_begin (n := 33) (S := fun w' => ∃ c : ClsP (ButR (w.heap.size + 2) w9.heap.size w9), w' = c.1) (by kernel_rfl) rfl rfl ?_
  refine mix_seg (fuel := 2) (fuel' := 33) (idx := [0, 1, 2, 3, 4, 5, 6, 7, 8, 9, 10, 11, 12, 13, 14, 15, 16, 17, 18, 19, 20, 21, 22, 23, 24, 25, 26, 27, 28, 29, 30]) (by kernel_rfl) rfl rfl rfl (fun _ _ _ _ _ h => h) ⟨⟨w9.drew, HBUT.out⟩, rfl⟩ ?_
  show wpQuiet _ _ _ _ [_, _, _, _, _, _, _, _, _, _, _, _, _, _, _, _, _, _, _, _, _, _, _, _, _, _, _, _, _, _, _] _
  iterate 31 (go_big_quiet_step (fail))
  refine wpQuiet_nil ?_
  refine mix_loud (fuel := 1) (fuel' := 2) (i := 31) rfl (by kernel_rfl) rfl rfl (by rfl) ?_
  intro K hK
  go_simp
  refine hK.out _ _ ⟨⟨_, (HBUT.out.set 0 _).set 1 _⟩, rfl⟩ ?_
  clear hK K
  refine mix_seg (fuel := 0) (fuel' := 1) (idx := [32]) (by kernel_rfl) rfl rfl rfl (fun _ _ _ _ _ h => h) ⟨⟨_, (HBUT.out.set 0 _).set 1 _⟩, rfl⟩ ?_
  show wpQuiet _ _ _ _ [_] _
  go_big_quiet_step (fail)
  refine wpQuiet_nil ?_
  refine mix_done (by kernel_rfl) ?_
  go_wp2
  exact bodyPost_ret (v := .tuple #[.pointer (some ⟨h, 0, none⟩), .agg #[.int .i64 M, .slice bL os.length cL], .bool true]) (by simp [results, Tryz.results7, go_sem, z0, z1]) rfl ⟨h, _, by rw [HM.out], KeptS.of (HB10.out.drew), S, T, vo, vc, HPL.out.below HB10.out.drew, fun q hq => .inl hq, fun q hq => .inl hq⟩
end Go.Proofs.YtchpmnmngeebjaaGreatDoor
/- HeapPlays: a step that sets, one that goes on with a copy, one that goes on with a heap that is loaded. -/
namespace Go.Proofs.YtchpmnmngeebjaaGreatDoor
open Go.RowKit Go.Shelf

/-- All blocks below n but those of P are as they were. -/
def ButS (P : Nat → Prop) (n : Nat) (w0 W : World) : Prop := ∀ q, q < n → ¬ P q → W.heap[q]? = w0.heap[q]?
instance butS_one (P : Nat → Prop) (n : Nat) (w : World) : Nonempty (ClsP (ButS P n w)) := ⟨⟨w, fun _ _ _ => rfl⟩⟩
theorem butS_cell {P : Nat → Prop} {n : Nat} {w0 : World} {p : Addr} {v : Value} (h : w0.cell? p = some v) (hp : p.block < n) (hne : ¬ P p.block) (c : ClsP (ButS P n w0)) : c.1.cell? p = some v :=
  (World.cell?_of_block (c.2 p.block hp hne)).trans h
theorem ButS.set {P : Nat → Prop} {n : Nat} {w0 W : World} (h : ButS P n w0 W) {R : Nat} (hR : P R) (j : Nat) (z : Value) : ButS P n w0 (W.setCell ⟨R, j, none⟩ z) := fun q hq hne => (Below.heap_setCell _ _ _ _ (by intro e; simp only at e; subst e; exact hne hR)).trans (h q hq hne)

theorem refSet_uni {m : Nat} {os : List Ob} {x : Vl} {i : Int} {y : Vl} {v : Value} {S : Nat → Prop} {w : World} {e : Ending} {w' : World} (h : refSetP m os x i y v S w e w') (hin : objsIn S w v os) (hf : v = .slice none 0 0 ∨ ∃ ad n c, v = .slice (some ad) n c) :
    Below w.heap.size w w' ∧ ∃ v', e = .returned (.tuple #[rhV m v', .int .i64 (setE os x i y)]) ∧ objsIn (fun q => S q ∨ w.heap.size ≤ q) w' v' (setR os x i y) ∧ (v' = .slice none 0 0 ∨ ∃ ad n c, v' = .slice (some ad) n c) := by
  obtain ⟨hb, ⟨hne, he⟩ | ⟨h0, v', he, ho, hf'⟩⟩ := h
  · refine ⟨hb, v, he, ?_, hf⟩
    have : setR os x i y = os := by unfold setR; rw [if_neg hne]
    rw [this]
    exact (hin.kept hb.size fun q _ hq => hb.block q hq).wide fun q _ hq => .inl hq
  · exact ⟨hb, v', by rw [h0]; exact he, ho, .inr hf'⟩

theorem setR_len (os : List Ob) (x : Vl) (i : Int) (y : Vl) : (setR os x i y).length = os.length := by
  unfold setR
  split
  · exact setOs_len _ _ _ _
  · rfl

set_option maxRecDepth 100000 in
set_option maxHeartbeats 8000000 in
theorem step_set (S T : Nat → Prop) (m : Nat) (os : List Ob) (h : Nat) (vo vc vL : Value) (a : Ac) (u : Value) (w : World) (H : PlayIn S T w m os h vo vc vL) (hk : a.kind = 1) (hv : smallV a.v) (hx : smallV a.x) (hol : ∀ o ∈ os, o.2.length ≤ 1048576) (ht : TabsP w) :
    Calls Tryz.prog 7 #[.pointer (some ⟨h, 0, none⟩), rhV m vL, acV a u] w (PlayP S T w m (setR os a.v a.i a.x)) := by
  have huse := H.hp.use
  have hmay := H.hp.may
  obtain ⟨bL, cL, rfl, -⟩ := H.ref.at
  obtain ⟨M, hM⟩ : ∃ M : Int, M = (m : Int) := ⟨_, rfl⟩
  have HM : Hid (M = (m : Int)) := hM
  obtain ⟨w1, hw1⟩ : ∃ w1, w1 = stepW w M (.slice bL os.length cL) a u := ⟨_, rfl⟩
  obtain ⟨hz, hb, hbh, hba, hbr⟩ := stepW_facts w M (.slice bL os.length cL) a u
  rw [← hw1] at hz hb hbh hba hbr
  have HPL : Hid (PlayIn S T w m os h vo vc (.slice bL os.length cL)) := H
  have HB1 : Hid (Below w.heap.size w w1) := hb
  have HBH : Hid (w1.heap[w.heap.size]? = some (.cells #[.int .i64 M, .slice bL os.length cL] 30 (0, 0))) := hbh
  have HBA : Hid (w1.heap[w.heap.size + 1]? = some (.cells #[.int .i64 a.kind, .string (strB a.tag), u, .int .i64 a.v.k, .int .i64 a.v.n, .string (strB a.v.s), .int .i64 a.x.k, .int .i64 a.x.n, .string (strB a.x.s), .int .i64 a.i] 35 (0, 0))) := hba
  have HBR : Hid (w1.heap[w.heap.size + 2]? = some (.cells #[.int .i64 0, .slice none 0 0] 30 (0, 0))) := hbr
  have HW1 : Hid (w1 = stepW w M (.slice bL os.length cL) a u) := hw1
  have HT : Hid (TabsP w) := ht
  have HOL : Hid (∀ o ∈ os, o.2.length ≤ 1048576) := hol
  have hosl : os.length ≤ 4096 := by omega
  have hhl := H.hp.lt
  have HLOW : Hid (∀ q, S q ∨ T q → q < w.heap.size) := H.low
  have HAP : Hid (∀ q, S q → ¬ T q) := H.apart
  have cs := refSet_any T m os (.slice bL os.length cL) a.v a.x a.i w1 (H.ref.kept hb.size fun q _ hq => hb.block q hq) (fun q hq => by have := H.low q (.inr hq); omega) hosl hol hv hx
  have HR1 : Hid (objsIn T w1 (.slice bL os.length cL) os) := H.ref.kept hb.size fun q _ hq => hb.block q hq
  have HFM : Hid (Value.slice bL os.length cL = .slice none 0 0 ∨ ∃ ad n c, Value.slice bL os.length cL = .slice (some ad) n c) := H.form
  have ds : ∀ W, Below w.heap.size w W → Calls Tryz.prog 16 #[.pointer (some ⟨h, 0, none⟩), vlV a.v, .int .i64 a.i, vlV a.x] W fun e w' => e = .returned (.int .i64 (setE os a.v a.i a.x)) ∧ KeptS S W w' ∧ HpIn S w' m (setR os a.v a.i a.x) h vo vc := fun W hW => set_any a.v a.x a.i W (H.hp.below hW) hv hx (ht.below hW (Nat.le_refl _))
  obtain ⟨kd, tag, cells, ⟨vk, vn, vs⟩, ⟨xk, xn, xs⟩, ai⟩ := a
  simp only at hk
  subst hk
  rw [show rhV m (.slice bL os.length cL) = .agg #[.int .i64 M, .slice bL os.length cL] by rw [hM]] at cs ⊢
  obtain ⟨h0, h1, -⟩ := cellsH2 hbh
  obtain ⟨a0, -, -, ⟨a3, a4, a5⟩, ⟨a6, a7, a8⟩, a9⟩ := cells10 hba
  simp only at a0 a3 a4 a5 a6 a7 a8 a9
  obtain ⟨E, hE⟩ : ∃ E, E = setE os ⟨vk, vn, vs⟩ ai ⟨xk, xn, xs⟩ := ⟨_, rfl⟩
  obtain ⟨OS, hOS⟩ : ∃ OS, OS = setR os ⟨vk, vn, vs⟩ ai ⟨xk, xn, xs⟩ := ⟨_, rfl⟩
  simp only at ds ⊢
  rw [← hE, ← hOS] at ds
  rw [← hOS]
  have HE : Hid (E = setE os ⟨vk, vn, vs⟩ ai ⟨xk, xn, xs⟩) := hE
  have HOS : Hid (OS = setR os ⟨vk, vn, vs⟩ ai ⟨xk, xn, xs⟩) := hOS
  have hOSl : OS.length = os.length := by rw [hOS]; exact setR_len _ _ _ _
  have DS : Hid (∀ W, Below w.heap.size w W → Calls Tryz.prog 16 #[.pointer (some ⟨h, 0, none⟩), vlV ⟨vk, vn, vs⟩, .int .i64 ai, vlV ⟨xk, xn, xs⟩] W fun e w' => e = .returned (.int .i64 E) ∧ KeptS S W w' ∧ HpIn S w' m OS h vo vc) := ds
  clear H hv hx hol ht hM hw1 hb hbh hba hbr ds hE hOS
  go_enter Tryz.func7, Tryz.ntmps7
  go_wp2_with fail
  rw [show ((w.alloc (.cells #[.int .i64 M, .slice bL os.length cL] 30)).alloc (.cells #[.int .i64 1, .string (strB tag), u, .int .i64 vk, .int .i64 vn, .string (strB vs), .int .i64 xk, .int .i64 xn, .string (strB xs), .int .i64 ai] 35)).alloc (.cells #[.int .i64 0, .slice none 0 0] 30) = w1 from HW1.out.symm]
  refine cs.mono ?_
  clear cs h0 h1 a0 a3 a4 a5 a6 a7 a8 a9
  intro e w2 hP
  obtain ⟨hb2, v2, rfl, ho2, hf2⟩ := refSet_uni hP HR1.out HFM.out
  rw [← HE.out]
  rw [← HOS.out] at ho2
  have hs2 := hb2.size
  obtain ⟨b2, c2, rfl, -⟩ := ho2.at
  rw [show rhV m (.slice b2 OS.length c2) = .agg #[.int .i64 M, .slice b2 OS.length c2] by rw [HM.out], hOSl]
  rw [hOSl] at ho2 hf2
  obtain ⟨w3, hw3⟩ : ∃ w3, w3 = w2.alloc (.cells #[.int .i64 M, .slice b2 os.length c2] 30) := ⟨_, rfl⟩
  have hz3 : w3.heap.size = w2.heap.size + 1 := by rw [hw3]; simp
  have h23 : Below w2.heap.size w2 w3 := by rw [hw3]; exact (Below.refl _ _).alloc (Nat.le_refl _) _
  have hx3 : w3.heap[w2.heap.size]? = some (.cells #[.int .i64 M, .slice b2 os.length c2] 30 (0, 0)) := by rw [hw3]; exact World.alloc_heap_new _ _
  have h13 : Below w1.heap.size w1 w3 := hb2.trans (h23.mono hs2)
  have HB13 : Hid (Below w1.heap.size w1 w3) := h13
  have HO3 : Hid (objsIn (fun q => T q ∨ w1.heap.size ≤ q) w3 (.slice b2 os.length c2) OS) := ho2.kept h23.size fun q _ hq => h23.block q hq
  have HF2 : Hid (Value.slice b2 os.length c2 = .slice none 0 0 ∨ ∃ ad n c, Value.slice b2 os.length c2 = .slice (some ad) n c) := hf2
  obtain ⟨y0, y1, -⟩ := cellsH2 hx3
  obtain ⟨-, -, -, ⟨q3, q4, q5⟩, ⟨q6, q7, q8⟩, q9⟩ := cells10 ((h13.block (w.heap.size + 1) (by omega)).trans HBA.out)
  have hnS : ∀ q, w.heap.size ≤ q → q ≠ w.heap.size + 2 → ¬ (q = w.heap.size + 2 ∨ S q) := fun q hq hne h => by rcases h with h | h; exact hne h; have := HLOW.out q (.inl h); omega
  have x0 := butS_cell (P := fun q => q = w.heap.size + 2 ∨ S q) (n := w3.heap.size) y0 (by simp only; omega) (hnS _ (by simp only; omega) (by simp only; omega))
  have x1 := butS_cell (P := fun q => q = w.heap.size + 2 ∨ S q) (n := w3.heap.size) y1 (by simp only; omega) (hnS _ (by simp only; omega) (by simp only; omega))
  have x3 := butS_cell (P := fun q => q = w.heap.size + 2 ∨ S q) (n := w3.heap.size) q3 (by simp only; omega) (hnS _ (by simp only; omega) (by simp only; omega))
  have x4 := butS_cell (P := fun q => q = w.heap.size + 2 ∨ S q) (n := w3.heap.size) q4 (by simp only; omega) (hnS _ (by simp only; omega) (by simp only; omega))
  have x5 := butS_cell (P := fun q => q = w.heap.size + 2 ∨ S q) (n := w3.heap.size) q5 (by simp only; omega) (hnS _ (by simp only; omega) (by simp only; omega))
  have x6 := butS_cell (P := fun q => q = w.heap.size + 2 ∨ S q) (n := w3.heap.size) q6 (by simp only; omega) (hnS _ (by simp only; omega) (by simp only; omega))
  have x7 := butS_cell (P := fun q => q = w.heap.size + 2 ∨ S q) (n := w3.heap.size) q7 (by simp only; omega) (hnS _ (by simp only; omega) (by simp only; omega))
  have x8 := butS_cell (P := fun q => q = w.heap.size + 2 ∨ S q) (n := w3.heap.size) q8 (by simp only; omega) (hnS _ (by simp only; omega) (by simp only; omega))
  have x9 := butS_cell (P := fun q => q = w.heap.size + 2 ∨ S q) (n := w3.heap.size) q9 (by simp only; omega) (hnS _ (by simp only; omega) (by simp only; omega))
  have HBUT : Hid (ButS (fun q => q = w.heap.size + 2 ∨ S q) w3.heap.size w3 w3.drew) := fun _ _ _ => rfl
  have HW3 : Hid (w3 = w2.alloc (.cells #[.int .i64 M, .slice b2 os.length c2] 30)) := hw3
  clear y0 y1 q3 q4 q5 q6 q7 q8 q9 hx3 h13 h23 hw3 ho2 hf2 hb2 hP hnS
  go_upto_region 4 with fail
  rw [← HW3.out]
  refine mix_begin (n := 15) (S := fun w' => ∃ c : ClsP (ButS (fun q => q = w.heap.size + 2 ∨ S q) w3.heap.size w3), w' = c.1) (by kernel_rfl) rfl rfl ?_
  refine mix_seg (fuel := 5) (fuel' := 15) (idx := [0, 1, 2, 3, 4, 5, 6, 7, 8, 10]) (by kernel_rfl) rfl rfl rfl (fun _ _ _ _ _ h => h) ⟨⟨w3.drew, HBUT.out⟩, rfl⟩ ?_
  show wpQuiet _ _ _ _ [_, _, _, _, _, _, _, _, _, _] _
  iterate 10 (go_big_quiet_step (fail))
  refine wpQuiet_nil ?_
  refine mix_loud (fuel := 4) (fuel' := 5) (i := 9) rfl (by kernel_rfl) rfl rfl (by rfl) ?_
  intro K hK
  go_simp
  refine (DS.out w3.drew ((HB1.out.trans (HB13.out.mono (by omega))).drew)).mono ?_
  rintro e w4 ⟨rfl, hk4, H4⟩
  have hs4 : w3.heap.size ≤ w4.heap.size := hk4.size
  have hbut4 : ButS (fun q => q = w.heap.size + 2 ∨ S q) w3.heap.size w3 w4 := fun q hq hne => hk4.block q hq (fun h => hne (.inr h))
  have HBUT4 : Hid (ButS (fun q => q = w.heap.size + 2 ∨ S q) w3.heap.size w3 w4) := hbut4
  have hnS : ¬ S (w.heap.size + 2) := fun h => by have := HLOW.out _ (.inl h); omega
  have br : w4.heap[w.heap.size + 2]? = some (.cells #[.int .i64 0, .slice none 0 0] 30 (0, 0)) := (hk4.block (w.heap.size + 2) (by show _ < w3.heap.size; omega) hnS).trans ((HB13.out.block (w.heap.size + 2) (by omega)).trans HBR.out)
  obtain ⟨r0, r1, rf⟩ := cellsH2 br
  have rf0 := rf 0
  have rf1 := rf 1
  obtain ⟨z0, z1⟩ := set2H_cells br (.int .i64 M) (.slice b2 os.length c2)
  have HK4 : Hid (KeptS S w3 w4) := ⟨hk4.os, hk4.tape, hk4.output, hk4.size, hk4.block⟩
  have HH4 : Hid (HpIn S w4 m OS h vo vc) := H4
  clear br rf hbut4 hk4 H4
  (try go_simp)
  refine hK.out _ _ ⟨⟨w4, HBUT4.out⟩, rfl⟩ ?_
  clear hK K
  (try simp only [Act.put, List.setIfInBounds_toArray, List.set_cons_zero, List.set_cons_succ])
  refine mix_seg (fuel := 2) (fuel' := 4) (idx := [11, 12]) (by kernel_rfl) rfl rfl rfl (fun _ _ _ _ _ h => h) ⟨⟨w4, HBUT4.out⟩, rfl⟩ ?_
  show wpQuiet _ _ _ _ [_, _] _
  iterate 2 (go_big_quiet_step (fail))
  refine wpQuiet_nil ?_
  refine mix_loud (fuel := 1) (fuel' := 2) (i := 13) rfl (by kernel_rfl) rfl rfl (by rfl) ?_
  intro K hK
  go_simp
  refine hK.out _ _ ⟨⟨_, (HBUT4.out.set (.inl rfl) 0 _).set (.inl rfl) 1 _⟩, rfl⟩ ?_
  clear hK K
  refine mix_seg (fuel := 0) (fuel' := 1) (idx := [14]) (by kernel_rfl) rfl rfl rfl (fun _ _ _ _ _ h => h) ⟨⟨_, (HBUT4.out.set (.inl rfl) 0 _).set (.inl rfl) 1 _⟩, rfl⟩ ?_
  show wpQuiet _ _ _ _ [_] _
  iterate 1 (go_big_quiet_step (fail))
  refine wpQuiet_nil ?_
  refine mix_done (by kernel_rfl) ?_
  have HEND : Hid (PlayP S T w m OS (.returned (.tuple #[.pointer (some ⟨h, 0, none⟩), rhV m (.slice b2 os.length c2), .bool true])) ((w4.setCell ⟨w.heap.size + 2, 0, none⟩ (.int .i64 M)).setCell ⟨w.heap.size + 2, 1, none⟩ (.slice b2 os.length c2))) := by
    have hkk : ∀ q, q ≠ w.heap.size + 2 → ((w4.setCell ⟨w.heap.size + 2, 0, none⟩ (.int .i64 M)).setCell ⟨w.heap.size + 2, 1, none⟩ (.slice b2 os.length c2)).heap[q]? = w4.heap[q]? := fun q hq => by
      rw [Below.heap_setCell _ _ _ _ (by simpa using hq), Below.heap_setCell _ _ _ _ (by simpa using hq)]
    refine ⟨h, _, rfl, ?_, S, fun q => (T q ∨ w1.heap.size ≤ q) ∧ q < w4.heap.size, vo, vc, ⟨HH4.out.kept fun q hq _ => hkk q (by have := HLOW.out q (.inl hq); omega), ?_, HF2.out, ?_, ?_⟩, fun q hq => .inl hq, fun q hq => by rcases hq.1 with h9 | h9; exact .inl h9; right; omega⟩
    · exact (((KeptS.of (S := S) (HB1.out.trans (HB13.out.mono (by omega)))).trans HK4.out fun q _ h => h).set _ (fun h => by simp only at h; omega)).set _ (fun h => by simp only at h; omega)
    · refine ((HO3.out.kept (w' := w4) hs4 fun q hq hlt => HK4.out.block q hlt (fun h => ?_)).wide (S' := fun q => (T q ∨ w1.heap.size ≤ q) ∧ q < w4.heap.size) fun q hq h => ⟨h, hq⟩).kept (by simp) fun q hq _ => hkk q ?_
      · have := HLOW.out q (.inl h)
        rcases hq with h9 | h9
        · exact HAP.out q h h9
        · omega
      · rcases hq.1 with h9 | h9
        · have := HLOW.out q (.inr h9); omega
        · omega
    · intro q hq
      have hsz : ((w4.setCell ⟨w.heap.size + 2, 0, none⟩ (.int .i64 M)).setCell ⟨w.heap.size + 2, 1, none⟩ (.slice b2 os.length c2)).heap.size = w4.heap.size := by simp
      rw [hsz]
      rcases hq with h9 | h9
      · have := HLOW.out q (.inl h9); have := HB13.out.size; omega
      · exact h9.2
    · intro q hq h9
      rcases h9.1 with h8 | h8
      · exact HAP.out q hq h8
      · have := HLOW.out q (.inl hq); omega
  go_wp2
  exact bodyPost_ret (v := .tuple #[.pointer (some ⟨h, 0, none⟩), .agg #[.int .i64 M, .slice b2 os.length c2], .bool true]) (by simp [results, Tryz.results7, go_sem, z0, z1]) rfl (by rw [show Value.agg #[.int .i64 M, .slice b2 os.length c2] = rhV m (.slice b2 os.length c2) by rw [HM.out]]; exact HEND.out)
end Go.Proofs.YtchpmnmngeebjaaGreatDoor
/- HeapPlays: a step that goes on with a copy, one that goes on with a heap that is loaded. -/
namespace Go.Proofs.YtchpmnmngeebjaaGreatDoor
open Go.RowKit Go.Shelf

theorem mostN_nat (m : Nat) (h : m ≤ 4096) : mostN (m : Int) = m := by unfold mostN; omega

set_option maxRecDepth 100000 in
set_option maxHeartbeats 8000000 in
theorem step_copy (S T : Nat → Prop) (m : Nat) (os : List Ob) (h : Nat) (vo vc vL : Value) (a : Ac) (u : Value) (w : World) (H : PlayIn S T w m os h vo vc vL) (hk : a.kind = 3) (B : Nat) (hSB : ∀ q, S q → B ≤ q) (hBw : B ≤ w.heap.size) (htB : ∀ W, Below B w W → TabsP W) (hol : ∀ o ∈ os, o.2.length ≤ 1048576) :
    Calls Tryz.prog 7 #[.pointer (some ⟨h, 0, none⟩), rhV m vL, acV a u] w (PlayP S T w m os) := by
  have huse := H.hp.use
  have hmay := H.hp.may
  obtain ⟨bL, cL, rfl, -⟩ := H.ref.at
  obtain ⟨M, hM⟩ : ∃ M : Int, M = (m : Int) := ⟨_, rfl⟩
  have HM : Hid (M = (m : Int)) := hM
  obtain ⟨w1, hw1⟩ : ∃ w1, w1 = stepW w M (.slice bL os.length cL) a u := ⟨_, rfl⟩
  obtain ⟨hz, hb, hbh, hba, hbr⟩ := stepW_facts w M (.slice bL os.length cL) a u
  rw [← hw1] at hz hb hbh hba hbr
  have HPL : Hid (PlayIn S T w m os h vo vc (.slice bL os.length cL)) := H
  have HB1 : Hid (Below w.heap.size w w1) := hb
  have HBH : Hid (w1.heap[w.heap.size]? = some (.cells #[.int .i64 M, .slice bL os.length cL] 30 (0, 0))) := hbh
  have HBA : Hid (w1.heap[w.heap.size + 1]? = some (.cells #[.int .i64 a.kind, .string (strB a.tag), u, .int .i64 a.v.k, .int .i64 a.v.n, .string (strB a.v.s), .int .i64 a.x.k, .int .i64 a.x.n, .string (strB a.x.s), .int .i64 a.i] 35 (0, 0))) := hba
  have HBR : Hid (w1.heap[w.heap.size + 2]? = some (.cells #[.int .i64 0, .slice none 0 0] 30 (0, 0))) := hbr
  have HW1 : Hid (w1 = stepW w M (.slice bL os.length cL) a u) := hw1
  have HTB : Hid (∀ W, Below B w W → TabsP W) := htB
  have HSB : Hid (∀ q, S q → B ≤ q) := hSB
  have HOL : Hid (∀ o ∈ os, o.2.length ≤ 1048576) := hol
  have hosl : os.length ≤ 4096 := by omega
  have hhl := H.hp.lt
  have HLOW : Hid (∀ q, S q ∨ T q → q < w.heap.size) := H.low
  have HAP : Hid (∀ q, S q → ¬ T q) := H.apart
  have cc := copy_any w1 (H.hp.below hb)
  obtain ⟨kd, tag, cells, ⟨vk, vn, vs⟩, ⟨xk, xn, xs⟩, ai⟩ := a
  simp only at hk
  subst hk
  rw [show rhV m (.slice bL os.length cL) = .agg #[.int .i64 M, .slice bL os.length cL] by rw [hM]]
  obtain ⟨a0, -⟩ := cells10 hba
  simp only at a0
  clear H hol htB hSB hM hw1 hb hbh hba hbr
  go_enter Tryz.func7, Tryz.ntmps7
  go_wp2_with fail
  rw [show ((w.alloc (.cells #[.int .i64 M, .slice bL os.length cL] 30)).alloc (.cells #[.int .i64 3, .string (strB tag), u, .int .i64 vk, .int .i64 vn, .string (strB vs), .int .i64 xk, .int .i64 xn, .string (strB xs), .int .i64 ai] 35)).alloc (.cells #[.int .i64 0, .slice none 0 0] 30) = w1 from HW1.out.symm]
  refine cc.mono ?_
  clear cc a0
  rintro e w2 ⟨vo2, vc2, rfl, H2, hb2⟩
  have hs2 := hb2.size
  obtain ⟨G, hG⟩ : ∃ G, G = w1.heap.size := ⟨_, rfl⟩
  rw [← hG] at H2 ⊢
  have HH2 : Hid (HpIn (fun k => w1.heap.size ≤ k ∧ k < w2.heap.size) w2 m os G vo2 vc2) := H2.low.wide fun k _ hk => ⟨by have := hk.1; omega, hk.2⟩
  have hw2 : Below w.heap.size w w2 := HB1.out.trans (hb2.mono (by omega))
  have HB12 : Hid (Below w1.heap.size w1 w2) := hb2
  have HW2 : Hid (Below w.heap.size w w2) := hw2
  have ca := alloc_any (T := fun _ => True) ([], []) (.slice none 0 0) w2 (HPL.out.hp.below hw2) ⟨none, 0, rfl, Nat.le_refl _, Nat.zero_le _, .inl rfl⟩ ⟨by simp, fun v hv => by simp at hv⟩ (by simp) (HTB.out w2 (hw2.mono hBw))
  rw [show strB ([] : List UInt8) = ⟨#[]⟩ from rfl] at ca
  clear H2 hG hb2 hw2
  go_wp2_with fail
  refine ca.mono ?_
  clear ca
  rintro e w3 ⟨rfl, hk3, vo3, vc3, H3⟩
  have hs3 := hk3.size
  have HK3 : Hid (KeptS S w2 w3) := hk3
  have HB3 : Hid (Below B w w3) := (HW2.out.mono hBw).trans (hk3.below (by have := HW2.out.size; omega) HSB.out)
  have HH3 : Hid (HpIn (fun k => S k ∨ w2.heap.size ≤ k) w3 m (allocR m os ([], [])).2.2 h vo3 vc3) := H3
  have cat := href_any 0 w3
  clear hk3 H3
  go_wp2_with fail
  refine cat.mono ?_
  clear cat
  rintro e w4 ⟨rfl, hb4⟩
  have hs4 := hb4.size
  have cnu := hnum_any 99 w4
  have HB34 : Hid (Below w3.heap.size w3 w4) := hb4
  clear hb4
  go_wp2_with fail
  refine cnu.mono ?_
  clear cnu
  rintro e w5 ⟨rfl, hb5⟩
  have hs5 := hb5.size
  have h35 : Below w3.heap.size w3 w5 := HB34.out.trans (hb5.mono hs4)
  have H35 : Hid (Below w3.heap.size w3 w5) := h35
  have cst := set_any ⟨4, 0, []⟩ ⟨1, 99, []⟩ 0 w5 (HH3.out.below h35) ⟨by simp, by simp⟩ ⟨by simp, by simp⟩ (HTB.out w5 (HB3.out.trans (h35.mono (by have := HB3.out.size; omega))))
  clear hb5 h35
  go_wp2_with fail
  refine cst.mono ?_
  clear cst
  rintro e w6 ⟨rfl, hk6, -⟩
  have hs6 := hk6.size
  have hkW : ∀ q, q < w2.heap.size → ¬ S q → w6.heap[q]? = w2.heap[q]? := fun q hq hn => by
    rw [hk6.block q (by omega) (fun h => by rcases h with h | h; exact hn h; omega), H35.out.block q (by omega), HK3.out.block q hq hn]
  have hk1 : ∀ q, q < w1.heap.size → ¬ S q → w6.heap[q]? = w1.heap[q]? := fun q hq hn => (hkW q (by omega) hn).trans (HB12.out.block q hq)
  have HHW : Hid (HpIn (fun k => w1.heap.size ≤ k ∧ k < w2.heap.size) w6 m os G vo2 vc2) := HH2.out.kept fun q hq _ => hkW q hq.2 (fun h => by have := HLOW.out q (.inl h); omega)
  have HKS : Hid (KeptS S w w6) := ((((KeptS.of (S := S) HW2.out).trans HK3.out fun q _ h => h).trans (KeptS.of (S := S) H35.out) fun q _ h => h).trans hk6 fun q hq h => by rcases h with h | h; exact h; have := HW2.out.size; omega)
  clear hk6
  obtain ⟨c0, c1, -⟩ := cellsH2 (hk1 w.heap.size (by omega) (fun h => by have := HLOW.out _ (.inl h); omega) |>.trans HBH.out)
  have br := (hk1 (w.heap.size + 2) (by omega) (fun h => by have := HLOW.out _ (.inl h); omega)).trans HBR.out
  obtain ⟨r0, r1, rf⟩ := cellsH2 br
  have rf0 := rf 0
  have rf1 := rf 1
  have hsW : w1.heap.size ≤ w6.heap.size := by omega
  have x6 := butR_cell (R := w.heap.size + 2) (n := w6.heap.size) c0 (by simp only; omega) (by simp only; omega)
  have x7 := butR_cell (R := w.heap.size + 2) (n := w6.heap.size) c1 (by simp only; omega) (by simp only; omega)
  obtain ⟨z0, z1⟩ := set2H_cells br (.int .i64 M) (.slice bL os.length cL)
  have HBUT : Hid (ButR (w.heap.size + 2) w6.heap.size w6 w6.drew) := fun _ _ _ => rfl
  have HEND : Hid (PlayP S T w m os (.returned (.tuple #[.pointer (some ⟨G, 0, none⟩), rhV m (.slice bL os.length cL), .bool true])) (((w6.setCell ⟨w.heap.size + 2, 0, none⟩ (.int .i64 M)).setCell ⟨w.heap.size + 2, 1, none⟩ (.slice bL os.length cL)).drew)) := by
    have hkk : ∀ q, q ≠ w.heap.size + 2 → (((w6.setCell ⟨w.heap.size + 2, 0, none⟩ (.int .i64 M)).setCell ⟨w.heap.size + 2, 1, none⟩ (.slice bL os.length cL)).drew).heap[q]? = w6.heap[q]? := fun q hq => by
      show ((w6.setCell ⟨w.heap.size + 2, 0, none⟩ (.int .i64 M)).setCell ⟨w.heap.size + 2, 1, none⟩ (.slice bL os.length cL)).heap[q]? = _
      rw [Below.heap_setCell _ _ _ _ (by simpa using hq), Below.heap_setCell _ _ _ _ (by simpa using hq)]
    have hsz : (((w6.setCell ⟨w.heap.size + 2, 0, none⟩ (.int .i64 M)).setCell ⟨w.heap.size + 2, 1, none⟩ (.slice bL os.length cL)).drew).heap.size = w6.heap.size := by
      show ((w6.setCell ⟨w.heap.size + 2, 0, none⟩ (.int .i64 M)).setCell ⟨w.heap.size + 2, 1, none⟩ (.slice bL os.length cL)).heap.size = _
      simp
    have hks : KeptS S w (((w6.setCell ⟨w.heap.size + 2, 0, none⟩ (.int .i64 M)).setCell ⟨w.heap.size + 2, 1, none⟩ (.slice bL os.length cL)).drew) := by
      have := ((HKS.out).set (p := ⟨w.heap.size + 2, 0, none⟩) (.int .i64 M) (fun h => by simp only at h; omega)).set (p := ⟨w.heap.size + 2, 1, none⟩) (.slice bL os.length cL) (fun h => by simp only at h; omega)
      exact ⟨this.os, this.tape, this.output, this.size, this.block⟩
    refine ⟨G, _, rfl, hks, (fun k => w1.heap.size ≤ k ∧ k < w2.heap.size), T, vo2, vc2, ⟨HHW.out.kept fun q hq _ => hkk q (by omega), ?_, HPL.out.form, ?_, ?_⟩, fun q hq => .inr (by omega), fun q hq => .inl hq⟩
    · refine HPL.out.ref.kept (by rw [hsz]; omega) fun q hq hlt => (hkk q (by omega)).trans ?_
      exact (hk1 q (by omega) (fun h => HAP.out q h hq)).trans (HB1.out.block q hlt)
    · intro q hq
      rw [hsz]
      rcases hq with h9 | h9
      · have := h9.2; omega
      · have := HLOW.out q (.inr h9); omega
    · intro q hq h9
      have := HLOW.out q (.inr h9)
      omega
  clear c0 c1 br rf 
  go_upto_region 17 with fail
  refine mix_begin (n := 7) (S := fun w' => ∃ c : ClsP (ButR (w.heap.size + 2) w6.heap.size w6), w' = c.1) (by kernel_rfl) rfl rfl ?_
  refine mix_seg (fuel := 2) (fuel' := 7) (idx := [0, 1, 2, 3, 4]) (by kernel_rfl) rfl rfl rfl (fun _ _ _ _ _ h => h) ⟨⟨w6.drew, HBUT.out⟩, rfl⟩ ?_
  show wpQuiet _ _ _ _ [_, _, _, _, _] _
  iterate 5 (go_big_quiet_step (fail))
  refine wpQuiet_nil ?_
  refine mix_loud (fuel := 1) (fuel' := 2) (i := 5) rfl (by kernel_rfl) rfl rfl (by rfl) ?_
  intro K hK
  go_simp
  refine hK.out _ _ ⟨⟨_, (HBUT.out.set 0 _).set 1 _⟩, rfl⟩ ?_
  clear hK K
  refine mix_seg (fuel := 0) (fuel' := 1) (idx := [6]) (by kernel_rfl) rfl rfl rfl (fun _ _ _ _ _ h => h) ⟨⟨_, (HBUT.out.set 0 _).set 1 _⟩, rfl⟩ ?_
  show wpQuiet _ _ _ _ [_] _
  iterate 1 (go_big_quiet_step (fail))
  refine wpQuiet_nil ?_
  refine mix_done (by kernel_rfl) ?_
  go_wp2
  exact bodyPost_ret (v := .tuple #[.pointer (some ⟨G, 0, none⟩), .agg #[.int .i64 M, .slice bL os.length cL], .bool true]) (by simp [results, Tryz.results7, go_sem, z0, z1]) rfl (by rw [show Value.agg #[.int .i64 M, .slice bL os.length cL] = rhV m (.slice bL os.length cL) by rw [HM.out]]; exact HEND.out)

set_option maxRecDepth 100000 in
set_option maxHeartbeats 8000000 in
theorem step_load (S T : Nat → Prop) (m : Nat) (os : List Ob) (h : Nat) (vo vc vL : Value) (a : Ac) (u : Value) (w : World) (H : PlayIn S T w m os h vo vc vL) (hk : a.kind = 4) (hol : ∀ o ∈ os, o.2.length ≤ 1048576) (ht : TabsP w) :
    Calls Tryz.prog 7 #[.pointer (some ⟨h, 0, none⟩), rhV m vL, acV a u] w (PlayP S T w m os) := by
  have huse := H.hp.use
  have hmay := H.hp.may
  obtain ⟨bL, cL, rfl, -⟩ := H.ref.at
  obtain ⟨M, hM⟩ : ∃ M : Int, M = (m : Int) := ⟨_, rfl⟩
  have HM : Hid (M = (m : Int)) := hM
  obtain ⟨w1, hw1⟩ : ∃ w1, w1 = stepW w M (.slice bL os.length cL) a u := ⟨_, rfl⟩
  obtain ⟨hz, hb, hbh, hba, hbr⟩ := stepW_facts w M (.slice bL os.length cL) a u
  rw [← hw1] at hz hb hbh hba hbr
  have HPL : Hid (PlayIn S T w m os h vo vc (.slice bL os.length cL)) := H
  have HB1 : Hid (Below w.heap.size w w1) := hb
  have HBH : Hid (w1.heap[w.heap.size]? = some (.cells #[.int .i64 M, .slice bL os.length cL] 30 (0, 0))) := hbh
  have HBA : Hid (w1.heap[w.heap.size + 1]? = some (.cells #[.int .i64 a.kind, .string (strB a.tag), u, .int .i64 a.v.k, .int .i64 a.v.n, .string (strB a.v.s), .int .i64 a.x.k, .int .i64 a.x.n, .string (strB a.x.s), .int .i64 a.i] 35 (0, 0))) := hba
  have HBR : Hid (w1.heap[w.heap.size + 2]? = some (.cells #[.int .i64 0, .slice none 0 0] 30 (0, 0))) := hbr
  have HW1 : Hid (w1 = stepW w M (.slice bL os.length cL) a u) := hw1
  have HT : Hid (TabsP w) := ht
  have HOL : Hid (∀ o ∈ os, o.2.length ≤ 1048576) := hol
  have hosl : os.length ≤ 4096 := by omega
  have hhl := H.hp.lt
  have HLOW : Hid (∀ q, S q ∨ T q → q < w.heap.size) := H.low
  have HAP : Hid (∀ q, S q → ¬ T q) := H.apart
  have HS : Hid (∀ o ∈ os, obB o (os.length : Int) = true ∧ smallO o) := H.hp.ok
  obtain ⟨kd, tag, cells, ⟨vk, vn, vs⟩, ⟨xk, xn, xs⟩, ai⟩ := a
  simp only at hk
  subst hk
  rw [show rhV m (.slice bL os.length cL) = .agg #[.int .i64 M, .slice bL os.length cL] by rw [hM]]
  obtain ⟨a0, -⟩ := cells10 hba
  simp only at a0
  obtain ⟨h0, h1, -⟩ := cellsH2 hbh
  have y0 := cls_cell (n := w1.heap.size) h0 (by simp only; omega)
  have hBd : Below w1.heap.size w1 w1.drew := (Below.refl _ _).drew
  clear H hol ht hM hw1 hb hbh hba hbr h0 h1
  go_enter Tryz.func7, Tryz.ntmps7
  go_upto_region 19 with fail
  rw [show ((w.alloc (.cells #[.int .i64 M, .slice bL os.length cL] 30)).alloc (.cells #[.int .i64 4, .string (strB tag), u, .int .i64 vk, .int .i64 vn, .string (strB vs), .int .i64 xk, .int .i64 xn, .string (strB xs), .int .i64 ai] 35)).alloc (.cells #[.int .i64 0, .slice none 0 0] 30) = w1 from HW1.out.symm]
  refine mix_begin (n := 10) (S := fun w' => ∃ c : Cls w1.heap.size w1, w' = c.1) (by kernel_rfl) rfl rfl ?_
  refine mix_seg (fuel := 7) (fuel' := 10) (idx := [0, 1, 2]) (by kernel_rfl) rfl rfl rfl (fun _ _ _ _ _ h => h) ⟨⟨w1.drew, hBd⟩, rfl⟩ ?_
  show wpQuiet _ _ _ _ [_, _, _] _
  iterate 3 (go_big_quiet_step (fail))
  refine wpQuiet_nil ?_
  refine mix_loud (fuel := 6) (fuel' := 7) (i := 3) rfl (by kernel_rfl) rfl rfl (by rfl) ?_
  intro K hK
  go_simp
  refine (hall_any w1.drew (HPL.out.hp.below (HB1.out.drew))).mono ?_
  rintro e w2 ⟨v2, rfl, ⟨vs2, ho2⟩, hb2⟩
  have h12 : Below w1.heap.size w1 w2 := hBd.trans (hb2.mono (Nat.le_refl _))
  have HB12 : Hid (Below w1.heap.size w1 w2) := h12
  have hs2 := h12.size
  have HO2 : Hid (objsIn (fun q => w1.heap.size ≤ q) w2 v2 os) := ho2.read
  clear ho2 hb2 h12
  (try go_simp)
  refine hK.out _ _ ⟨⟨w2, HB12.out⟩, rfl⟩ ?_
  clear hK K
  (try simp only [Act.put, List.setIfInBounds_toArray, List.set_cons_zero, List.set_cons_succ])
  refine mix_loud (fuel := 5) (fuel' := 6) (i := 4) rfl (by kernel_rfl) rfl rfl (by rfl) ?_
  intro K hK
  go_simp
  refine (load_any (fun q => w1.heap.size ≤ q) M os v2 w2 HO2.out (fun o ho => (HS.out o ho).2) HOL.out (by omega) (HT.out.below (HB1.out.trans (HB12.out.mono (by omega))) (Nat.le_refl _))).mono ?_
  rintro e w3 ⟨hb3, hcase⟩
  have hs3 := hb3.size
  have hmN : mostN M = m := by rw [HM.out]; exact mostN_nat m hmay
  rw [hmN] at hcase
  obtain ⟨G, vo3, vc3, rfl, H3⟩ : ∃ g vo vc, e = .returned (.tuple #[.pointer (some ⟨g, 0, none⟩), .int .i64 0]) ∧ HpIn (fun k => w2.heap.size ≤ k) w3 m os g vo vc := by
    rcases hcase with ⟨-, o9, ho9, hf9⟩ | ⟨-, -, hf9⟩ | ⟨-, -, h9⟩
    · rw [(HS.out o9 ho9).1] at hf9; cases hf9
    · omega
    · exact h9
  have h13 : Below w1.heap.size w1 w3 := HB12.out.trans (hb3.mono hs2)
  have HB13 : Hid (Below w1.heap.size w1 w3) := h13
  have HHW : Hid (HpIn (fun k => w2.heap.size ≤ k ∧ k < w3.heap.size) w3 m os G vo3 vc3) := H3.low
  clear hcase hmN H3 h13 hb3
  (try go_simp)
  refine hK.out _ _ ⟨⟨w3, HB13.out⟩, rfl⟩ ?_
  clear hK K
  (try simp only [Act.put, List.setIfInBounds_toArray, List.set_cons_zero, List.set_cons_succ])
  refine mix_seg (fuel := 0) (fuel' := 5) (idx := [5, 6, 7, 8, 9]) (by kernel_rfl) rfl rfl rfl (fun _ _ _ _ _ h => h) ⟨⟨w3, HB13.out⟩, rfl⟩ ?_
  show wpQuiet _ _ _ _ [_, _, _, _, _] _
  iterate 5 (go_big_quiet_step (fail))
  refine wpQuiet_nil ?_
  refine mix_done (by kernel_rfl) ?_
  have hk1 : ∀ q, q < w1.heap.size → ¬ S q → w3.heap[q]? = w1.heap[q]? := fun q hq _ => HB13.out.block q hq
  obtain ⟨c0, c1, -⟩ := cellsH2 (hk1 w.heap.size (by omega) (fun h => by have := HLOW.out _ (.inl h); omega) |>.trans HBH.out)
  have br := (hk1 (w.heap.size + 2) (by omega) (fun h => by have := HLOW.out _ (.inl h); omega)).trans HBR.out
  obtain ⟨r0, r1, rf⟩ := cellsH2 br
  have rf0 := rf 0
  have rf1 := rf 1
  have hsW : w1.heap.size ≤ w3.heap.size := by omega
  have x6 := butR_cell (R := w.heap.size + 2) (n := w3.heap.size) c0 (by simp only; omega) (by simp only; omega)
  have x7 := butR_cell (R := w.heap.size + 2) (n := w3.heap.size) c1 (by simp only; omega) (by simp only; omega)
  obtain ⟨z0, z1⟩ := set2H_cells br (.int .i64 M) (.slice bL os.length cL)
  have HBUT : Hid (ButR (w.heap.size + 2) w3.heap.size w3 w3.drew) := fun _ _ _ => rfl
  have HEND : Hid (PlayP S T w m os (.returned (.tuple #[.pointer (some ⟨G, 0, none⟩), rhV m (.slice bL os.length cL), .bool true])) (((w3.setCell ⟨w.heap.size + 2, 0, none⟩ (.int .i64 M)).setCell ⟨w.heap.size + 2, 1, none⟩ (.slice bL os.length cL)).drew)) := by
    have hkk : ∀ q, q ≠ w.heap.size + 2 → (((w3.setCell ⟨w.heap.size + 2, 0, none⟩ (.int .i64 M)).setCell ⟨w.heap.size + 2, 1, none⟩ (.slice bL os.length cL)).drew).heap[q]? = w3.heap[q]? := fun q hq => by
      show ((w3.setCell ⟨w.heap.size + 2, 0, none⟩ (.int .i64 M)).setCell ⟨w.heap.size + 2, 1, none⟩ (.slice bL os.length cL)).heap[q]? = _
      rw [Below.heap_setCell _ _ _ _ (by simpa using hq), Below.heap_setCell _ _ _ _ (by simpa using hq)]
    have hsz : (((w3.setCell ⟨w.heap.size + 2, 0, none⟩ (.int .i64 M)).setCell ⟨w.heap.size + 2, 1, none⟩ (.slice bL os.length cL)).drew).heap.size = w3.heap.size := by
      show ((w3.setCell ⟨w.heap.size + 2, 0, none⟩ (.int .i64 M)).setCell ⟨w.heap.size + 2, 1, none⟩ (.slice bL os.length cL)).heap.size = _
      simp
    have hks : KeptS S w (((w3.setCell ⟨w.heap.size + 2, 0, none⟩ (.int .i64 M)).setCell ⟨w.heap.size + 2, 1, none⟩ (.slice bL os.length cL)).drew) := by
      have := ((KeptS.of (S := S) (HB1.out.trans (HB13.out.mono (by omega)))).set (p := ⟨w.heap.size + 2, 0, none⟩) (.int .i64 M) (fun h => by simp only at h; omega)).set (p := ⟨w.heap.size + 2, 1, none⟩) (.slice bL os.length cL) (fun h => by simp only at h; omega)
      exact ⟨this.os, this.tape, this.output, this.size, this.block⟩
    refine ⟨G, _, rfl, hks, (fun k => w2.heap.size ≤ k ∧ k < w3.heap.size), T, vo3, vc3, ⟨HHW.out.kept fun q hq _ => hkk q (by omega), ?_, HPL.out.form, ?_, ?_⟩, fun q hq => .inr (by omega), fun q hq => .inl hq⟩
    · refine HPL.out.ref.kept (by rw [hsz]; omega) fun q hq hlt => (hkk q (by omega)).trans ?_
      exact (hk1 q (by omega) (fun h => HAP.out q h hq)).trans (HB1.out.block q hlt)
    · intro q hq
      rw [hsz]
      rcases hq with h9 | h9
      · have := h9.2; omega
      · have := HLOW.out q (.inr h9); omega
    · intro q hq h9
      have := HLOW.out q (.inr h9)
      omega
  clear c0 c1 br rf y0 a0
  go_upto_region 20 with fail
  refine mix_begin (n := 11) (S := fun w' => ∃ c : ClsP (ButR (w.heap.size + 2) w3.heap.size w3), w' = c.1) (by kernel_rfl) rfl rfl ?_
  refine mix_seg (fuel := 2) (fuel' := 11) (idx := [0, 1, 2, 3, 4, 5, 6, 7, 8]) (by kernel_rfl) rfl rfl rfl (fun _ _ _ _ _ h => h) ⟨⟨w3.drew, HBUT.out⟩, rfl⟩ ?_
  show wpQuiet _ _ _ _ [_, _, _, _, _, _, _, _, _] _
  iterate 9 (go_big_quiet_step (fail))
  refine wpQuiet_nil ?_
  refine mix_loud (fuel := 1) (fuel' := 2) (i := 9) rfl (by kernel_rfl) rfl rfl (by rfl) ?_
  intro K hK
  go_simp
  refine hK.out _ _ ⟨⟨_, (HBUT.out.set 0 _).set 1 _⟩, rfl⟩ ?_
  clear hK K
  refine mix_seg (fuel := 0) (fuel' := 1) (idx := [10]) (by kernel_rfl) rfl rfl rfl (fun _ _ _ _ _ h => h) ⟨⟨_, (HBUT.out.set 0 _).set 1 _⟩, rfl⟩ ?_
  show wpQuiet _ _ _ _ [_] _
  iterate 1 (go_big_quiet_step (fail))
  refine wpQuiet_nil ?_
  refine mix_done (by kernel_rfl) ?_
  go_wp2
  exact bodyPost_ret (v := .tuple #[.pointer (some ⟨G, 0, none⟩), .agg #[.int .i64 M, .slice bL os.length cL], .bool true]) (by simp [results, Tryz.results7, go_sem, z0, z1]) rfl (by rw [show Value.agg #[.int .i64 M, .slice bL os.length cL] = rhV m (.slice bL os.length cL) by rw [HM.out]]; exact HEND.out)
end Go.Proofs.YtchpmnmngeebjaaGreatDoor
/- HeapPlays: a step that makes an object. -/
namespace Go.Proofs.YtchpmnmngeebjaaGreatDoor
open Go.RowKit Go.Shelf

/-- Where two may come up. -/
theorem mix_two {P : Program} {Q : Exit → Act → World → Prop} {md : Region.Mode} {S : World → Prop} {l : List Oper} {fuel fuel' : Nat} {w : World} {i k : Nat} {o o' : Oper} {rest rest' : List Oper} {listed li lk : Array Bool} {a : Act} (hd : l.drop i = o :: rest) (hd' : l.drop k = o' :: rest') (hr : Region.ready md l.toArray listed = [i, k]) (hf : fuel + 1 = fuel') (hL : li = listed.setIfInBounds i true) (hL' : lk = listed.setIfInBounds k true)
    (hw : Region.wanted o (yielded l.toArray a.tmps) = true) (hw' : Region.wanted o' (yielded l.toArray a.tmps) = true)
    (h : ∀ K : Act → World → Prop, Hid (∀ a' w', S w' → wpAnyH P md l.toArray Q S fuel li a' w' → K a' w') → o.wp P a w K Q)
    (h' : ∀ K : Act → World → Prop, Hid (∀ a' w', S w' → wpAnyH P md l.toArray Q S fuel lk a' w' → K a' w') → o'.wp P a w K Q) : wpAnyH P md l.toArray Q S fuel' listed a w := by
  subst hf hL hL'
  refine wpAnyH_all hr (by simp) fun j hj => ?_
  have hj' : j = i ∨ j = k := by simpa using hj
  rcases hj' with rfl | rfl
  · have h1 := h (fun a' w' => S w' ∧ wpAnyH P md l.toArray Q S fuel (listed.setIfInBounds j true) a' w') fun a' w' h1 h2 => ⟨h1, h2⟩
    unfold wpOp
    rw [drop_get hd]
    simp only [hw, if_true]
    exact .inl h1
  · have h1 := h' (fun a' w' => S w' ∧ wpAnyH P md l.toArray Q S fuel (listed.setIfInBounds j true) a' w') fun a' w' h1 h2 => ⟨h1, h2⟩
    unfold wpOp
    rw [drop_get hd']
    simp only [hw', if_true]
    exact .inl h1

theorem refAlloc_uni {m : Nat} {os : List Ob} {o : Ob} {v : Value} {S : Nat → Prop} {w : World} {e : Ending} {w' : World} (h : refAllocP m os o v S w e w') (hin : objsIn S w v os) (hf : v = .slice none 0 0 ∨ ∃ ad n c, v = .slice (some ad) n c) :
    Below w.heap.size w w' ∧ ∃ v', e = .returned (.tuple #[rhV m v', vlV (allocR m os o).1, .int .i64 (allocR m os o).2.1]) ∧ objsIn (fun q => S q ∨ w.heap.size ≤ q) w' v' (allocR m os o).2.2 ∧ (v' = .slice none 0 0 ∨ ∃ ad n c, v' = .slice (some ad) n c) := by
  obtain ⟨hb, ⟨h1, he⟩ | ⟨h1, h2, he⟩ | ⟨h1, h2, v', he, ho, hf'⟩⟩ := h
  · have e1 : allocR m os o = (⟨0, 0, []⟩, 2, os) := by unfold allocR; rw [if_pos h1]
    rw [e1]
    exact ⟨hb, v, he, (hin.kept hb.size fun q _ hq => hb.block q hq).wide fun q _ hq => .inl hq, hf⟩
  · have e1 : allocR m os o = (⟨0, 0, []⟩, 12, os) := by unfold allocR; rw [if_neg (by rw [h1]; simp), if_pos h2]
    rw [e1]
    exact ⟨hb, v, he, (hin.kept hb.size fun q _ hq => hb.block q hq).wide fun q _ hq => .inl hq, hf⟩
  · have e1 : allocR m os o = (⟨4, os.length, []⟩, 0, os ++ [o]) := by unfold allocR; rw [if_neg (by rw [h1]; simp), if_neg h2]
    rw [e1]
    exact ⟨hb, v', he, ho, .inr hf'⟩

set_option maxRecDepth 100000 in
set_option maxHeartbeats 8000000 in
theorem step_alloc (S T : Nat → Prop) (m : Nat) (os : List Ob) (h : Nat) (vo vc vL : Value) (a : Ac) (u : Value) (w : World) (H : PlayIn S T w m os h vo vc vL) (hk1 : a.kind ≠ 1) (hk2 : a.kind ≠ 2) (hk3 : a.kind ≠ 3) (hk4 : a.kind ≠ 4) (U : Nat → Prop) (hu : valsIn U w u a.cells) (hUS : ∀ q, U q → ¬ S q) (huf : u = .slice none 0 0 ∨ ∃ ad n c, u = .slice (some ad) n c) (hso : smallO (a.tag, a.cells)) (hcl : a.cells.length ≤ 1048576) (hol : ∀ o ∈ os, o.2.length ≤ 1048576) (ht : TabsP w) :
    Calls Tryz.prog 7 #[.pointer (some ⟨h, 0, none⟩), rhV m vL, acV a u] w (PlayP S T w m (allocR m os (a.tag, a.cells)).2.2) := by
  have huse := H.hp.use
  have hmay := H.hp.may
  obtain ⟨bL, cL, rfl, -⟩ := H.ref.at
  obtain ⟨M, hM⟩ : ∃ M : Int, M = (m : Int) := ⟨_, rfl⟩
  have HM : Hid (M = (m : Int)) := hM
  obtain ⟨w1, hw1⟩ : ∃ w1, w1 = stepW w M (.slice bL os.length cL) a u := ⟨_, rfl⟩
  obtain ⟨hz, hb, hbh, hba, hbr⟩ := stepW_facts w M (.slice bL os.length cL) a u
  rw [← hw1] at hz hb hbh hba hbr
  have HPL : Hid (PlayIn S T w m os h vo vc (.slice bL os.length cL)) := H
  have HB1 : Hid (Below w.heap.size w w1) := hb
  have HBH : Hid (w1.heap[w.heap.size]? = some (.cells #[.int .i64 M, .slice bL os.length cL] 30 (0, 0))) := hbh
  have HBA : Hid (w1.heap[w.heap.size + 1]? = some (.cells #[.int .i64 a.kind, .string (strB a.tag), u, .int .i64 a.v.k, .int .i64 a.v.n, .string (strB a.v.s), .int .i64 a.x.k, .int .i64 a.x.n, .string (strB a.x.s), .int .i64 a.i] 35 (0, 0))) := hba
  have HBR : Hid (w1.heap[w.heap.size + 2]? = some (.cells #[.int .i64 0, .slice none 0 0] 30 (0, 0))) := hbr
  have HW1 : Hid (w1 = stepW w M (.slice bL os.length cL) a u) := hw1
  have HT : Hid (TabsP w) := ht
  have HOL : Hid (∀ o ∈ os, o.2.length ≤ 1048576) := hol
  have hosl : os.length ≤ 4096 := by omega
  have hhl := H.hp.lt
  have HLOW : Hid (∀ q, S q ∨ T q → q < w.heap.size) := H.low
  have HAP : Hid (∀ q, S q → ¬ T q) := H.apart
  have cs := refAlloc_any T U m os (.slice bL os.length cL) (a.tag, a.cells) u w1 (H.ref.kept hb.size fun q _ hq => hb.block q hq) (fun q hq => by have := H.low q (.inr hq); omega) H.form (hu.kept hb.size fun q _ hq => hb.block q hq) huf hso hcl hmay (by omega)
  have HR1 : Hid (objsIn T w1 (.slice bL os.length cL) os) := H.ref.kept hb.size fun q _ hq => hb.block q hq
  have HFM : Hid (Value.slice bL os.length cL = .slice none 0 0 ∨ ∃ ad n c, Value.slice bL os.length cL = .slice (some ad) n c) := H.form
  obtain ⟨kd, tag, cells, ⟨vk, vn, vs⟩, ⟨xk, xn, xs⟩, ai⟩ := a
  simp only at hk1 hk2 hk3 hk4 hu hso hcl cs ⊢
  have e1 : (kd == 1) = false := by rw [beq_eq_false_iff_ne]; exact hk1
  have e2 : (kd == 2) = false := by rw [beq_eq_false_iff_ne]; exact hk2
  have e3 : (kd == 3) = false := by rw [beq_eq_false_iff_ne]; exact hk3
  have e4 : (kd == 4) = false := by rw [beq_eq_false_iff_ne]; exact hk4
  obtain ⟨bu, cu, rfl, -⟩ := hu.at
  rw [show rhV m (.slice bL os.length cL) = .agg #[.int .i64 M, .slice bL os.length cL] by rw [hM]] at cs ⊢
  obtain ⟨h0, h1, -⟩ := cellsH2 hbh
  obtain ⟨a0, a1, a2, -⟩ := cells10 hba
  simp only at a0 a1 a2
  obtain ⟨OS, hOS⟩ : ∃ OS, OS = (allocR m os (tag, cells)).2.2 := ⟨_, rfl⟩
  obtain ⟨E, hE⟩ : ∃ E, E = (allocR m os (tag, cells)).2.1 := ⟨_, rfl⟩
  obtain ⟨r, hr⟩ : ∃ r, r = (allocR m os (tag, cells)).1 := ⟨_, rfl⟩
  have HOS : Hid (OS = (allocR m os (tag, cells)).2.2) := hOS
  have HE : Hid (E = (allocR m os (tag, cells)).2.1) := hE
  have HR : Hid (r = (allocR m os (tag, cells)).1) := hr
  have HU : Hid (valsIn U w (.slice bu cells.length cu) cells) := hu
  have HUS : Hid (∀ q, U q → ¬ S q) := hUS
  have HUF : Hid (Value.slice bu cells.length cu = .slice none 0 0 ∨ ∃ ad n c, Value.slice bu cells.length cu = .slice (some ad) n c) := huf
  have HSO : Hid (smallO (tag, cells)) := hso
  rw [← hOS]
  clear H hol ht hM hw1 hb hbh hba hbr hu hUS huf hso hOS hE hr hk1 hk2 hk3 hk4
  go_enter Tryz.func7, Tryz.ntmps7
  go_wp2_with fail
  rw [show ((w.alloc (.cells #[.int .i64 M, .slice bL os.length cL] 30)).alloc (.cells #[.int .i64 kd, .string (strB tag), .slice bu cells.length cu, .int .i64 vk, .int .i64 vn, .string (strB vs), .int .i64 xk, .int .i64 xn, .string (strB xs), .int .i64 ai] 35)).alloc (.cells #[.int .i64 0, .slice none 0 0] 30) = w1 from HW1.out.symm]
  refine cs.mono ?_
  clear cs h0 h1 a0 a1 a2
  intro e w2 hP
  obtain ⟨hb2, v2, rfl, ho2, hf2⟩ := refAlloc_uni hP HR1.out HFM.out
  rw [← HOS.out] at ho2
  rw [← HE.out, ← HR.out]
  have hs2 := hb2.size
  obtain ⟨b2, c2, rfl, -⟩ := ho2.at
  rw [show rhV m (.slice b2 OS.length c2) = .agg #[.int .i64 M, .slice b2 OS.length c2] by rw [HM.out]]
  obtain ⟨NL, hNL⟩ : ∃ NL, NL = OS.length := ⟨_, rfl⟩
  rw [← hNL] at ho2 hf2 ⊢
  clear hNL
  obtain ⟨rk, rn, rs⟩ := r
  obtain ⟨w3, hw3⟩ : ∃ w3, w3 = (w2.alloc (.cells #[.int .i64 M, .slice b2 NL c2] 30)).alloc (.cells #[.int .i64 rk, .int .i64 rn, .string (strB rs)] 25) := ⟨_, rfl⟩
  have hz3 : w3.heap.size = w2.heap.size + 2 := by rw [hw3]; simp
  have h23 : Below w2.heap.size w2 w3 := by rw [hw3]; exact ((Below.refl _ _).alloc (Nat.le_refl _) _).alloc (by simp) _
  have hx3 : w3.heap[w2.heap.size]? = some (.cells #[.int .i64 M, .slice b2 NL c2] 30 (0, 0)) := by rw [hw3, Below.heap_alloc _ _ _ (by simp)]; exact World.alloc_heap_new _ _
  have hy3 : w3.heap[w2.heap.size + 1]? = some (.cells #[.int .i64 rk, .int .i64 rn, .string (strB rs)] 25 (0, 0)) := by
    rw [hw3]
    have := World.alloc_heap_new (w2.alloc (.cells #[.int .i64 M, .slice b2 NL c2] 30)) (.cells #[.int .i64 rk, .int .i64 rn, .string (strB rs)] 25)
    simpa using this
  have h13 : Below w1.heap.size w1 w3 := hb2.trans (h23.mono hs2)
  have hw3w : Below w.heap.size w w3 := HB1.out.trans (h13.mono (by omega))
  have HB13 : Hid (Below w1.heap.size w1 w3) := h13
  have HW3w : Hid (Below w.heap.size w w3) := hw3w
  have HX3 : Hid (w3.heap[w2.heap.size]? = some (.cells #[.int .i64 M, .slice b2 NL c2] 30 (0, 0))) := hx3
  have HY3 : Hid (w3.heap[w2.heap.size + 1]? = some (.cells #[.int .i64 rk, .int .i64 rn, .string (strB rs)] 25 (0, 0))) := hy3
  have HO3 : Hid (objsIn (fun q => T q ∨ w1.heap.size ≤ q) w3 (.slice b2 NL c2) OS) := ho2.kept h23.size fun q _ hq => h23.block q hq
  have HF2 : Hid (Value.slice b2 NL c2 = .slice none 0 0 ∨ ∃ ad n c, Value.slice b2 NL c2 = .slice (some ad) n c) := hf2
  have HW3 : Hid (w3 = (w2.alloc (.cells #[.int .i64 M, .slice b2 NL c2] 30)).alloc (.cells #[.int .i64 rk, .int .i64 rn, .string (strB rs)] 25)) := hw3
  obtain ⟨-, q1, q2, -⟩ := cells10 ((h13.block (w.heap.size + 1) (by omega)).trans HBA.out)
  have hnS : ∀ q, w.heap.size ≤ q → ¬ S q := fun q hq h => by have := HLOW.out q (.inl h); omega
  have x1 := butS_cell (P := S) (n := w3.heap.size) q1 (by simp only; omega) (hnS _ (by simp only; omega))
  have x2 := butS_cell (P := S) (n := w3.heap.size) q2 (by simp only; omega) (hnS _ (by simp only; omega))
  have cown : ∀ W, Below w3.heap.size w3 W → Calls Tryz.prog 28 #[.slice bu cells.length cu] W fun e w' => ∃ b9 n9 c9, e = .returned (.slice b9 n9 c9) ∧ Hid (valsIn (fun _ => True) w' (.slice b9 n9 c9) cells) ∧ Hid (Below W.heap.size W w') := fun W hW => by
    have hWw : Below w.heap.size w W := HW3w.out.trans (hW.mono HW3w.out.size)
    refine (own06_any U cells _ W (HU.out.kept hWw.size fun q _ hq => hWw.block q hq) HUF.out hcl).mono ?_
    rintro e w' ⟨v', rfl, hv', hb'⟩
    obtain ⟨b9, c9, rfl, -⟩ := hv'.at
    exact ⟨b9, _, c9, rfl, hv'.wide fun _ _ => trivial, hb'⟩
  have call : ∀ W v', Below w3.heap.size w3 W → valsIn (fun _ => True) W v' cells → Calls Tryz.prog 14 #[.pointer (some ⟨h, 0, none⟩), .string (strB tag), v'] W fun e w' => e = .returned (.tuple #[vlV ⟨rk, rn, rs⟩, .int .i64 E]) ∧ Hid (KeptS S W w' ∧ ∃ vo' vc', HpIn (fun k => S k ∨ W.heap.size ≤ k) w' m OS h vo' vc') := fun W v' hW hv' => by
    have hWw : Below w.heap.size w W := HW3w.out.trans (hW.mono HW3w.out.size)
    refine (alloc_any (tag, cells) v' W (HPL.out.hp.below hWw) hv' HSO.out hcl (HT.out.below hWw (Nat.le_refl _))).mono ?_
    rintro e w' ⟨rfl, hk', hp'⟩
    rw [← HR.out, ← HE.out]
    rw [← HOS.out] at hp'
    exact ⟨rfl, hk', hp'⟩
  have HBd : Hid (Below w3.heap.size w3 w3.drew) := (Below.refl _ _).drew
  have HBUT : Hid (ButS S w3.heap.size w3 w3.drew) := fun _ _ _ => rfl
  clear q1 q2 hx3 hy3 h13 h23 hw3 ho2 hf2 hb2 hP hw3w
  go_upto_region 22 with fail
  rw [← HW3.out]
  go_cut [29, 30] (fun p e wx => ∃ g9 : Nat, p = .pointer (some ⟨g9, 0, none⟩) ∧ e = .int .i64 E ∧ w3.heap.size ≤ g9 ∧ wx.heap[g9]? = some (.cells #[.int .i64 rk, .int .i64 rn, .string (strB rs)] 25 (0, 0)) ∧ KeptS S w3 wx ∧ ∃ vo' vc', HpIn (fun k => S k ∨ w3.heap.size ≤ k) wx m OS h vo' vc')
  case first =>
    refine mix_begin (n := 13) (S := (fun w' => ∃ c : ClsP (ButS S w3.heap.size w3), w' = c.1)) (by kernel_rfl) rfl rfl ?_
    refine mix_seg (fuel := 8) (fuel' := 13) (idx := [0, 1, 2, 3, 4]) (by kernel_rfl) rfl rfl rfl (fun _ _ _ _ _ h => h) ⟨⟨w3.drew, HBUT.out⟩, rfl⟩ ?_
    show wpQuiet _ _ _ _ [_, _, _, _, _] _
    iterate 5 (go_big_quiet_step (fail))
    refine wpQuiet_nil ?_
    refine mix_two (fuel := 7) (fuel' := 8) (i := 5) (k := 10) rfl rfl (by kernel_rfl) rfl rfl rfl (by rfl) (by rfl) ?_ ?_
    · intro K hK
      go_simp
      refine (cown _ HBd.out).mono ?_
      rintro e w4 ⟨b9, n9, c9, rfl, HV4, hb4⟩
      have h34 : Below w3.heap.size w3 w4 := HBd.out.trans (hb4.out.mono (Nat.le_refl _))
      have HB34 : Hid (Below w3.heap.size w3 w4) := h34
      have hs4 := h34.size
      have HBUT4 : Hid (ButS S w3.heap.size w3 w4) := fun q hq _ => h34.block q hq
      clear h34
      (try go_simp)
      refine hK.out _ _ ⟨⟨w4, HBUT4.out⟩, rfl⟩ ?_
      clear hK K
      (try simp only [Act.put, List.setIfInBounds_toArray, List.set_cons_zero, List.set_cons_succ])
      refine mix_two (fuel := 6) (fuel' := 7) (i := 6) (k := 10) rfl rfl (by kernel_rfl) rfl rfl rfl (by rfl) (by rfl) ?_ ?_
      · intro K hK
        go_simp
        refine (call w4 _ HB34.out HV4.out).mono ?_
        rintro e w5 ⟨rfl, HP5⟩
        have hk5 := HP5.out.1
        have hs5 := hk5.size
        have HKP : Hid (KeptS S w3 w5 ∧ ∃ vo' vc', HpIn (fun k => S k ∨ w3.heap.size ≤ k) w5 m OS h vo' vc') := ⟨(KeptS.of (S := S) HB34.out).trans hk5 fun q _ h => h, by obtain ⟨vo', vc', hp'⟩ := HP5.out.2; exact ⟨vo', vc', hp'.wide fun k _ hk => by rcases hk with hk | hk; exact .inl hk; right; omega⟩⟩
        have hbut5 : ButS S w3.heap.size w3 w5 := fun q hq hn => HKP.out.1.block q hq hn
        have HBUT5 : Hid (ButS S w3.heap.size w3 w5) := hbut5
        clear hk5 hbut5
        (try go_simp)
        refine hK.out _ _ ⟨⟨w5, HBUT5.out⟩, rfl⟩ ?_
        clear hK K
        (try simp only [Act.put, List.setIfInBounds_toArray, List.set_cons_zero, List.set_cons_succ])
        refine mix_seg (fuel := 3) (fuel' := 6) (idx := [7, 8, 9]) (by kernel_rfl) rfl rfl rfl (fun _ _ _ _ _ h => h) ⟨⟨w5, HBUT5.out⟩, rfl⟩ ?_
        show wpQuiet _ _ _ _ [_, _, _] _
        iterate 3 (go_big_quiet_step (fail))
        refine wpQuiet_nil ?_
        refine mix_loud (fuel := 2) (fuel' := 3) (i := 10) rfl (by kernel_rfl) rfl rfl (by rfl) ?_
        intro K hK
        go_simp
        refine hK.out _ _ ⟨⟨_, fun q hq hn => (Below.heap_alloc w5 _ q (by omega)).trans (HBUT5.out q hq hn)⟩, rfl⟩ ?_
        clear hK K
        (try simp only [Act.put, List.setIfInBounds_toArray, List.set_cons_zero, List.set_cons_succ])
        refine mix_loud (fuel := 1) (fuel' := 2) (i := 11) rfl (by kernel_rfl) rfl rfl (by rfl) ?_
        intro K hK
        go_simp
        have hbutE : ButS S w3.heap.size w3 (w5.alloc (.cells #[.int .i64 rk, .int .i64 rn, .string (strB rs)] 25)) := fun q hq hn => (Below.heap_alloc _ _ _ (by omega)).trans (HBUT5.out q hq hn)
        refine hK.out _ _ ⟨⟨_, hbutE⟩, rfl⟩ ?_
        clear hK K
        refine mix_seg (fuel := 0) (fuel' := 1) (idx := [12]) (by kernel_rfl) rfl rfl rfl (fun _ _ _ _ _ h => h) ⟨⟨_, hbutE⟩, rfl⟩ ?_
        show wpQuiet _ _ _ _ [_] _
        iterate 1 (go_big_quiet_step (fail))
        refine wpQuiet_nil ?_
        refine mix_done (by kernel_rfl) ?_
        go_wp2_with fail
        go_meet
        exact ⟨w5.heap.size, rfl, rfl, by omega, World.alloc_heap_new _ _, (HKP.out.1).alloc _, by obtain ⟨vo', vc', hp'⟩ := HKP.out.2; exact ⟨vo', vc', hp'.below ((Below.refl _ _).alloc (Nat.le_refl _) _)⟩⟩
      · intro K hK
        go_simp
        refine hK.out _ _ ⟨⟨_, fun q hq hn => (Below.heap_alloc w4 _ q (by omega)).trans (HBUT4.out q hq hn)⟩, rfl⟩ ?_
        clear hK K
        (try simp only [Act.put, List.setIfInBounds_toArray, List.set_cons_zero, List.set_cons_succ])
        obtain ⟨w5, hw5⟩ : ∃ w5, w5 = w4.alloc (.cells #[.int .i64 0, .int .i64 0, .string ⟨#[]⟩] 25) := ⟨_, rfl⟩
        rw [← hw5]
        have hz5 : w5.heap.size = w4.heap.size + 1 := by rw [hw5]; simp
        have h45 : Below w4.heap.size w4 w5 := by rw [hw5]; exact (Below.refl _ _).alloc (Nat.le_refl _) _
        have HB35 : Hid (Below w3.heap.size w3 w5) := HB34.out.trans (h45.mono hs4)
        have HZ5 : Hid (w5.heap[w4.heap.size]? = some (.cells #[.int .i64 0, .int .i64 0, .string ⟨#[]⟩] 25 (0, 0))) := by show _ = _; rw [hw5]; exact World.alloc_heap_new _ _
        have HV5 : Hid (valsIn (fun _ => True) w5 (.slice b9 n9 c9) cells) := HV4.out.kept h45.size fun q _ hq => h45.block q hq
        have HBUT5 : Hid (ButS S w3.heap.size w3 w5) := fun q hq _ => HB35.out.block q hq
        clear hw5 h45
        refine mix_loud (fuel := 5) (fuel' := 6) (i := 6) rfl (by kernel_rfl) rfl rfl (by rfl) ?_
        intro K hK
        go_simp
        refine (call w5 _ HB35.out HV5.out).mono ?_
        rintro e w6 ⟨rfl, HP6⟩
        have hk6 := HP6.out.1
        have hs6 := hk6.size
        have HKP : Hid (KeptS S w3 w6 ∧ ∃ vo' vc', HpIn (fun k => S k ∨ w5.heap.size ≤ k) w6 m OS h vo' vc') := ⟨(KeptS.of (S := S) HB35.out).trans hk6 fun q _ h => h, HP6.out.2⟩
        have HBUT6 : Hid (ButS S w3.heap.size w3 w6) := fun q hq hn => HKP.out.1.block q hq hn
        have HZ9 : Hid (w6.heap[w4.heap.size]? = some (.cells #[.int .i64 0, .int .i64 0, .string ⟨#[]⟩] 25 (0, 0))) := (hk6.block w4.heap.size (by omega) (hnS _ (by have := HW3w.out.size; omega))).trans HZ5.out
        clear hk6
        (try go_simp)
        refine hK.out _ _ ⟨⟨w6, HBUT6.out⟩, rfl⟩ ?_
        clear hK K
        (try simp only [Act.put, List.setIfInBounds_toArray, List.set_cons_zero, List.set_cons_succ])
        refine mix_seg (fuel := 2) (fuel' := 5) (idx := [7, 8, 9]) (by kernel_rfl) rfl rfl rfl (fun _ _ _ _ _ h => h) ⟨⟨w6, HBUT6.out⟩, rfl⟩ ?_
        show wpQuiet _ _ _ _ [_, _, _] _
        iterate 3 (go_big_quiet_step (fail))
        refine wpQuiet_nil ?_
        obtain ⟨s0, s1, s2, sf⟩ := cellsH3 HZ9.out
        have sf0 := sf 0
        have sf1 := sf 1
        have sf2 := sf 2
        refine mix_loud (fuel := 1) (fuel' := 2) (i := 11) rfl (by kernel_rfl) rfl rfl (by rfl) ?_
        intro K hK
        go_simp
        have hbutE : ButS S w3.heap.size w3 (((w6.setCell ⟨w4.heap.size, 0, none⟩ (.int .i64 rk)).setCell ⟨w4.heap.size, 1, none⟩ (.int .i64 rn)).setCell ⟨w4.heap.size, 2, none⟩ (.string (strB rs))) := fun q hq hn => by
          rw [Below.heap_setCell _ _ _ _ (by simp only; omega), Below.heap_setCell _ _ _ _ (by simp only; omega), Below.heap_setCell _ _ _ _ (by simp only; omega)]
          exact HBUT6.out q hq hn
        refine hK.out _ _ ⟨⟨_, hbutE⟩, rfl⟩ ?_
        clear hK K
        refine mix_seg (fuel := 0) (fuel' := 1) (idx := [12]) (by kernel_rfl) rfl rfl rfl (fun _ _ _ _ _ h => h) ⟨⟨_, hbutE⟩, rfl⟩ ?_
        show wpQuiet _ _ _ _ [_] _
        iterate 1 (go_big_quiet_step (fail))
        refine wpQuiet_nil ?_
        refine mix_done (by kernel_rfl) ?_
        go_wp2_with fail
        go_meet
        refine ⟨w4.heap.size, rfl, rfl, by omega, setCellH_block _ (setCellH_block _ (setCellH_block _ HZ9.out)), (((HKP.out.1).set _ (fun h => by simp only at h; omega)).set _ (fun h => by simp only at h; omega)).set _ (fun h => by simp only at h; omega), ?_⟩
        obtain ⟨vo', vc', hp'⟩ := HKP.out.2
        have hp9 := hp'.kept (w' := (((w6.setCell ⟨w4.heap.size, 0, none⟩ (.int .i64 rk)).setCell ⟨w4.heap.size, 1, none⟩ (.int .i64 rn)).setCell ⟨w4.heap.size, 2, none⟩ (.string (strB rs)))) fun q hq _ => by
          have hne : q ≠ w4.heap.size := by
            rcases hq with h9 | h9
            · have := HLOW.out q (.inl h9); have := HW3w.out.size; omega
            · omega
          rw [Below.heap_setCell _ _ _ _ (by simpa using hne), Below.heap_setCell _ _ _ _ (by simpa using hne), Below.heap_setCell _ _ _ _ (by simpa using hne)]
        exact ⟨vo', vc', hp9.wide fun k _ hk => by rcases hk with hk | hk; exact .inl hk; right; omega⟩
    · clear hz3
      intro K hK
      go_simp
      refine hK.out _ _ ⟨⟨(w3.alloc (.cells #[.int .i64 0, .int .i64 0, .string ⟨#[]⟩] 25)).drew, fun q hq _ => Below.heap_alloc w3 _ q hq⟩, rfl⟩ ?_
      clear hK K
      (try simp only [Act.put, List.setIfInBounds_toArray, List.set_cons_zero, List.set_cons_succ])
      obtain ⟨w4, hw4⟩ : ∃ w4, w4 = (w3.alloc (.cells #[.int .i64 0, .int .i64 0, .string ⟨#[]⟩] 25)).drew := ⟨_, rfl⟩
      rw [← hw4]
      have hz4 : w4.heap.size = w3.heap.size + 1 := by rw [hw4]; simp
      have h34 : Below w3.heap.size w3 w4 := by rw [hw4]; exact ((Below.refl _ _).alloc (Nat.le_refl _) _).drew
      have HB34 : Hid (Below w3.heap.size w3 w4) := h34
      have HZ4 : Hid (w4.heap[w3.heap.size]? = some (.cells #[.int .i64 0, .int .i64 0, .string ⟨#[]⟩] 25 (0, 0))) := by show _ = _; rw [hw4]; exact World.alloc_heap_new _ _
      have HBUT4 : Hid (ButS S w3.heap.size w3 w4) := fun q hq _ => h34.block q hq
      clear hw4 h34
      refine mix_loud (fuel := 6) (fuel' := 7) (i := 5) rfl (by kernel_rfl) rfl rfl (by rfl) ?_
      intro K hK
      go_simp
      refine (cown _ HB34.out).mono ?_
      rintro e w5 ⟨b9, n9, c9, rfl, HV5, hb5⟩
      have HB45 : Hid (Below w4.heap.size w4 w5) := hb5.out
      have HB35 : Hid (Below w3.heap.size w3 w5) := HB34.out.trans (hb5.out.mono HB34.out.size)
      have hs5 := HB45.out.size
      have HBUT5 : Hid (ButS S w3.heap.size w3 w5) := fun q hq _ => HB35.out.block q hq
      (try go_simp)
      refine hK.out _ _ ⟨⟨w5, HBUT5.out⟩, rfl⟩ ?_
      clear hK K
      (try simp only [Act.put, List.setIfInBounds_toArray, List.set_cons_zero, List.set_cons_succ])
      refine mix_loud (fuel := 5) (fuel' := 6) (i := 6) rfl (by kernel_rfl) rfl rfl (by rfl) ?_
      intro K hK
      go_simp
      refine (call w5 _ HB35.out HV5.out).mono ?_
      rintro e w6 ⟨rfl, HP6⟩
      have hk6 := HP6.out.1
      have hs6 := hk6.size
      have HKP : Hid (KeptS S w3 w6 ∧ ∃ vo' vc', HpIn (fun k => S k ∨ w5.heap.size ≤ k) w6 m OS h vo' vc') := ⟨(KeptS.of (S := S) HB35.out).trans hk6 fun q _ h => h, HP6.out.2⟩
      have HBUT6 : Hid (ButS S w3.heap.size w3 w6) := fun q hq hn => HKP.out.1.block q hq hn
      have HZ9 : Hid (w6.heap[w3.heap.size]? = some (.cells #[.int .i64 0, .int .i64 0, .string ⟨#[]⟩] 25 (0, 0))) := (hk6.block w3.heap.size (by omega) (hnS _ (by have := HW3w.out.size; omega))).trans ((HB45.out.block w3.heap.size (by omega)).trans HZ4.out)
      clear hk6
      (try go_simp)
      refine hK.out _ _ ⟨⟨w6, HBUT6.out⟩, rfl⟩ ?_
      clear hK K
      (try simp only [Act.put, List.setIfInBounds_toArray, List.set_cons_zero, List.set_cons_succ])
      refine mix_seg (fuel := 2) (fuel' := 5) (idx := [7, 8, 9]) (by kernel_rfl) rfl rfl rfl (fun _ _ _ _ _ h => h) ⟨⟨w6, HBUT6.out⟩, rfl⟩ ?_
      show wpQuiet _ _ _ _ [_, _, _] _
      iterate 3 (go_big_quiet_step (fail))
      refine wpQuiet_nil ?_
      obtain ⟨s0, s1, s2, sf⟩ := cellsH3 HZ9.out
      have sf0 := sf 0
      have sf1 := sf 1
      have sf2 := sf 2
      refine mix_loud (fuel := 1) (fuel' := 2) (i := 11) rfl (by kernel_rfl) rfl rfl (by rfl) ?_
      intro K hK
      go_simp
      have hbutE : ButS S w3.heap.size w3 (((w6.setCell ⟨w3.heap.size, 0, none⟩ (.int .i64 rk)).setCell ⟨w3.heap.size, 1, none⟩ (.int .i64 rn)).setCell ⟨w3.heap.size, 2, none⟩ (.string (strB rs))) := fun q hq hn => by
        rw [Below.heap_setCell _ _ _ _ (by simp only; omega), Below.heap_setCell _ _ _ _ (by simp only; omega), Below.heap_setCell _ _ _ _ (by simp only; omega)]
        exact HBUT6.out q hq hn
      refine hK.out _ _ ⟨⟨_, hbutE⟩, rfl⟩ ?_
      clear hK K
      refine mix_seg (fuel := 0) (fuel' := 1) (idx := [12]) (by kernel_rfl) rfl rfl rfl (fun _ _ _ _ _ h => h) ⟨⟨_, hbutE⟩, rfl⟩ ?_
      show wpQuiet _ _ _ _ [_] _
      iterate 1 (go_big_quiet_step (fail))
      refine wpQuiet_nil ?_
      refine mix_done (by kernel_rfl) ?_
      go_wp2_with fail
      go_meet
      refine ⟨w3.heap.size, rfl, rfl, by omega, setCellH_block _ (setCellH_block _ (setCellH_block _ HZ9.out)), (((HKP.out.1).set _ (fun h => by simp only at h; omega)).set _ (fun h => by simp only at h; omega)).set _ (fun h => by simp only at h; omega), ?_⟩
      obtain ⟨vo', vc', hp'⟩ := HKP.out.2
      have hp9 := hp'.kept (w' := (((w6.setCell ⟨w3.heap.size, 0, none⟩ (.int .i64 rk)).setCell ⟨w3.heap.size, 1, none⟩ (.int .i64 rn)).setCell ⟨w3.heap.size, 2, none⟩ (.string (strB rs)))) fun q hq _ => by
        have hne : q ≠ w3.heap.size := by
          rcases hq with h9 | h9
          · have := HLOW.out q (.inl h9); have := HW3w.out.size; omega
          · omega
        rw [Below.heap_setCell _ _ _ _ (by simpa using hne), Below.heap_setCell _ _ _ _ (by simpa using hne), Below.heap_setCell _ _ _ _ (by simpa using hne)]
      exact ⟨vo', vc', hp9.wide fun k _ hk => by rcases hk with hk | hk; exact .inl hk; right; omega⟩
  case rest =>
    obtain ⟨g9, rfl, rfl, hg9, hz9, hk9, vo9, vc9, hp9⟩ := hcut
    have hs9 := hk9.size
    have hg9l : g9 < wc.heap.size := (Array.getElem?_eq_some_iff.1 hz9).1
    obtain ⟨t0, t1, t2, -⟩ := cellsH3 hz9
    obtain ⟨y0, y1, -⟩ := cellsH2 ((hk9.block w2.heap.size (by omega) (hnS _ (by omega))).trans HX3.out)
    obtain ⟨u0, u1, u2, -⟩ := cellsH3 ((hk9.block (w2.heap.size + 1) (by omega) (hnS _ (by omega))).trans HY3.out)
    have br := (hk9.block (w.heap.size + 2) (by omega) (hnS _ (by omega))).trans ((HB13.out.block (w.heap.size + 2) (by omega)).trans HBR.out)
    obtain ⟨r0, r1, rf⟩ := cellsH2 br
    have rf0 := rf 0
    have rf1 := rf 1
    have x1 := butR_cell (R := w.heap.size + 2) (n := wc.heap.size) y0 (by simp only; omega) (by simp only; omega)
    have x2 := butR_cell (R := w.heap.size + 2) (n := wc.heap.size) y1 (by simp only; omega) (by simp only; omega)
    have x3 := butR_cell (R := w.heap.size + 2) (n := wc.heap.size) u0 (by simp only; omega) (by simp only; omega)
    have x4 := butR_cell (R := w.heap.size + 2) (n := wc.heap.size) u1 (by simp only; omega) (by simp only; omega)
    have x5 := butR_cell (R := w.heap.size + 2) (n := wc.heap.size) u2 (by simp only; omega) (by simp only; omega)
    have x6 := butR_cell (R := w.heap.size + 2) (n := wc.heap.size) t0 (by simp only; omega) (by simp only; omega)
    have x7 := butR_cell (R := w.heap.size + 2) (n := wc.heap.size) t1 (by simp only; omega) (by simp only; omega)
    have x8 := butR_cell (R := w.heap.size + 2) (n := wc.heap.size) t2 (by simp only; omega) (by simp only; omega)
    obtain ⟨z0, z1⟩ := set2H_cells br (.int .i64 M) (.slice b2 NL c2)
    have HBUT9 : Hid (ButR (w.heap.size + 2) wc.heap.size wc wc.drew) := fun _ _ _ => rfl
    have HEND : Hid (PlayP S T w m OS (.returned (.tuple #[.pointer (some ⟨h, 0, none⟩), rhV m (.slice b2 NL c2), .bool true])) (((wc.setCell ⟨w.heap.size + 2, 0, none⟩ (.int .i64 M)).setCell ⟨w.heap.size + 2, 1, none⟩ (.slice b2 NL c2)).drew)) := by
      have hkk : ∀ q, q ≠ w.heap.size + 2 → (((wc.setCell ⟨w.heap.size + 2, 0, none⟩ (.int .i64 M)).setCell ⟨w.heap.size + 2, 1, none⟩ (.slice b2 NL c2)).drew).heap[q]? = wc.heap[q]? := fun q hq => by
        show ((wc.setCell ⟨w.heap.size + 2, 0, none⟩ (.int .i64 M)).setCell ⟨w.heap.size + 2, 1, none⟩ (.slice b2 NL c2)).heap[q]? = _
        rw [Below.heap_setCell _ _ _ _ (by simpa using hq), Below.heap_setCell _ _ _ _ (by simpa using hq)]
      have hsz : (((wc.setCell ⟨w.heap.size + 2, 0, none⟩ (.int .i64 M)).setCell ⟨w.heap.size + 2, 1, none⟩ (.slice b2 NL c2)).drew).heap.size = wc.heap.size := by
        show ((wc.setCell ⟨w.heap.size + 2, 0, none⟩ (.int .i64 M)).setCell ⟨w.heap.size + 2, 1, none⟩ (.slice b2 NL c2)).heap.size = _
        simp
      have hks : KeptS S w (((wc.setCell ⟨w.heap.size + 2, 0, none⟩ (.int .i64 M)).setCell ⟨w.heap.size + 2, 1, none⟩ (.slice b2 NL c2)).drew) := by
        have := (((KeptS.of (S := S) HW3w.out).trans hk9 fun q _ h => h).set (p := ⟨w.heap.size + 2, 0, none⟩) (.int .i64 M) (fun h => by simp only at h; omega)).set (p := ⟨w.heap.size + 2, 1, none⟩) (.slice b2 NL c2) (fun h => by simp only at h; omega)
        exact ⟨this.os, this.tape, this.output, this.size, this.block⟩
      refine ⟨h, _, rfl, hks, fun k => S k ∨ (w3.heap.size ≤ k ∧ k < wc.heap.size), fun q => (T q ∨ w1.heap.size ≤ q) ∧ q < w3.heap.size, vo9, vc9, ⟨?_, ?_, HF2.out, ?_, ?_⟩, fun q hq => ?_, fun q hq => by rcases hq.1 with h9 | h9; exact .inl h9; right; omega⟩
      · refine (hp9.low.wide (S' := fun k => S k ∨ (w3.heap.size ≤ k ∧ k < wc.heap.size)) fun k _ hk => ?_).kept fun q hq _ => hkk q ?_
        · rcases hk.1 with h8 | h8
          · exact .inl h8
          · exact .inr ⟨h8, hk.2⟩
        · rcases hq with h8 | h8
          · have := HLOW.out q (.inl h8); omega
          · omega
      · refine ((HO3.out.wide (S' := fun q => (T q ∨ w1.heap.size ≤ q) ∧ q < w3.heap.size) fun q hq h => ⟨h, hq⟩).kept (w' := wc) hs9 fun q hq hlt => hk9.block q hlt (fun h8 => ?_)).kept (by rw [hsz]; exact Nat.le_refl _) fun q hq _ => hkk q ?_
        · have := HLOW.out q (.inl h8)
          rcases hq.1 with h7 | h7
          · exact HAP.out q h8 h7
          · omega
        · rcases hq.1 with h7 | h7
          · have := HLOW.out q (.inr h7); omega
          · omega
      · intro q hq
        rw [hsz]
        rcases hq with h8 | h8
        · rcases h8 with h8 | h8
          · have := HLOW.out q (.inl h8); have := HW3w.out.size; omega
          · exact h8.2
        · have := h8.2; omega
      · intro q hq h8
        rcases hq with h7 | h7
        · have := HLOW.out q (.inl h7)
          rcases h8.1 with h6 | h6
          · exact HAP.out q h7 h6
          · omega
        · have := h8.2; omega
      · rcases hq with h8 | h8
        · exact .inl h8
        · right; have := HW3w.out.size; omega
    clear t0 t1 t2 y0 y1 u0 u1 u2 br rf cown call
    go_upto_region 23 with fail
    refine mix_begin (n := 13) (S := fun w' => ∃ c : ClsP (ButR (w.heap.size + 2) wc.heap.size wc), w' = c.1) (by kernel_rfl) rfl rfl ?_
    refine mix_seg (fuel := 2) (fuel' := 13) (idx := [0, 1, 2, 3, 4, 5, 6, 7, 8, 9, 10]) (by kernel_rfl) rfl rfl rfl (fun _ _ _ _ _ h => h) ⟨⟨wc.drew, HBUT9.out⟩, rfl⟩ ?_
    show wpQuiet _ _ _ _ [_, _, _, _, _, _, _, _, _, _, _] _
    iterate 11 (go_big_quiet_step (fail))
    refine wpQuiet_nil ?_
    refine mix_loud (fuel := 1) (fuel' := 2) (i := 11) rfl (by kernel_rfl) rfl rfl (by rfl) ?_
    intro K hK
    go_simp
    refine hK.out _ _ ⟨⟨_, (HBUT9.out.set 0 _).set 1 _⟩, rfl⟩ ?_
    clear hK K
    refine mix_seg (fuel := 0) (fuel' := 1) (idx := [12]) (by kernel_rfl) rfl rfl rfl (fun _ _ _ _ _ h => h) ⟨⟨_, (HBUT9.out.set 0 _).set 1 _⟩, rfl⟩ ?_
    show wpQuiet _ _ _ _ [_] _
    iterate 1 (go_big_quiet_step (fail))
    refine wpQuiet_nil ?_
    refine mix_done (by kernel_rfl) ?_
    go_wp2
    exact bodyPost_ret (v := .tuple #[.pointer (some ⟨h, 0, none⟩), .agg #[.int .i64 M, .slice b2 NL c2], .bool true]) (by simp [results, Tryz.results7, go_sem, z0, z1]) rfl (by rw [show Value.agg #[.int .i64 M, .slice b2 NL c2] = rhV m (.slice b2 NL c2) by rw [HM.out]]; exact HEND.out)
end Go.Proofs.YtchpmnmngeebjaaGreatDoor
/- HeapPlays: any step. -/
namespace Go.Proofs.YtchpmnmngeebjaaGreatDoor
open Go.RowKit Go.Shelf

/-- The objects behind a step. -/
def stpR6 (m : Nat) (os : List Ob) (a : Ac) : List Ob :=
  if a.kind = 1 then setR os a.v a.i a.x else if a.kind = 2 ∨ a.kind = 3 ∨ a.kind = 4 then os else (allocR m os (a.tag, a.cells)).2.2

theorem HpIn.lens {S : Nat → Prop} {w : World} {most : Nat} {os : List Ob} {h : Nat} {vo vc : Value} (H : HpIn S w most os h vo vc) : ∀ o ∈ os, o.2.length ≤ 4096 := fun o ho => by
  obtain ⟨q, hq, rfl⟩ := List.getElem_of_mem ho
  have h1 := (allV_cut os q hq).1
  have := H.use
  have := H.may
  omega

theorem step06_any (S T U : Nat → Prop) (B m : Nat) (os : List Ob) (h : Nat) (vo vc vL : Value) (a : Ac) (u : Value) (w : World) (H : PlayIn S T w m os h vo vc vL) (hs : smallA a) (hu : valsIn U w u a.cells) (hUS : ∀ q, U q → ¬ S q) (huf : u = .slice none 0 0 ∨ ∃ ad n c, u = .slice (some ad) n c) (hSB : ∀ q, S q → B ≤ q) (hBw : B ≤ w.heap.size) (htB : ∀ W, Below B w W → TabsP W) :
    Calls Tryz.prog 7 #[.pointer (some ⟨h, 0, none⟩), rhV m vL, acV a u] w (PlayP S T w m (stpR6 m os a)) := by
  obtain ⟨hso, hcl, hv, hx, -⟩ := hs
  have hol : ∀ o ∈ os, o.2.length ≤ 1048576 := fun o ho => by have := H.hp.lens o ho; omega
  have ht : TabsP w := htB w (Below.refl _ _)
  by_cases h1 : a.kind = 1
  · rw [show stpR6 m os a = setR os a.v a.i a.x by unfold stpR6; rw [if_pos h1]]
    exact step_set S T m os h vo vc vL a u w H h1 hv hx hol ht
  by_cases h2 : a.kind = 2
  · rw [show stpR6 m os a = os by unfold stpR6; rw [if_neg h1, if_pos (.inl h2)]]
    exact step_get S T m os h vo vc vL a u w H h2 hv hol ht
  by_cases h3 : a.kind = 3
  · rw [show stpR6 m os a = os by unfold stpR6; rw [if_neg h1, if_pos (.inr (.inl h3))]]
    exact step_copy S T m os h vo vc vL a u w H h3 B hSB hBw htB hol
  by_cases h4 : a.kind = 4
  · rw [show stpR6 m os a = os by unfold stpR6; rw [if_neg h1, if_pos (.inr (.inr h4))]]
    exact step_load S T m os h vo vc vL a u w H h4 hol ht
  rw [show stpR6 m os a = (allocR m os (a.tag, a.cells)).2.2 by unfold stpR6; rw [if_neg h1, if_neg (by rintro (h | h | h); exact h2 h; exact h3 h; exact h4 h)]]
  exact step_alloc S T m os h vo vc vL a u w H h1 h2 h3 h4 U hu hUS huf hso hcl hol ht

/-- Between two rounds of HeapPlays: the heaps are alike; the variables' blocks (V the value's, X the document's heap's) stand by themselves. -/
structure RoundIn (w0 wr : World) (V X m : Nat) (M : Int) (x : Vl) (S T : Nat → Prop) (os : List Ob) (h : Nat) (vo vc vL : Value) : Prop where
  play : PlayIn S T wr m os h vo vc vL
  box : wr.heap[X]? = some (.cells #[.int .i64 M, vL] 30 (0, 0))
  val : wr.heap[V]? = some (.cells #[.int .i64 x.k, .int .i64 x.n, .string (strB x.s)] 25 (0, 0))
  own : ∀ q, S q → w0.heap.size ≤ q
  offX : ∀ q, S q ∨ T q → q ≠ X
  offV : ∀ q, S q ∨ T q → q ≠ V
  below : Below w0.heap.size w0 wr

def RoundAt (w0 : World) (V X m : Nat) (M : Int) (x : Vl) (os : List Ob) (h : Nat) (wr : World) : Prop := ∃ S T vo vc vL, RoundIn w0 wr V X m M x S T os h vo vc vL
end Go.Proofs.YtchpmnmngeebjaaGreatDoor
