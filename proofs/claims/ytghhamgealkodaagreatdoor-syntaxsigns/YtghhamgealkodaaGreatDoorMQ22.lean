import Derived.Test.YtghhamgealkodaaGreatDoorMQ14
import Derived.Test.YtghhamgealkodaaGreatDoorMQ21
import Derived.Test.YtghhamgealkodaaGreatDoorMQ4
import Derived.Test.YtghhamgealkodaaGreatDoorMQ9
import Derived.Test.YtghhamgealkodaaGreatDoorMQ10
/- syntax: a text is read as an expression. -/
namespace Go.Proofs.YtghhamgealkodaaGreatDoor
open Go.RowKit Go.Shelf

/-- No expression. -/
abbrev noEx : Ex := .mk 0 [] 0 [] 0

/-- A text is this expression; or none, for its reason, at its byte. -/
def IsExpr (l : List UInt8) (x : Ex) (at0 err : Nat) : Prop :=
  if (scanB l).2.2 ≠ 0 then x = noEx ∧ at0 = (scanB l).2.1 ∧ err = (scanB l).2.2 else
  ∃ f res, pBetween f 1 (scanB l).1 = some res ∧ match wholeR res with
    | .error a => x = noEx ∧ at0 = a ∧ err = 6
    | .ok y => if 24 < depthE y then x = noEx ∧ at0 = 0 ∧ err = 7 else x = y ∧ at0 = 0 ∧ err = 0

theorem scanS_len (l : List UInt8) : ∀ (f line a : Nat), (scanS l f line a).1.length ≤ f
  | 0, _, _ => by simp [scanS]
  | f + 1, line, a => by
    have ih := scanS_len l f (lineT l line a) (placeT l a + (nextT l a).sz)
    rw [scanS]
    split
    · simp
    · split
      · simp
      · split
        · simp
        · simp only [List.length_cons]; omega
theorem scanB_len (l : List UInt8) : (scanB l).1.length ≤ 4097 := by
  unfold scanB
  split
  · simp
  · have := scanS_len l (l.length + 1) 1 0
    omega

theorem row_all {w : World} {B e sz n : Nat} {v : Value} {xs : List Value} (h : w.ownsRow B e sz v n xs) (hn : 1 ≤ n) : ∃ g cap, v = .slice (some ⟨g, 0, none⟩) n cap ∧ B ≤ g ∧ g < w.heap.size ∧ n ≤ cap ∧ cap ≤ maxLen ∧ ∀ j u, xs[j]? = some u → w.cell? ⟨g, j, none⟩ = some u := by
  obtain ⟨g, cap, rfl, h1, h2, h3, h4⟩ := row_cells h hn
  refine ⟨g, cap, rfl, h1, h2, h3, ?_, h4⟩
  rcases h.2 with ⟨hv, _⟩ | ⟨g', cap', cur, hv, _, _, _, hm, _⟩
  · cases hv
  · cases hv; exact hm

/-- The worlds in which the reader is made. -/
abbrev rdW (w : World) (v : Value) : World := (w.alloc (.cells #[v] 109)).alloc (.cells #[.pointer (some ⟨w.heap.size, 0, none⟩)] 62)

set_option maxRecDepth 100000 in
/-- What attempt is given to do. -/
theorem readTry (ts : List Tk) (g cap B0 B2 f : Nat) (w0 w2 : World) (res : PR Ex) (hE : EndsT ts) (hlen : ts.length ≤ 4097) (hp : pBetween f 1 ts = some res) (hgl : g < w2.heap.size) (hcap : ts.length ≤ cap) (hmax : cap ≤ maxLen) (hcell : ∀ j u, (tkCells ts)[j]? = some u → w2.cell? ⟨g, j, none⟩ = some u)
    (hb : Below w0.heap.size w0 w2) (hl : LevT w0) (he : ErrT w0) (hB0 : w0.heap.size ≤ B0) (hB2 : w0.heap.size ≤ B2) (hB2g : B2 ≠ g)
    (b0 : w2.heap[B0]? = some (.cells #[.func (.func 37) #[] #[]] 86 (0, 0))) (b2 : w2.heap[B2]? = some exZ) :
    Calls Tryz.prog 57 #[.func (.func 76) #[] #[.pointer (some ⟨B0, 0, none⟩), .pointer (some ⟨w2.heap.size + 1, 0, none⟩), .pointer (some ⟨B2, 0, none⟩)]] (rdW w2 (.slice (some ⟨g, 0, none⟩) ts.length cap)) fun e w' =>
      ∃ w5, Below (w2.heap.size + 1 + 1) w5 w' ∧ Kept2 w2.heap.size B2 w2 w5 ∧ match wholeR res with
        | .error a => e = .returned (.tuple #[.int .i64 a, .int .i64 6])
        | .ok x => e = .returned (.tuple #[.int .i64 0, .int .i64 0]) ∧ ∃ (a : Int) (b : ByteArray) (c : Int) (d0 : Option Addr) (d1 d2 : Nat) (l : Int), w5.heap[B2]? = some (.cells #[.int .i64 a, .string b, .int .i64 c, .slice d0 d1 d2, .int .i64 l] 40 (0, 0)) ∧ ExAt (w2.heap.size + 1 + 1) w' x (.agg #[.int .i64 a, .string b, .int .i64 c, .slice d0 d1 d2, .int .i64 l]) := by
  obtain ⟨t0, ts0, rfl⟩ := hE.cons
  have hs : w0.heap.size ≤ w2.heap.size := hb.size
  have hlb : 1 < w0.heap.size := World.block_lt_of_cell? w0 _ (hl 0 _ rfl)
  have heb : 0 < w0.heap.size := World.block_lt_of_cell? w0 _ he
  have hB0l : B0 < w2.heap.size := (Array.getElem?_eq_some_iff.1 b0).1
  have hB2l : B2 < w2.heap.size := (Array.getElem?_eq_some_iff.1 b2).1
  obtain ⟨w3, hw3⟩ : ∃ w3, w3 = rdW w2 (.slice (some ⟨g, 0, none⟩) (t0 :: ts0).length cap) := ⟨_, rfl⟩
  have hs3 : w3.heap.size = w2.heap.size + 1 + 1 := by rw [hw3]; simp
  obtain ⟨W, hW⟩ : ∃ W, W = attW w3 := ⟨_, rfl⟩
  have hsW : W.heap.size = w2.heap.size + 1 + 1 + 1 + 1 := by rw [hW]; simp [hs3]
  have h3W : ∀ k, k < w3.heap.size → W.heap[k]? = w3.heap[k]? := fun k hk => by rw [hW, Below.heap_alloc _ _ _ (by simp; omega), Below.heap_alloc _ _ _ hk]
  have h23 : ∀ k, k < w2.heap.size → w3.heap[k]? = w2.heap[k]? := fun k hk => by rw [hw3, Below.heap_alloc _ _ _ (by simp; omega), Below.heap_alloc _ _ _ hk]
  have h2W : ∀ k, k < w2.heap.size → W.heap[k]? = w2.heap[k]? := fun k hk => (h3W k (by omega)).trans (h23 k hk)
  have pr : W.heap[w2.heap.size]? = some (.cells #[.slice (some ⟨g, 0, none⟩) (t0 :: ts0).length cap] 109 (0, 0)) := by
    rw [h3W _ (by omega), hw3, Below.heap_alloc _ _ _ (by simp)]; exact World.alloc_heap_new _ _
  have p1 : W.heap[w2.heap.size + 1]? = some (.cells #[.pointer (some ⟨w2.heap.size, 0, none⟩)] 62 (0, 0)) := by
    rw [h3W _ (by omega), hw3]
    have := World.alloc_heap_new (w2.alloc (.cells #[.slice (some ⟨g, 0, none⟩) (t0 :: ts0).length cap] 109)) (.cells #[.pointer (some ⟨w2.heap.size, 0, none⟩)] 62)
    simpa using this
  have pa : W.heap[w3.heap.size]? = some (.cells #[.int .i64 0] 3 (0, 0)) := by
    rw [hW, Below.heap_alloc _ _ _ (by simp)]; exact World.alloc_heap_new _ _
  have pb : W.heap[w3.heap.size + 1]? = some (.cells #[.int .i64 0] 26 (0, 0)) := by
    rw [hW]
    have := World.alloc_heap_new (w3.alloc (.cells #[.int .i64 0] 3)) (.cells #[.int .i64 0] 26)
    simpa using this
  have hRd : RdAt w2.heap.size g 0 cap (t0 :: ts0) W :=
    { cell := by simp only [World.cell?, pr]; rfl
      soft := by simp only [World.frozen?, pr]; simp
      hcap := hcap
      hmax := hmax
      other := by omega
      toks := fun j u hj => by rw [Nat.zero_add, World.cell?_of_block (h2W g hgl)]; exact hcell j u hj
      few := by omega }
  have hLev : LevT W := fun j v hj => by
    rw [World.cell?_of_block ((h2W 1 (by omega)).trans (hb.block _ hlb))]; exact hl j v hj
  have hdo := readDo w2.heap.size g 0 cap B0 (w2.heap.size + 1) B2 f _ _ (t0 :: ts0) W res hRd hE hLev (by omega) hp ((h2W _ hB0l).trans b0) p1 ((h2W _ hB2l).trans b2) (by omega) (by omega) hB2g (by omega)
  rw [← hw3]
  refine (attempt_keeps 76 #[.pointer (some ⟨B0, 0, none⟩), .pointer (some ⟨w2.heap.size + 1, 0, none⟩), .pointer (some ⟨B2, 0, none⟩)] w3 (fun w' => PostW w2.heap.size B2 W (wholeR res) (.returned (.tuple #[])) w') (fun why at0 w' => why = 6 ∧ ∃ a : Nat, at0 = (a : Int) ∧ wholeR res = .error a ∧ Kept2 w2.heap.size B2 W w') (fun _ => rfl) ?_).mono ?_
  · rw [← hW]
    refine hdo.mono fun e w' hP => ⟨(hP.1.block _ (by omega) (by omega) (by omega)).trans pa, (hP.1.block _ (by omega) (by omega) (by omega)).trans pb, ?_, ?_⟩
    · unfold ErrT
      rw [World.cell?_of_block ((hP.1.block 0 (by omega) (by omega) (by omega)).trans ((h2W 0 (by omega)).trans (hb.block _ heb)))]; exact he
    · have hP2 := hP
      unfold PostW at hP
      cases hR : wholeR res with
      | error a => rw [hR] at hP; exact .inr ⟨6, a, hP.2, rfl, a, rfl, rfl, hP.1⟩
      | ok x => rw [hR] at hP hP2; have := hP.2.1; subst this; exact .inl ⟨rfl, hP2⟩
  · have hK2 : ∀ w', Kept2 w2.heap.size B2 W w' → Kept2 w2.heap.size B2 w2 w' := fun w' h => ⟨by rw [h.os, hW, hw3]; rfl, by rw [h.tape, hW, hw3]; rfl, by rw [h.output, hW, hw3]; rfl, by have := h.size; omega, fun k hk hr hb' => (h.block k (by omega) hr hb').trans (h2W k hk)⟩
    rintro e w' (⟨w5, rfl, hP, hB, hkp⟩ | ⟨why, at0, w5, rfl, ⟨rfl, a, rfl, hR, hK⟩, hB⟩)
    · rw [hs3] at hB
      refine ⟨w5, hB, hK2 _ hP.1, ?_⟩
      unfold PostW at hP
      cases hR : wholeR res with
      | error a => rw [hR] at hP; exact absurd hP.2 (by simp [gaveUp])
      | ok x =>
        rw [hR] at hP
        obtain ⟨-, -, a, b, c, d0, d1, d2, l, h1, h2⟩ := hP
        exact ⟨rfl, a, b, c, d0, d1, d2, l, h1, ExAt.mono (ExAt.kept h2 hB.size fun k hk _ => hkp k (by omega) (by omega)) (by omega)⟩
    · rw [hs3] at hB
      refine ⟨w5, hB, hK2 _ hK, ?_⟩
      rw [hR]

set_option maxRecDepth 100000 in
set_option maxHeartbeats 4000000 in
theorem readX (l : List UInt8) (w : World) (ht : Tabs w) (hl : LevT w) (he : ErrT w) :
    Calls Tryz.prog 36 #[.string (strB l), .func (.func 37) #[] #[], .func (.func 38) #[] #[]] w fun e w' =>
      ∃ (x : Ex) (at0 err : Nat) (v : Value), e = .returned (.tuple #[v, .int .i64 at0, .int .i64 err]) ∧ IsExpr l x at0 err ∧ ExAt w.heap.size w' x v ∧ Below w.heap.size w w' := by
  obtain ⟨w1, hw1⟩ : ∃ w1, w1 = (((w.alloc (.cells #[.func (.func 37) #[] #[]] 86)).alloc exZ).alloc exZ).alloc exZ := ⟨_, rfl⟩
  have hs1 : w1.heap.size = w.heap.size + 1 + 1 + 1 + 1 := by rw [hw1]; simp
  have hb1 : Below w.heap.size w w1 := by
    rw [hw1]
    exact ((((Below.refl w.heap.size w).alloc (Nat.le_refl _) _).alloc (by simp) _).alloc (by simp <;> omega) _).alloc (by simp <;> omega) _
  have m0 : w1.heap[w.heap.size]? = some (.cells #[.func (.func 37) #[] #[]] 86 (0, 0)) := by
    rw [hw1, Below.heap_alloc _ _ _ (by simp <;> omega), Below.heap_alloc _ _ _ (by simp <;> omega), Below.heap_alloc _ _ _ (by simp)]; exact World.alloc_heap_new _ _
  have m1 : w1.heap[w.heap.size + 1]? = some exZ := by
    rw [hw1, Below.heap_alloc _ _ _ (by simp <;> omega), Below.heap_alloc _ _ _ (by simp)]
    have := World.alloc_heap_new (w.alloc (.cells #[.func (.func 37) #[] #[]] 86)) exZ
    simpa using this
  have m2 : w1.heap[w.heap.size + 1 + 1]? = some exZ := by
    rw [hw1, Below.heap_alloc _ _ _ (by simp)]
    have := World.alloc_heap_new ((w.alloc (.cells #[.func (.func 37) #[] #[]] 86)).alloc exZ) exZ
    simpa using this
  have m3 : w1.heap[w.heap.size + 1 + 1 + 1]? = some exZ := by
    rw [hw1]
    have := World.alloc_heap_new (((w.alloc (.cells #[.func (.func 37) #[] #[]] 86)).alloc exZ).alloc exZ) exZ
    simpa using this
  have cs := scan_any l w1 (ht.below hb1 (Nat.le_refl _))
  have HW1 : Hid (w1 = (((w.alloc (.cells #[.func (.func 37) #[] #[]] 86)).alloc exZ).alloc exZ).alloc exZ) := hw1
  have HB1 : Hid (Below w.heap.size w w1) := hb1
  have HL : Hid (LevT w) := hl
  have HE : Hid (ErrT w) := he
  have HM : Hid (w1.heap[w.heap.size]? = some (.cells #[.func (.func 37) #[] #[]] 86 (0, 0)) ∧ w1.heap[w.heap.size + 1]? = some exZ ∧ w1.heap[w.heap.size + 1 + 1]? = some exZ ∧ w1.heap[w.heap.size + 1 + 1 + 1]? = some exZ) := ⟨m0, m1, m2, m3⟩
  clear hw1 hb1 hl he m0 m1 m2 m3 ht
  go_enter Tryz.func36, Tryz.ntmps36
  go_wp2_with fail
  rw [← HW1.out]
  refine cs.mono ?_
  clear cs HW1
  rintro e w2 ⟨v, rfl, hown, hb2⟩
  have hblk : ∀ k, k < w1.heap.size → w2.heap[k]? = w1.heap[k]? := fun k hk => hb2.block k hk
  have p0 := (hblk _ (by omega)).trans HM.out.1
  have p1 := (hblk _ (by omega)).trans HM.out.2.1
  have p2 := (hblk _ (by omega)).trans HM.out.2.2.1
  have p3 := (hblk _ (by omega)).trans HM.out.2.2.2
  have hb02 : Below w.heap.size w w2 := HB1.out.trans (hb2.mono (by omega))
  have HB2 : Hid (Below w.heap.size w w2) := hb02
  obtain ⟨a0, a1, a2, a3, a4, af⟩ := cells5 p1
  obtain ⟨c0, c1, c2, c3, c4, -⟩ := cells5 p2
  have hs2 := hb2.size
  by_cases herr : (scanB l).2.2 ≠ 0
  · have HI : Hid (IsExpr l noEx (scanB l).2.1 (scanB l).2.2) := show IsExpr _ _ _ _ by unfold IsExpr; rw [if_pos herr]; exact ⟨rfl, rfl, rfl⟩
    have herr' : ¬((scanB l).2.2 : Int) = 0 := by omega
    generalize (scanB l).2.1 = A at *
    generalize (scanB l).2.2 = E at *
    have h1 : ((E : Int) == 0) = false := by rw [beq_eq_false_iff_ne]; exact herr'
    have h2 : ((E : Int) != 0) = true := by simp [bne, h1]
    have h3 : decide ((E : Int) = 0) = false := by rw [decide_eq_false_iff_not]; exact herr'
    have h4 : (E == 0) = false := by rw [beq_eq_false_iff_ne]; exact herr
    have h5 : decide (E = 0) = false := by rw [decide_eq_false_iff_not]; exact herr
    have h6 : (E != 0) = true := by simp [bne, h4]
    obtain ⟨z0, z1, z2, z3, z4⟩ := set5_cells p1 (.int .i64 0) (.string ⟨#[]⟩) (.int .i64 0) (.slice none 0 0) (.int .i64 0)
    have hb3 : Below w.heap.size w (set5 w2 (w.heap.size + 1) (.int .i64 0) (.string ⟨#[]⟩) (.int .i64 0) (.slice none 0 0) (.int .i64 0)) :=
      ((((hb02.setCell (p := ⟨w.heap.size + 1, 0, none⟩) (by simp) _).setCell (p := ⟨w.heap.size + 1, 1, none⟩) (by simp) _).setCell (p := ⟨w.heap.size + 1, 2, none⟩) (by simp) _).setCell (p := ⟨w.heap.size + 1, 3, none⟩) (by simp) _).setCell (p := ⟨w.heap.size + 1, 4, none⟩) (by simp) _
    have HB3 : Hid (Below w.heap.size w (set5 w2 (w.heap.size + 1) (.int .i64 0) (.string ⟨#[]⟩) (.int .i64 0) (.slice none 0 0) (.int .i64 0))) := hb3
    clear hb3 hb02 hb2 hown hblk p0 p1 p2 p3 HM HB2 HL HE HB1
    go_wp2
    refine bodyPost_ret (v := .tuple #[.agg #[.int .i64 0, .string ⟨#[]⟩, .int .i64 0, .slice none 0 0, .int .i64 0], .int .i64 A, .int .i64 E]) (by simp [results, Tryz.results36, go_sem, z0, z1, z2, z3, z4]) rfl ⟨noEx, A, E, _, rfl, HI.out, .leaf 0 [] 0 0, HB3.out⟩
  · have herr0 : (scanB l).2.2 = 0 := by simpa using herr
    have hE := scanB_ends l herr0
    obtain ⟨t0, ts0, hts⟩ := hE.cons
    obtain ⟨g, cap, rfl, hg, hgl, hcap, hmax, hcell⟩ : ∃ g cap, v = .slice (some ⟨g, 0, none⟩) (scanB l).1.length cap ∧ w1.heap.size ≤ g ∧ g < w2.heap.size ∧ (scanB l).1.length ≤ cap ∧ cap ≤ maxLen ∧ ∀ j u, (tkCells (scanB l).1)[j]? = some u → w2.cell? ⟨g, j, none⟩ = some u := row_all hown (by rw [hts]; simp)
    have hlen := scanB_len l
    obtain ⟨f, res, hf, -⟩ := (parse_total (scanB l).1.length (scanB l).1 (Nat.le_refl _)).1 1
    have hp : pBetween f 1 (scanB l).1 = some res := hf 0
    have ca := readTry (scanB l).1 g cap w.heap.size (w.heap.size + 1 + 1 + 1) f w w2 res hE hlen hp hgl hcap hmax hcell hb02 HL.out HE.out (Nat.le_refl _) (by omega) (by omega) p0 p3
    have hmf : ∀ (fn : Fn) (first cap : Array Value) (w : World), (Instr.makeFunc fn first cap).run Tryz.prog w = .ok (.func fn first cap) w := fun _ _ _ _ => rfl
    have hdep : ∀ x us, res = .ok (x, us) → depthE x ≤ 4097 := fun x us h => by
      subst h
      have := (parse_depth f).1 _ _ _ _ hp
      omega
    have HI : Hid (∀ x at0 err, (match wholeR res with | .error a => x = noEx ∧ at0 = a ∧ err = 6 | .ok y => if 24 < depthE y then x = noEx ∧ at0 = 0 ∧ err = 7 else x = y ∧ at0 = 0 ∧ err = 0) → IsExpr l x at0 err) := fun x at0 err h => by
      unfold IsExpr
      rw [if_neg herr]
      exact ⟨f, res, hp, h⟩
    have HB2b : Hid (∀ k, k ≤ w.heap.size + 1 + 1 → ∀ w5 w6, Below (w2.heap.size + 1 + 1) w5 w6 → Kept2 w2.heap.size (w.heap.size + 1 + 1 + 1) w2 w5 → w6.heap[k]? = w2.heap[k]?) := fun k hk w5 w6 h5 h6 =>
      (h5.block k (by omega)).trans (h6.block k (by omega) (by omega) (by omega))
    have HBW : Hid (∀ w5 w6, Below (w2.heap.size + 1 + 1) w5 w6 → Kept2 w2.heap.size (w.heap.size + 1 + 1 + 1) w2 w5 → Below w.heap.size w w6) := fun w5 w6 h5 h6 =>
      ⟨h5.os.trans (h6.os.trans hb02.os), h5.tape.trans (h6.tape.trans hb02.tape), h5.output.trans (h6.output.trans hb02.output), by have := h5.size; have := h6.size; have := hb02.size; omega, fun k hk => (h5.block k (by omega)).trans ((h6.block k (by omega) (by omega) (by omega)).trans (hb02.block k hk))⟩
    have HP1 : Hid (w2.heap[w.heap.size + 1]? = some exZ ∧ w2.heap[w.heap.size + 1 + 1]? = some exZ) := ⟨p1, p2⟩
    rw [herr0]
    generalize (scanB l).2.1 = A at *
    clear hb02 hb2 hown hblk p0 p1 p2 p3 HM HB2 HL HE HB1 hcell hp hf hE hts a0 a1 a2 a3 a4 af c0 c1 c2 c3 c4
    go_wp2_with fail
    refine ca.mono ?_
    clear ca
    rintro e w6 ⟨w5, hb5, hk5, hpost⟩
    have q1 := (HB2b.out (w.heap.size + 1) (by omega) w5 w6 hb5 hk5).trans HP1.out.1
    have q2 := (HB2b.out (w.heap.size + 1 + 1) (by omega) w5 w6 hb5 hk5).trans HP1.out.2
    have hbw6 := HBW.out w5 w6 hb5 hk5
    obtain ⟨a0, a1, a2, a3, a4, af⟩ := cells5 q1
    obtain ⟨c0, c1, c2, c3, c4, -⟩ := cells5 q2
    have hset : ∀ W, Below w.heap.size w W → ∀ v0 v1 v2 v3 v4, Below w.heap.size w (set5 W (w.heap.size + 1) v0 v1 v2 v3 v4) := fun W hW v0 v1 v2 v3 v4 =>
      ((((hW.setCell (p := ⟨w.heap.size + 1, 0, none⟩) (by simp) _).setCell (p := ⟨w.heap.size + 1, 1, none⟩) (by simp) _).setCell (p := ⟨w.heap.size + 1, 2, none⟩) (by simp) _).setCell (p := ⟨w.heap.size + 1, 3, none⟩) (by simp) _).setCell (p := ⟨w.heap.size + 1, 4, none⟩) (by simp) _
    cases hR : wholeR res with
    | error a =>
      rw [hR] at hpost
      obtain rfl := hpost
      have HI2 : Hid (IsExpr l noEx a 6) := HI.out noEx a 6 (by rw [hR]; exact ⟨rfl, rfl, rfl⟩)
      obtain ⟨z0, z1, z2, z3, z4⟩ := set5_cells q1 (.int .i64 0) (.string ⟨#[]⟩) (.int .i64 0) (.slice none 0 0) (.int .i64 0)
      have HB3 : Hid (Below w.heap.size w (set5 w6 (w.heap.size + 1) (.int .i64 0) (.string ⟨#[]⟩) (.int .i64 0) (.slice none 0 0) (.int .i64 0))) := hset w6 hbw6 _ _ _ _ _
      clear hset hbw6 q1 q2 hb5 hk5 HI HB2b HBW HP1
      go_wp2
      refine bodyPost_ret (v := .tuple #[.agg #[.int .i64 0, .string ⟨#[]⟩, .int .i64 0, .slice none 0 0, .int .i64 0], .int .i64 a, .int .i64 6]) (by simp [results, Tryz.results36, go_sem, z0, z1, z2, z3, z4]) rfl ⟨noEx, a, 6, _, rfl, HI2.out, .leaf 0 [] 0 0, HB3.out⟩
    | ok x =>
      rw [hR] at hpost
      obtain ⟨rfl, xa, xb, xc, x0, x1, x2, xl, hbx, hx⟩ := hpost
      have hxd : depthE x ≤ 4097 := by
        rcases res with a | ⟨y, us⟩
        · cases hR
        · unfold wholeR at hR
          simp only at hR
          split at hR
          · cases hR; exact hdep _ us rfl
          · cases hR
      have hs6 := hb5.size
      have hs5 := hk5.size
      have qx := (hb5.block (w.heap.size + 1 + 1 + 1) (by omega)).trans hbx
      obtain ⟨e0, e1, e2, e3, e4, -⟩ := cells5 qx
      have cd := exprDepth_any (fun k => w2.heap.size + 1 + 1 ≤ k) (depthE x) w6 x _ w6 (Nat.le_refl _) (by omega) (Below.refl _ _) hx
      have HX : Hid (ExAt (w2.heap.size + 1 + 1) w6 x (.agg #[.int .i64 xa, .string xb, .int .i64 xc, .slice x0 x1 x2, .int .i64 xl])) := hx
      have HQ : Hid (w6.heap[w.heap.size + 1]? = some exZ ∧ w6.heap[w.heap.size + 1 + 1]? = some exZ ∧ w6.heap[w.heap.size + 1 + 1 + 1]? = some (.cells #[.int .i64 xa, .string xb, .int .i64 xc, .slice x0 x1 x2, .int .i64 xl] 40 (0, 0))) := ⟨q1, q2, qx⟩
      have HB6 : Hid (Below w.heap.size w w6) := hbw6
      have HS : Hid (∀ W, Below w.heap.size w W → ∀ v0 v1 v2 v3 v4, Below w.heap.size w (set5 W (w.heap.size + 1) v0 v1 v2 v3 v4)) := hset
      have HI2 : Hid (∀ y at0 err, (if 24 < depthE x then y = noEx ∧ at0 = 0 ∧ err = 7 else y = x ∧ at0 = 0 ∧ err = 0) → IsExpr l y at0 err) := fun y at0 err h => HI.out y at0 err (by rw [hR]; exact h)
      generalize hD : depthE x = D at *
      clear hset hbw6 q1 q2 qx hb5 hk5 HI HB2b HBW HP1 hx hbx hdep
      go_wp2_with fail
      refine cd.mono ?_
      clear cd a0 a1 a2 a3 a4 af c0 c1 c2 c3 c4 e0 e1 e2 e3 e4
      rintro e w7 ⟨rfl, hb7⟩
      have r1 := (hb7.block _ (by omega)).trans HQ.out.1
      have r2 := (hb7.block _ (by omega)).trans HQ.out.2.1
      have r3 := (hb7.block _ (by omega)).trans HQ.out.2.2
      have hb07 : Below w.heap.size w w7 := HB6.out.trans (hb7.mono (by omega))
      have hx7 : ExAt (w2.heap.size + 1 + 1) w7 x (.agg #[.int .i64 xa, .string xb, .int .i64 xc, .slice x0 x1 x2, .int .i64 xl]) := ExAt.kept HX.out hb7.size fun k _ hlt => hb7.block k hlt
      obtain ⟨a0, a1, a2, a3, a4, af⟩ := cells5 r1
      by_cases hdeep : 24 < D
      · obtain ⟨c0, c1, c2, c3, c4, -⟩ := cells5 r2
        obtain ⟨z0, z1, z2, z3, z4⟩ := set5_cells r1 (.int .i64 0) (.string ⟨#[]⟩) (.int .i64 0) (.slice none 0 0) (.int .i64 0)
        have HI3 : Hid (IsExpr l noEx 0 7) := HI2.out noEx 0 7 (by rw [if_pos hdeep]; exact ⟨rfl, rfl, rfl⟩)
        have HB3 : Hid (Below w.heap.size w (set5 w7 (w.heap.size + 1) (.int .i64 0) (.string ⟨#[]⟩) (.int .i64 0) (.slice none 0 0) (.int .i64 0))) := HS.out w7 hb07 _ _ _ _ _
        have h1 : (24 : Int) < (D : Int) := by omega
        clear hb07 hx7 r1 r2 r3 hb7 HQ HX HB6 HS HI2
        go_wp2
        refine bodyPost_ret (v := .tuple #[.agg #[.int .i64 0, .string ⟨#[]⟩, .int .i64 0, .slice none 0 0, .int .i64 0], .int .i64 0, .int .i64 7]) (by simp [results, Tryz.results36, go_sem, z0, z1, z2, z3, z4]) rfl ⟨noEx, 0, 7, _, rfl, HI3.out, .leaf 0 [] 0 0, HB3.out⟩
      · obtain ⟨c0, c1, c2, c3, c4, -⟩ := cells5 r3
        obtain ⟨z0, z1, z2, z3, z4⟩ := set5_cells r1 (.int .i64 xa) (.string xb) (.int .i64 xc) (.slice x0 x1 x2) (.int .i64 xl)
        have HI3 : Hid (IsExpr l x 0 0) := HI2.out x 0 0 (by rw [if_neg hdeep]; exact ⟨rfl, rfl, rfl⟩)
        have HB3 : Hid (Below w.heap.size w (set5 w7 (w.heap.size + 1) (.int .i64 xa) (.string xb) (.int .i64 xc) (.slice x0 x1 x2) (.int .i64 xl))) := HS.out w7 hb07 _ _ _ _ _
        have HX3 : Hid (ExAt w.heap.size (set5 w7 (w.heap.size + 1) (.int .i64 xa) (.string xb) (.int .i64 xc) (.slice x0 x1 x2) (.int .i64 xl)) x (.agg #[.int .i64 xa, .string xb, .int .i64 xc, .slice x0 x1 x2, .int .i64 xl])) := ExAt.mono (ExAt.kept hx7 (w' := set5 w7 (w.heap.size + 1) (.int .i64 xa) (.string xb) (.int .i64 xc) (.slice x0 x1 x2) (.int .i64 xl)) (by simp) fun k hk _ => set5_keep _ _ _ _ _ _ _ (by omega)) (by omega)
        have h1 : ¬(24 : Int) < (D : Int) := by omega
        clear hb07 hx7 r1 r2 r3 hb7 HQ HX HB6 HS HI2
        go_wp2
        refine bodyPost_ret (v := .tuple #[.agg #[.int .i64 xa, .string xb, .int .i64 xc, .slice x0 x1 x2, .int .i64 xl], .int .i64 0, .int .i64 0]) (by simp [results, Tryz.results36, go_sem, z0, z1, z2, z3, z4]) rfl ⟨x, 0, 0, _, rfl, HI3.out, HX3.out, HB3.out⟩
end Go.Proofs.YtghhamgealkodaaGreatDoor
/- syntax: a text is read as a program. -/
namespace Go.Proofs.YtghhamgealkodaaGreatDoor
open Go.RowKit Go.Shelf

/-- A text is this program; or none, for its reason, at its byte. -/
def IsProg (l : List UInt8) (x : Pg) (at0 err : Nat) : Prop :=
  if (scanB l).2.2 ≠ 0 then x = noPg ∧ at0 = (scanB l).2.1 ∧ err = (scanB l).2.2 else
  ∃ f res, pProg f [] [] (scanB l).1 = some res ∧ match wholeG res with
    | .error a => x = noPg ∧ at0 = a ∧ err = 6
    | .ok y => if 24 < depthFs y.funs then x = noPg ∧ at0 = 0 ∧ err = 7 else x = y ∧ at0 = 0 ∧ err = 0

set_option maxRecDepth 100000 in
/-- What attempt is given to do. -/
theorem readTryP (ts : List Tk) (g cap B0 B2 f : Nat) (w0 w2 : World) (res : PR Pg) (hE : EndsT ts) (hlen : ts.length ≤ 4097) (hp : pProg f [] [] ts = some res) (hgl : g < w2.heap.size) (hcap : ts.length ≤ cap) (hmax : cap ≤ maxLen) (hcell : ∀ j u, (tkCells ts)[j]? = some u → w2.cell? ⟨g, j, none⟩ = some u)
    (hb : Below w0.heap.size w0 w2) (hl : LevT w0) (he : ErrT w0) (hB0 : w0.heap.size ≤ B0) (hB2 : w0.heap.size ≤ B2) (hB2g : B2 ≠ g)
    (b0 : w2.heap[B0]? = some (.cells #[.func (.func 26) #[] #[]] 60 (0, 0))) (b2 : w2.heap[B2]? = some pgZ) :
    Calls Tryz.prog 57 #[.func (.func 58) #[] #[.pointer (some ⟨B0, 0, none⟩), .pointer (some ⟨w2.heap.size + 1, 0, none⟩), .pointer (some ⟨B2, 0, none⟩)]] (rdW w2 (.slice (some ⟨g, 0, none⟩) ts.length cap)) fun e w' =>
      ∃ w5, Below (w2.heap.size + 1 + 1) w5 w' ∧ Kept2 w2.heap.size B2 w2 w5 ∧ match wholeG res with
        | .error a => e = .returned (.tuple #[.int .i64 a, .int .i64 6])
        | .ok x => e = .returned (.tuple #[.int .i64 0, .int .i64 0]) ∧ ∃ (s0 : Option Addr) (s1 s2 : Nat) (d0 : Option Addr) (d1 d2 : Nat), w5.heap[B2]? = some (.cells #[.slice s0 s1 s2, .slice d0 d1 d2] 25 (0, 0)) ∧ PgAt (w2.heap.size + 1 + 1) w' x (.agg #[.slice s0 s1 s2, .slice d0 d1 d2]) := by
  obtain ⟨t0, ts0, rfl⟩ := hE.cons
  have hs : w0.heap.size ≤ w2.heap.size := hb.size
  have hlb : 1 < w0.heap.size := World.block_lt_of_cell? w0 _ (hl 0 _ rfl)
  have heb : 0 < w0.heap.size := World.block_lt_of_cell? w0 _ he
  have hB0l : B0 < w2.heap.size := (Array.getElem?_eq_some_iff.1 b0).1
  have hB2l : B2 < w2.heap.size := (Array.getElem?_eq_some_iff.1 b2).1
  obtain ⟨w3, hw3⟩ : ∃ w3, w3 = rdW w2 (.slice (some ⟨g, 0, none⟩) (t0 :: ts0).length cap) := ⟨_, rfl⟩
  have hs3 : w3.heap.size = w2.heap.size + 1 + 1 := by rw [hw3]; simp
  obtain ⟨W, hW⟩ : ∃ W, W = attW w3 := ⟨_, rfl⟩
  have hsW : W.heap.size = w2.heap.size + 1 + 1 + 1 + 1 := by rw [hW]; simp [hs3]
  have h3W : ∀ k, k < w3.heap.size → W.heap[k]? = w3.heap[k]? := fun k hk => by rw [hW, Below.heap_alloc _ _ _ (by simp; omega), Below.heap_alloc _ _ _ hk]
  have h23 : ∀ k, k < w2.heap.size → w3.heap[k]? = w2.heap[k]? := fun k hk => by rw [hw3, Below.heap_alloc _ _ _ (by simp; omega), Below.heap_alloc _ _ _ hk]
  have h2W : ∀ k, k < w2.heap.size → W.heap[k]? = w2.heap[k]? := fun k hk => (h3W k (by omega)).trans (h23 k hk)
  have pr : W.heap[w2.heap.size]? = some (.cells #[.slice (some ⟨g, 0, none⟩) (t0 :: ts0).length cap] 109 (0, 0)) := by
    rw [h3W _ (by omega), hw3, Below.heap_alloc _ _ _ (by simp)]; exact World.alloc_heap_new _ _
  have p1 : W.heap[w2.heap.size + 1]? = some (.cells #[.pointer (some ⟨w2.heap.size, 0, none⟩)] 62 (0, 0)) := by
    rw [h3W _ (by omega), hw3]
    have := World.alloc_heap_new (w2.alloc (.cells #[.slice (some ⟨g, 0, none⟩) (t0 :: ts0).length cap] 109)) (.cells #[.pointer (some ⟨w2.heap.size, 0, none⟩)] 62)
    simpa using this
  have pa : W.heap[w3.heap.size]? = some (.cells #[.int .i64 0] 3 (0, 0)) := by
    rw [hW, Below.heap_alloc _ _ _ (by simp)]; exact World.alloc_heap_new _ _
  have pb : W.heap[w3.heap.size + 1]? = some (.cells #[.int .i64 0] 26 (0, 0)) := by
    rw [hW]
    have := World.alloc_heap_new (w3.alloc (.cells #[.int .i64 0] 3)) (.cells #[.int .i64 0] 26)
    simpa using this
  have hRd : RdAt w2.heap.size g 0 cap (t0 :: ts0) W :=
    { cell := by simp only [World.cell?, pr]; rfl
      soft := by simp only [World.frozen?, pr]; simp
      hcap := hcap
      hmax := hmax
      other := by omega
      toks := fun j u hj => by rw [Nat.zero_add, World.cell?_of_block (h2W g hgl)]; exact hcell j u hj
      few := by omega }
  have hLev : LevT W := fun j v hj => by
    rw [World.cell?_of_block ((h2W 1 (by omega)).trans (hb.block _ hlb))]; exact hl j v hj
  have hdo := readDoP w2.heap.size g 0 cap B0 (w2.heap.size + 1) B2 f _ _ (t0 :: ts0) W res hRd hE hLev (by omega) hp ((h2W _ hB0l).trans b0) p1 ((h2W _ hB2l).trans b2) (by omega) (by omega) hB2g (by omega)
  rw [← hw3]
  refine (attempt_keeps 58 #[.pointer (some ⟨B0, 0, none⟩), .pointer (some ⟨w2.heap.size + 1, 0, none⟩), .pointer (some ⟨B2, 0, none⟩)] w3 (fun w' => PostWG w2.heap.size B2 W (wholeG res) (.returned (.tuple #[])) w') (fun why at0 w' => why = 6 ∧ ∃ a : Nat, at0 = (a : Int) ∧ wholeG res = .error a ∧ Kept2 w2.heap.size B2 W w') (fun _ => rfl) ?_).mono ?_
  · rw [← hW]
    refine hdo.mono fun e w' hP => ⟨(hP.1.block _ (by omega) (by omega) (by omega)).trans pa, (hP.1.block _ (by omega) (by omega) (by omega)).trans pb, ?_, ?_⟩
    · unfold ErrT
      rw [World.cell?_of_block ((hP.1.block 0 (by omega) (by omega) (by omega)).trans ((h2W 0 (by omega)).trans (hb.block _ heb)))]; exact he
    · have hP2 := hP
      unfold PostWG at hP
      cases hR : wholeG res with
      | error a => rw [hR] at hP; exact .inr ⟨6, a, hP.2, rfl, a, rfl, rfl, hP.1⟩
      | ok x => rw [hR] at hP hP2; have := hP.2.1; subst this; exact .inl ⟨rfl, hP2⟩
  · have hK2 : ∀ w', Kept2 w2.heap.size B2 W w' → Kept2 w2.heap.size B2 w2 w' := fun w' h => ⟨by rw [h.os, hW, hw3]; rfl, by rw [h.tape, hW, hw3]; rfl, by rw [h.output, hW, hw3]; rfl, by have := h.size; omega, fun k hk hr hb' => (h.block k (by omega) hr hb').trans (h2W k hk)⟩
    rintro e w' (⟨w5, rfl, hP, hB, hkp⟩ | ⟨why, at0, w5, rfl, ⟨rfl, a, rfl, hR, hK⟩, hB⟩)
    · rw [hs3] at hB
      refine ⟨w5, hB, hK2 _ hP.1, ?_⟩
      unfold PostWG at hP
      cases hR : wholeG res with
      | error a => rw [hR] at hP; exact absurd hP.2 (by simp [gaveUp])
      | ok x =>
        rw [hR] at hP
        obtain ⟨-, -, s0, s1, s2, d0, d1, d2, h1, h2⟩ := hP
        exact ⟨rfl, s0, s1, s2, d0, d1, d2, h1, PgAt.mono (PgAt.kept h2 hB.size fun k hk _ => hkp k (by omega) (by omega)) (by omega)⟩
    · rw [hs3] at hB
      refine ⟨w5, hB, hK2 _ hK, ?_⟩
      rw [hR]

set_option maxRecDepth 100000 in
set_option maxHeartbeats 4000000 in
theorem readP (l : List UInt8) (w : World) (ht : Tabs w) (hl : LevT w) (he : ErrT w) :
    Calls Tryz.prog 25 #[.string (strB l), .func (.func 26) #[] #[], .func (.func 27) #[] #[]] w fun e w' =>
      ∃ (x : Pg) (at0 err : Nat) (v : Value), e = .returned (.tuple #[v, .int .i64 at0, .int .i64 err]) ∧ IsProg l x at0 err ∧ PgAt w.heap.size w' x v ∧ Below w.heap.size w w' := by
  obtain ⟨w1, hw1⟩ : ∃ w1, w1 = (((w.alloc (.cells #[.func (.func 26) #[] #[]] 60)).alloc pgZ).alloc pgZ).alloc pgZ := ⟨_, rfl⟩
  have hs1 : w1.heap.size = w.heap.size + 1 + 1 + 1 + 1 := by rw [hw1]; simp
  have hb1 : Below w.heap.size w w1 := by
    rw [hw1]
    exact ((((Below.refl w.heap.size w).alloc (Nat.le_refl _) _).alloc (by simp) _).alloc (by simp <;> omega) _).alloc (by simp <;> omega) _
  have m0 : w1.heap[w.heap.size]? = some (.cells #[.func (.func 26) #[] #[]] 60 (0, 0)) := by
    rw [hw1, Below.heap_alloc _ _ _ (by simp <;> omega), Below.heap_alloc _ _ _ (by simp <;> omega), Below.heap_alloc _ _ _ (by simp)]; exact World.alloc_heap_new _ _
  have m1 : w1.heap[w.heap.size + 1]? = some pgZ := by
    rw [hw1, Below.heap_alloc _ _ _ (by simp <;> omega), Below.heap_alloc _ _ _ (by simp)]
    have := World.alloc_heap_new (w.alloc (.cells #[.func (.func 26) #[] #[]] 60)) pgZ
    simpa using this
  have m2 : w1.heap[w.heap.size + 1 + 1]? = some pgZ := by
    rw [hw1, Below.heap_alloc _ _ _ (by simp)]
    have := World.alloc_heap_new ((w.alloc (.cells #[.func (.func 26) #[] #[]] 60)).alloc pgZ) pgZ
    simpa using this
  have m3 : w1.heap[w.heap.size + 1 + 1 + 1]? = some pgZ := by
    rw [hw1]
    have := World.alloc_heap_new (((w.alloc (.cells #[.func (.func 26) #[] #[]] 60)).alloc pgZ).alloc pgZ) pgZ
    simpa using this
  have cs := scan_any l w1 (ht.below hb1 (Nat.le_refl _))
  have HW1 : Hid (w1 = (((w.alloc (.cells #[.func (.func 26) #[] #[]] 60)).alloc pgZ).alloc pgZ).alloc pgZ) := hw1
  have HB1 : Hid (Below w.heap.size w w1) := hb1
  have HL : Hid (LevT w) := hl
  have HE : Hid (ErrT w) := he
  have HM : Hid (w1.heap[w.heap.size]? = some (.cells #[.func (.func 26) #[] #[]] 60 (0, 0)) ∧ w1.heap[w.heap.size + 1]? = some pgZ ∧ w1.heap[w.heap.size + 1 + 1]? = some pgZ ∧ w1.heap[w.heap.size + 1 + 1 + 1]? = some pgZ) := ⟨m0, m1, m2, m3⟩
  clear hw1 hb1 hl he m0 m1 m2 m3 ht
  go_enter Tryz.func25, Tryz.ntmps25
  go_wp2_with fail
  rw [← HW1.out]
  refine cs.mono ?_
  clear cs HW1
  rintro e w2 ⟨v, rfl, hown, hb2⟩
  have hblk : ∀ k, k < w1.heap.size → w2.heap[k]? = w1.heap[k]? := fun k hk => hb2.block k hk
  have p0 := (hblk _ (by omega)).trans HM.out.1
  have p1 := (hblk _ (by omega)).trans HM.out.2.1
  have p2 := (hblk _ (by omega)).trans HM.out.2.2.1
  have p3 := (hblk _ (by omega)).trans HM.out.2.2.2
  have hb02 : Below w.heap.size w w2 := HB1.out.trans (hb2.mono (by omega))
  have HB2 : Hid (Below w.heap.size w w2) := hb02
  obtain ⟨a0, a1, af⟩ := cells2 p1
  obtain ⟨c0, c1, -⟩ := cells2 p2
  have hs2 := hb2.size
  by_cases herr : (scanB l).2.2 ≠ 0
  · have HI : Hid (IsProg l noPg (scanB l).2.1 (scanB l).2.2) := show IsProg _ _ _ _ by unfold IsProg; rw [if_pos herr]; exact ⟨rfl, rfl, rfl⟩
    have herr' : ¬((scanB l).2.2 : Int) = 0 := by omega
    generalize (scanB l).2.1 = A at *
    generalize (scanB l).2.2 = E at *
    have h1 : ((E : Int) == 0) = false := by rw [beq_eq_false_iff_ne]; exact herr'
    have h2 : ((E : Int) != 0) = true := by simp [bne, h1]
    have h3 : decide ((E : Int) = 0) = false := by rw [decide_eq_false_iff_not]; exact herr'
    have h4 : (E == 0) = false := by rw [beq_eq_false_iff_ne]; exact herr
    have h5 : decide (E = 0) = false := by rw [decide_eq_false_iff_not]; exact herr
    have h6 : (E != 0) = true := by simp [bne, h4]
    obtain ⟨z0, z1⟩ := set2_cells p1 (.slice none 0 0) (.slice none 0 0)
    have hb3 : Below w.heap.size w (set2 w2 (w.heap.size + 1) (.slice none 0 0) (.slice none 0 0)) :=
      (hb02.setCell (p := ⟨w.heap.size + 1, 0, none⟩) (by simp) _).setCell (p := ⟨w.heap.size + 1, 1, none⟩) (by simp) _
    have HB3 : Hid (Below w.heap.size w (set2 w2 (w.heap.size + 1) (.slice none 0 0) (.slice none 0 0))) := hb3
    clear hb3 hb02 hb2 hown hblk p0 p1 p2 p3 HM HB2 HL HE HB1
    go_wp2
    refine bodyPost_ret (v := .tuple #[.agg #[.slice none 0 0, .slice none 0 0], .int .i64 A, .int .i64 E]) (by simp [results, Tryz.results25, go_sem, z0, z1]) rfl ⟨noPg, A, E, _, rfl, HI.out, pgNil _ _, HB3.out⟩
  · have herr0 : (scanB l).2.2 = 0 := by simpa using herr
    have hE := scanB_ends l herr0
    obtain ⟨t0, ts0, hts⟩ := hE.cons
    obtain ⟨g, cap, rfl, hg, hgl, hcap, hmax, hcell⟩ : ∃ g cap, v = .slice (some ⟨g, 0, none⟩) (scanB l).1.length cap ∧ w1.heap.size ≤ g ∧ g < w2.heap.size ∧ (scanB l).1.length ≤ cap ∧ cap ≤ maxLen ∧ ∀ j u, (tkCells (scanB l).1)[j]? = some u → w2.cell? ⟨g, j, none⟩ = some u := row_all hown (by rw [hts]; simp)
    have hlen := scanB_len l
    obtain ⟨f, res, hf, -⟩ := prog_total (scanB l).1.length (scanB l).1 (Nat.le_refl _) hE [] []
    have hp : pProg f [] [] (scanB l).1 = some res := hf 0
    have ca := readTryP (scanB l).1 g cap w.heap.size (w.heap.size + 1 + 1 + 1) f w w2 res hE hlen hp hgl hcap hmax hcell hb02 HL.out HE.out (Nat.le_refl _) (by omega) (by omega) p0 p3
    have hmf : ∀ (fn : Fn) (first cap : Array Value) (w : World), (Instr.makeFunc fn first cap).run Tryz.prog w = .ok (.func fn first cap) w := fun _ _ _ _ => rfl
    have hdep : ∀ x us, res = .ok (x, us) → depthFs x.funs ≤ 4097 := fun x us h => by
      subst h
      have := prog_depth (scanB l).1.length f [] [] _ us x hp hE (by simp [depthFs])
      omega
    have HI : Hid (∀ x at0 err, (match wholeG res with | .error a => x = noPg ∧ at0 = a ∧ err = 6 | .ok y => if 24 < depthFs y.funs then x = noPg ∧ at0 = 0 ∧ err = 7 else x = y ∧ at0 = 0 ∧ err = 0) → IsProg l x at0 err) := fun x at0 err h => by
      unfold IsProg
      rw [if_neg herr]
      exact ⟨f, res, hp, h⟩
    have HB2b : Hid (∀ k, k ≤ w.heap.size + 1 + 1 → ∀ w5 w6, Below (w2.heap.size + 1 + 1) w5 w6 → Kept2 w2.heap.size (w.heap.size + 1 + 1 + 1) w2 w5 → w6.heap[k]? = w2.heap[k]?) := fun k hk w5 w6 h5 h6 =>
      (h5.block k (by omega)).trans (h6.block k (by omega) (by omega) (by omega))
    have HBW : Hid (∀ w5 w6, Below (w2.heap.size + 1 + 1) w5 w6 → Kept2 w2.heap.size (w.heap.size + 1 + 1 + 1) w2 w5 → Below w.heap.size w w6) := fun w5 w6 h5 h6 =>
      ⟨h5.os.trans (h6.os.trans hb02.os), h5.tape.trans (h6.tape.trans hb02.tape), h5.output.trans (h6.output.trans hb02.output), by have := h5.size; have := h6.size; have := hb02.size; omega, fun k hk => (h5.block k (by omega)).trans ((h6.block k (by omega) (by omega) (by omega)).trans (hb02.block k hk))⟩
    have HP1 : Hid (w2.heap[w.heap.size + 1]? = some pgZ ∧ w2.heap[w.heap.size + 1 + 1]? = some pgZ) := ⟨p1, p2⟩
    rw [herr0]
    generalize (scanB l).2.1 = A at *
    clear hb02 hb2 hown hblk p0 p1 p2 p3 HM HB2 HL HE HB1 hcell hp hf hE hts a0 a1 af c0 c1
    go_wp2_with fail
    refine ca.mono ?_
    clear ca
    rintro e w6 ⟨w5, hb5, hk5, hpost⟩
    have q1 := (HB2b.out (w.heap.size + 1) (by omega) w5 w6 hb5 hk5).trans HP1.out.1
    have q2 := (HB2b.out (w.heap.size + 1 + 1) (by omega) w5 w6 hb5 hk5).trans HP1.out.2
    have hbw6 := HBW.out w5 w6 hb5 hk5
    obtain ⟨a0, a1, af⟩ := cells2 q1
    obtain ⟨c0, c1, -⟩ := cells2 q2
    have hset : ∀ W, Below w.heap.size w W → ∀ v0 v1, Below w.heap.size w (set2 W (w.heap.size + 1) v0 v1) := fun W hW v0 v1 =>
      (hW.setCell (p := ⟨w.heap.size + 1, 0, none⟩) (by simp) _).setCell (p := ⟨w.heap.size + 1, 1, none⟩) (by simp) _
    cases hR : wholeG res with
    | error a =>
      rw [hR] at hpost
      obtain rfl := hpost
      have HI2 : Hid (IsProg l noPg a 6) := HI.out noPg a 6 (by rw [hR]; exact ⟨rfl, rfl, rfl⟩)
      obtain ⟨z0, z1⟩ := set2_cells q1 (.slice none 0 0) (.slice none 0 0)
      have HB3 : Hid (Below w.heap.size w (set2 w6 (w.heap.size + 1) (.slice none 0 0) (.slice none 0 0))) := hset w6 hbw6 _ _
      clear hset hbw6 q1 q2 hb5 hk5 HI HB2b HBW HP1
      go_wp2
      refine bodyPost_ret (v := .tuple #[.agg #[.slice none 0 0, .slice none 0 0], .int .i64 a, .int .i64 6]) (by simp [results, Tryz.results25, go_sem, z0, z1]) rfl ⟨noPg, a, 6, _, rfl, HI2.out, pgNil _ _, HB3.out⟩
    | ok x =>
      rw [hR] at hpost
      obtain ⟨rfl, y0, y1, y2, x0, x1, x2, hbx, hx⟩ := hpost
      have hxd : depthFs x.funs ≤ 4097 := by
        rcases res with a | ⟨y, us⟩
        · cases hR
        · unfold wholeG at hR
          simp only at hR
          split at hR
          · cases hR; exact hdep _ us rfl
          · cases hR
      have hs6 := hb5.size
      have hs5 := hk5.size
      have qx := (hb5.block (w.heap.size + 1 + 1 + 1) (by omega)).trans hbx
      obtain ⟨e0, e1, -⟩ := cells2 qx
      have cd := programDepth_any (fun k => w2.heap.size + 1 + 1 ≤ k) w6 x _ hx (by omega)
      have HX : Hid (PgAt (w2.heap.size + 1 + 1) w6 x (.agg #[.slice y0 y1 y2, .slice x0 x1 x2])) := hx
      have HQ : Hid (w6.heap[w.heap.size + 1]? = some pgZ ∧ w6.heap[w.heap.size + 1 + 1]? = some pgZ ∧ w6.heap[w.heap.size + 1 + 1 + 1]? = some (.cells #[.slice y0 y1 y2, .slice x0 x1 x2] 25 (0, 0))) := ⟨q1, q2, qx⟩
      have HB6 : Hid (Below w.heap.size w w6) := hbw6
      have HS : Hid (∀ W, Below w.heap.size w W → ∀ v0 v1, Below w.heap.size w (set2 W (w.heap.size + 1) v0 v1)) := hset
      have HI2 : Hid (∀ y at0 err, (if 24 < depthFs x.funs then y = noPg ∧ at0 = 0 ∧ err = 7 else y = x ∧ at0 = 0 ∧ err = 0) → IsProg l y at0 err) := fun y at0 err h => HI.out y at0 err (by rw [hR]; exact h)
      generalize hD : depthFs x.funs = D at *
      clear hset hbw6 q1 q2 qx hb5 hk5 HI HB2b HBW HP1 hx hbx hdep
      go_wp2_with fail
      refine cd.mono ?_
      clear cd a0 a1 af c0 c1 e0 e1
      rintro e w7 ⟨rfl, hb7⟩
      have r1 := (hb7.block _ (by omega)).trans HQ.out.1
      have r2 := (hb7.block _ (by omega)).trans HQ.out.2.1
      have r3 := (hb7.block _ (by omega)).trans HQ.out.2.2
      have hb07 : Below w.heap.size w w7 := HB6.out.trans (hb7.mono (by omega))
      have hx7 : PgAt (w2.heap.size + 1 + 1) w7 x (.agg #[.slice y0 y1 y2, .slice x0 x1 x2]) := PgAt.kept HX.out hb7.size fun k _ hlt => hb7.block k hlt
      obtain ⟨a0, a1, af⟩ := cells2 r1
      by_cases hdeep : 24 < D
      · obtain ⟨c0, c1, -⟩ := cells2 r2
        obtain ⟨z0, z1⟩ := set2_cells r1 (.slice none 0 0) (.slice none 0 0)
        have HI3 : Hid (IsProg l noPg 0 7) := HI2.out noPg 0 7 (by rw [if_pos hdeep]; exact ⟨rfl, rfl, rfl⟩)
        have HB3 : Hid (Below w.heap.size w (set2 w7 (w.heap.size + 1) (.slice none 0 0) (.slice none 0 0))) := HS.out w7 hb07 _ _
        have h1 : (24 : Int) < (D : Int) := by omega
        clear hb07 hx7 r1 r2 r3 hb7 HQ HX HB6 HS HI2
        go_wp2
        refine bodyPost_ret (v := .tuple #[.agg #[.slice none 0 0, .slice none 0 0], .int .i64 0, .int .i64 7]) (by simp [results, Tryz.results25, go_sem, z0, z1]) rfl ⟨noPg, 0, 7, _, rfl, HI3.out, pgNil _ _, HB3.out⟩
      · obtain ⟨c0, c1, -⟩ := cells2 r3
        obtain ⟨z0, z1⟩ := set2_cells r1 (.slice y0 y1 y2) (.slice x0 x1 x2)
        have HI3 : Hid (IsProg l x 0 0) := HI2.out x 0 0 (by rw [if_neg hdeep]; exact ⟨rfl, rfl, rfl⟩)
        have HB3 : Hid (Below w.heap.size w (set2 w7 (w.heap.size + 1) (.slice y0 y1 y2) (.slice x0 x1 x2))) := HS.out w7 hb07 _ _
        have HX3 : Hid (PgAt w.heap.size (set2 w7 (w.heap.size + 1) (.slice y0 y1 y2) (.slice x0 x1 x2)) x (.agg #[.slice y0 y1 y2, .slice x0 x1 x2])) := PgAt.mono (PgAt.kept hx7 (w' := set2 w7 (w.heap.size + 1) (.slice y0 y1 y2) (.slice x0 x1 x2)) (by simp) fun k hk _ => set2_keep _ _ _ _ (by omega)) (by omega)
        have h1 : ¬(24 : Int) < (D : Int) := by omega
        clear hb07 hx7 r1 r2 r3 hb7 HQ HX HB6 HS HI2
        go_wp2
        refine bodyPost_ret (v := .tuple #[.agg #[.slice y0 y1 y2, .slice x0 x1 x2], .int .i64 0, .int .i64 0]) (by simp [results, Tryz.results25, go_sem, z0, z1]) rfl ⟨x, 0, 0, _, rfl, HI3.out, HX3.out, HB3.out⟩
end Go.Proofs.YtghhamgealkodaaGreatDoor
/- syntax: Parse of any text. -/
namespace Go.Proofs.YtghhamgealkodaaGreatDoor
open Go.RowKit Go.Shelf

set_option maxRecDepth 100000 in
set_option maxHeartbeats 4000000 in
theorem parseX (l : List UInt8) (w : World) (ht : Tabs w) (hl : LevT w) (he : ErrT w) :
    Calls Tryz.prog 8 #[.string (strB l)] w fun e w' =>
      ∃ (x : Pg) (at0 err : Nat) (v : Value), e = .returned (.tuple #[v, .int .i64 at0, .int .i64 err]) ∧ IsProg l x at0 err ∧ PgAt w.heap.size w' x v ∧ Below w.heap.size w w' := by
  have hb : Below w.heap.size w (w.alloc pgZ) := (Below.refl w.heap.size w).alloc (Nat.le_refl _) _
  have cr := readP l (w.alloc pgZ) (ht.below hb (Nat.le_refl _)) (fun j v hj => cell_al (hl j v hj) _) (cell_al he _)
  go_enter Tryz.func8, Tryz.ntmps8
  go_wp2_with fail
  refine cr.mono ?_
  clear cr
  rintro e w1 ⟨x, at0, err, v, rfl, hI, hx, hb1⟩
  obtain ⟨s0, s1, s2, d0, d1, d2, rfl⟩ := hx.agg
  have hsz : (w.alloc pgZ).heap.size = w.heap.size + 1 := by simp
  rw [hsz] at hx hb1
  have p0 : w1.heap[w.heap.size]? = some pgZ := (hb1.block w.heap.size (by omega)).trans (World.alloc_heap_new w _)
  obtain ⟨q0, q1, qf⟩ := cells2 p0
  obtain ⟨z0, z1⟩ := set2_cells p0 (.slice s0 s1 s2) (.slice d0 d1 d2)
  have hb2 : Below w.heap.size w w1 := hb.trans (hb1.mono (by omega))
  have HB : Hid (Below w.heap.size w (set2 w1 w.heap.size (.slice s0 s1 s2) (.slice d0 d1 d2))) :=
    (hb2.setCell (p := ⟨w.heap.size, 0, none⟩) (by simp) _).setCell (p := ⟨w.heap.size, 1, none⟩) (by simp) _
  have HX : Hid (PgAt w.heap.size (set2 w1 w.heap.size (.slice s0 s1 s2) (.slice d0 d1 d2)) x (.agg #[.slice s0 s1 s2, .slice d0 d1 d2])) :=
    PgAt.mono (PgAt.kept hx (w' := set2 w1 w.heap.size (.slice s0 s1 s2) (.slice d0 d1 d2)) (by simp) fun j hj _ => set2_keep _ _ _ _ (by omega)) (by omega)
  have HI : Hid (IsProg l x at0 err) := hI
  clear hb hb2 hx hb1 hI p0 ht hl he
  go_wp2
  exact bodyPost_ret (v := .tuple #[.agg #[.slice s0 s1 s2, .slice d0 d1 d2], .int .i64 at0, .int .i64 err]) (by simp [results, Tryz.results8, go_sem, z0, z1]) rfl ⟨x, at0, err, _, rfl, HI.out, HX.out, HB.out⟩
end Go.Proofs.YtghhamgealkodaaGreatDoor
/- syntax: Expr of any text. -/
namespace Go.Proofs.YtghhamgealkodaaGreatDoor
open Go.RowKit Go.Shelf

set_option maxRecDepth 100000 in
set_option maxHeartbeats 4000000 in
theorem exprX (l : List UInt8) (w : World) (ht : Tabs w) (hl : LevT w) (he : ErrT w) :
    Calls Tryz.prog 14 #[.string (strB l)] w fun e w' =>
      ∃ (x : Ex) (at0 err : Nat) (v : Value), e = .returned (.tuple #[v, .int .i64 at0, .int .i64 err]) ∧ IsExpr l x at0 err ∧ ExAt w.heap.size w' x v ∧ Below w.heap.size w w' := by
  have hb : Below w.heap.size w (w.alloc exZ) := (Below.refl w.heap.size w).alloc (Nat.le_refl _) _
  have cr := readX l (w.alloc exZ) (ht.below hb (Nat.le_refl _)) (fun j v hj => cell_al (hl j v hj) _) (cell_al he _)
  go_enter Tryz.func14, Tryz.ntmps14
  go_wp2_with fail
  refine cr.mono ?_
  clear cr
  rintro e w1 ⟨x, at0, err, v, rfl, hI, hx, hb1⟩
  obtain ⟨a, b, c, d0, d1, d2, k, rfl⟩ := hx.agg
  have hsz : (w.alloc exZ).heap.size = w.heap.size + 1 := by simp
  rw [hsz] at hx hb1
  have p0 : w1.heap[w.heap.size]? = some exZ := (hb1.block w.heap.size (by omega)).trans (World.alloc_heap_new w _)
  obtain ⟨q0, q1, q2, q3, q4, qf⟩ := cells5 p0
  obtain ⟨z0, z1, z2, z3, z4⟩ := set5_cells p0 (.int .i64 a) (.string b) (.int .i64 c) (.slice d0 d1 d2) (.int .i64 k)
  have hb2 : Below w.heap.size w w1 := hb.trans (hb1.mono (by omega))
  have HB : Hid (Below w.heap.size w (set5 w1 w.heap.size (.int .i64 a) (.string b) (.int .i64 c) (.slice d0 d1 d2) (.int .i64 k))) :=
    ((((hb2.setCell (p := ⟨w.heap.size, 0, none⟩) (by simp) _).setCell (p := ⟨w.heap.size, 1, none⟩) (by simp) _).setCell (p := ⟨w.heap.size, 2, none⟩) (by simp) _).setCell (p := ⟨w.heap.size, 3, none⟩) (by simp) _).setCell (p := ⟨w.heap.size, 4, none⟩) (by simp) _
  have HX : Hid (ExAt w.heap.size (set5 w1 w.heap.size (.int .i64 a) (.string b) (.int .i64 c) (.slice d0 d1 d2) (.int .i64 k)) x (.agg #[.int .i64 a, .string b, .int .i64 c, .slice d0 d1 d2, .int .i64 k])) :=
    ExAt.mono (ExAt.kept hx (w' := set5 w1 w.heap.size (.int .i64 a) (.string b) (.int .i64 c) (.slice d0 d1 d2) (.int .i64 k)) (by simp) fun j hj _ => set5_keep _ _ _ _ _ _ _ (by omega)) (by omega)
  have HI : Hid (IsExpr l x at0 err) := hI
  clear hb hb2 hx hb1 hI p0 ht hl he
  go_wp2
  exact bodyPost_ret (v := .tuple #[.agg #[.int .i64 a, .string b, .int .i64 c, .slice d0 d1 d2, .int .i64 k], .int .i64 at0, .int .i64 err]) (by simp [results, Tryz.results14, go_sem, z0, z1, z2, z3, z4]) rfl ⟨x, at0, err, _, rfl, HI.out, HX.out, HB.out⟩
end Go.Proofs.YtghhamgealkodaaGreatDoor
/- syntax: what was read may be written. -/
namespace Go.Proofs.YtghhamgealkodaaGreatDoor
open Go.RowKit Go.Shelf

mutual
/-- An expression that was read, as any. -/
def exz : Ex → Ez
  | .mk k s n kids line => .mk k s n (exzL kids) line
def exzL : List Ex → List Ez
  | [] => []
  | x :: xs => exz x :: exzL xs
end
theorem exzL_map (l : List Ex) : exzL l = l.map exz := by
  induction l with
  | nil => rfl
  | cons x xs ih => rw [exzL, ih]; rfl
mutual
/-- Its texts and numbers are small. -/
def okE : Ex → Bool
  | .mk _ s n kids _ => decide (s.length ≤ 100000000) && decide (-9223372036854775808 ≤ n) && decide (n ≤ 9223372036854775807) && okL kids
def okL : List Ex → Bool
  | [] => true
  | x :: xs => okE x && okL xs
end
theorem okL_get {l : List Ex} (h : okL l = true) : ∀ {i : Nat} {x : Ex}, l[i]? = some x → okE x = true := by
  induction l with
  | nil => intro i x hx; simp at hx
  | cons y ys ih =>
    intro i x hx
    rw [okL, Bool.and_eq_true] at h
    cases i with
    | zero => simp only [List.getElem?_cons_zero, Option.some.injEq] at hx; subst hx; exact h.1
    | succ i => exact ih h.2 (by simpa using hx)

theorem ExIn.ez {S : Nat → Prop} {B : Nat} {w : World} {x : Ex} {v : Value} (h : ExIn S w x v) (hS : ∀ k, S k → k < w.heap.size → k < B) (hok : okE x = true) : EzIn B w (exz x) v := by
  induction h with
  | leaf k s n line =>
    rw [okE] at hok
    simp only [Bool.and_eq_true, decide_eq_true_eq] at hok
    exact EzIn.mk (k : Int) s n [] (line : Int) none 0 0 0 [] hok.1.1.1 hok.1.1.2 hok.1.2 (fun h => absurd rfl h) rfl (Nat.le_refl _) (Nat.zero_le _) (fun j u hj => by simp at hj) (fun c hc => by simp at hc) (fun j x c hx => by simp at hx)
  | node k s n kids line g cap us hne hlen hB hg hc hm hcell hfive _ ih =>
    rw [okE] at hok
    simp only [Bool.and_eq_true, decide_eq_true_eq] at hok
    have e : (exzL kids).length = kids.length := by rw [exzL_map, List.length_map]
    have := EzIn.mk (B := B) (w := w) (k : Int) s n (exzL kids) (line : Int) (some ⟨g, 0, none⟩) cap g 0 us hok.1.1.1 hok.1.1.2 hok.1.2 (fun _ => ⟨rfl, hS g hB hg, hg⟩) (by rw [e]; exact hlen) (by rw [e]; exact hc) hm (fun j u hj => by rw [Nat.zero_add]; exact hcell j u hj) hfive (fun j x c hx hc' => by
      rw [exzL_map, List.getElem?_map] at hx
      cases hy : kids[j]? with
      | none => rw [hy] at hx; simp at hx
      | some y =>
        rw [hy] at hx
        simp only [Option.map_some, Option.some.injEq] at hx
        subst hx
        exact ih j y c hy hc' (okL_get hok.2 hy))
    rw [e] at this
    exact this

mutual
/-- A statement that was read, as any. -/
def stz : St → Sz
  | .mk k s es body els line => .mk k s (exzL es) (stzL body) (stzL els) line
def stzL : List St → List Sz
  | [] => []
  | x :: xs => stz x :: stzL xs
end
theorem stzL_map (l : List St) : stzL l = l.map stz := by
  induction l with
  | nil => rfl
  | cons x xs ih => rw [stzL, ih]; rfl
mutual
/-- Its texts and numbers are small. -/
def okS : St → Bool
  | .mk _ s es body els _ => decide (s.length ≤ 100000000) && okL es && okSL body && okSL els
def okSL : List St → Bool
  | [] => true
  | x :: xs => okS x && okSL xs
end
theorem okSL_get {l : List St} (h : okSL l = true) : ∀ {i : Nat} {x : St}, l[i]? = some x → okS x = true := by
  induction l with
  | nil => intro i x hx; simp at hx
  | cons y ys ih =>
    intro i x hx
    rw [okSL, Bool.and_eq_true] at h
    cases i with
    | zero => simp only [List.getElem?_cons_zero, Option.some.injEq] at hx; subst hx; exact h.1
    | succ i => exact ih h.2 (by simpa using hx)
mutual
/-- How high a statement is. -/
def hiS : St → Nat
  | .mk _ _ _ body els _ => 1 + max (hiSL body) (hiSL els)
def hiSL : List St → Nat
  | [] => 0
  | x :: xs => max (hiS x) (hiSL xs)
end
theorem hiSL_get {l : List St} : ∀ {i : Nat} {x : St}, l[i]? = some x → hiS x ≤ hiSL l := by
  induction l with
  | nil => intro i x hx; simp at hx
  | cons y ys ih =>
    intro i x hx
    rw [hiSL]
    cases i with
    | zero => simp only [List.getElem?_cons_zero, Option.some.injEq] at hx; subst hx; omega
    | succ i => have := ih (i := i) (x := x) (by simpa using hx); omega

/-- A row that lies from its block's beginning on. -/
theorem rowZ_of {α β : Type} {P : β → List Value → Prop} {f : α → β} {sz B g cap : Nat} {w : World} {l : List α} {us : List (List Value)} (hlen : us.length = l.length) (hB : g < B) (hg : g < w.heap.size) (hc : l.length ≤ cap) (hm : cap ≤ maxLen) (hcell : ∀ j u, us.flatten[j]? = some u → w.cell? ⟨g, j, none⟩ = some u) (hw : ∀ c ∈ us, c.length = sz)
    (hk : ∀ (j : Nat) (x : α) (c : List Value), l[j]? = some x → us[j]? = some c → P (f x) c) : RowZ P sz B w (l.map f) (some ⟨g, 0, none⟩) l.length cap := by
  refine ⟨by rw [List.length_map], by rw [List.length_map]; exact hc, hm, fun i x hx => ?_⟩
  rw [List.getElem?_map] at hx
  cases hy : l[i]? with
  | none => rw [hy] at hx; simp at hx
  | some y =>
    rw [hy] at hx
    simp only [Option.map_some, Option.some.injEq] at hx
    subst hx
    have hi : i < l.length := (List.getElem?_eq_some_iff.1 hy).1
    obtain ⟨c, hc'⟩ : ∃ c, us[i]? = some c := ⟨us[i]'(by omega), List.getElem?_eq_getElem (by omega)⟩
    have hcl : c.length = sz := hw c (List.mem_of_getElem? hc')
    refine ⟨g, 0, c, rfl, hB, hg, hcl, hk i y c hy hc', fun j u hj => ?_⟩
    have hjl : j < sz := by rw [← hcl]; exact (List.getElem?_eq_some_iff.1 hj).1
    rw [Nat.zero_add]
    exact hcell _ _ ((flatZ hw hc' hjl).trans hj)
theorem rowZ_nil {α β : Type} {P : β → List Value → Prop} {f : α → β} {sz B : Nat} {w : World} : RowZ P sz B w (([] : List α).map f) none 0 0 := ⟨rfl, Nat.le_refl _, Nat.zero_le _, fun i x hx => by simp at hx⟩

theorem RowIn.rowZ {S : Nat → Prop} {B : Nat} {w : World} {l : List Ex} {v : Value} (h : RowIn S w l v) (hS : ∀ k, S k → k < w.heap.size → k < B) (hok : okL l = true) : ∃ b m cap, v = .slice b m cap ∧ RowZ (EzC B w) 5 B w (exzL l) b m cap := by
  rw [exzL_map]
  rcases h with ⟨rfl, rfl⟩ | ⟨g, cap, us, rfl, _, hlen, hs, hg, hc, hm, hcell, hw, hk⟩
  · exact ⟨none, 0, 0, rfl, rowZ_nil⟩
  · exact ⟨_, _, _, rfl, rowZ_of hlen (hS g hs hg) hg hc hm hcell hw fun j x c hx hc' => ExIn.ez (hk j x c hx hc') hS (okL_get hok hx)⟩
theorem SRowH.rowZ {S : Nat → Prop} {B f : Nat} {w : World} {l : List St} {v : Value} {g cap : Nat} {us : List (List Value)} (h : SRowH S w l v g cap us) (hS : ∀ k, S k → k < w.heap.size → k < B)
    (hk : ∀ (j : Nat) (x : St) (c : List Value), l[j]? = some x → us[j]? = some c → SzIn B w f (stz x) c) : ∃ b m cap, v = .slice b m cap ∧ RowZ (SzIn B w f) 6 B w (stzL l) b m cap := by
  rw [stzL_map]
  rcases h with ⟨rfl, rfl⟩ | ⟨rfl, _, hlen, hs, hg, hc, hm, hcell, hw⟩
  · exact ⟨none, 0, 0, rfl, rowZ_nil⟩
  · exact ⟨_, _, _, rfl, rowZ_of hlen (hS g hs hg) hg hc hm hcell hw hk⟩
theorem StIn.sz {S : Nat → Prop} {B : Nat} {w : World} {x : St} {v : Value} (h : StIn S w x v) (hS : ∀ k, S k → k < w.heap.size → k < B) : ∀ (f : Nat) (c : List Value), hiS x ≤ f → okS x = true → v = .agg c.toArray → SzIn B w f (stz x) c := by
  induction h with
  | mk k s es body els line ve vb vl gb cb gl cl ub ul he hbr hbk hl hlk ih1 ih2 =>
    intro f c hf hok hv
    rw [hiS] at hf
    rw [okS] at hok
    simp only [Bool.and_eq_true, decide_eq_true_eq] at hok
    obtain ⟨f, rfl⟩ : ∃ f', f = f' + 1 := ⟨f - 1, by omega⟩
    obtain ⟨be, me, ce, rfl, h1⟩ := he.rowZ hS hok.1.1.2
    obtain ⟨bb, mb, cb', rfl, h2⟩ := hbr.rowZ (f := f) hS fun j x c hx hc => ih1 j x c hx hc f c (by have := hiSL_get hx; omega) (okSL_get hok.1.2 hx) rfl
    obtain ⟨bl, ml, cl', rfl, h3⟩ := hl.rowZ (f := f) hS fun j x c hx hc => ih2 j x c hx hc f c (by have := hiSL_get hx; omega) (okSL_get hok.2 hx) rfl
    have hcl : c = [.int .i64 k, .string (strB s), .slice be me ce, .slice bb mb cb', .slice bl ml cl', .int .i64 line] := by
      have := congrArg (fun v => match v with | .agg a => a.toList | _ => []) hv
      simpa using this.symm
    exact ⟨be, me, ce, bb, mb, cb', bl, ml, cl', hcl, hok.1.1.1, h1, h2, h3⟩

/-- Records, functions, programs. -/
def rcz (x : Rc) : Rz := ⟨x.name, x.fields, x.line⟩
def fcz (x : Fc) : Fz := ⟨x.name, x.params, x.result, stzL x.body, x.line⟩
def pgz (x : Pg) : Pz := ⟨x.recs.map rcz, x.funs.map fcz⟩
def okPm (l : List Pm) : Bool := l.all fun p => decide (p.1.length ≤ 100000000) && decide (p.2.length ≤ 100000000)
def okRc (x : Rc) : Bool := decide (x.name.length ≤ 100000000) && okPm x.fields
def okFc (x : Fc) : Bool := decide (x.name.length ≤ 100000000) && decide (x.result.length ≤ 100000000) && okPm x.params && okSL x.body
def okPg (x : Pg) : Bool := x.recs.all okRc && x.funs.all okFc
def hiPg (x : Pg) : Nat := (x.funs.map fun y => hiSL y.body).foldr max 0
theorem hiPg_mem {l : List Fc} {y : Fc} (h : y ∈ l) : hiSL y.body ≤ (l.map fun y => hiSL y.body).foldr max 0 := by
  induction l with
  | nil => simp at h
  | cons z zs ih =>
    rw [List.map_cons, List.foldr_cons]
    rcases List.mem_cons.1 h with rfl | h
    · omega
    · have := ih h; omega

theorem RowG.rowZ {α β : Type} {E : (Nat → Prop) → World → α → List Value → Prop} {P : β → List Value → Prop} {f : α → β} {sz : Nat} {S : Nat → Prop} {B : Nat} {w : World} {l : List α} {v : Value} (h : RowG E sz S w l v) (hS : ∀ k, S k → k < w.heap.size → k < B)
    (hk : ∀ (x : α) (c : List Value), x ∈ l → E S w x c → P (f x) c) : ∃ b m cap, v = .slice b m cap ∧ RowZ P sz B w (l.map f) b m cap := by
  rcases h with ⟨rfl, rfl⟩ | ⟨g, cap, us, rfl, _, hlen, hs, hg, hc, hm, hcell, hw, hk2⟩
  · exact ⟨none, 0, 0, rfl, rowZ_nil⟩
  · exact ⟨_, _, _, rfl, rowZ_of hlen (hS g hs hg) hg hc hm hcell hw fun j x c hx hc' => hk x c (List.mem_of_getElem? hx) (hk2 j x c hx hc')⟩
theorem ParIn.rowZ {S : Nat → Prop} {B : Nat} {w : World} {l : List Pm} {v : Value} (h : ParIn S w l v) (hS : ∀ k, S k → k < w.heap.size → k < B) (hok : okPm l = true) : ∃ b m cap, v = .slice b m cap ∧ RowZ PmZ 2 B w l b m cap := by
  have := RowG.rowZ (P := PmZ) (f := fun x : Pm => (x : List UInt8 × List UInt8)) h hS fun x c hx hc => by
    have h1 := List.all_eq_true.1 hok x hx
    simp only [Bool.and_eq_true, decide_eq_true_eq] at h1
    exact ⟨hc, h1.1, h1.2⟩
  simpa using this
theorem PgIn.pz {S : Nat → Prop} {B : Nat} {w : World} {x : Pg} {v : Value} (h : PgIn S w x v) (hS : ∀ k, S k → k < w.heap.size → k < B) (hok : okPg x = true) : PzIn B w (hiPg x) (pgz x) v := by
  obtain ⟨vr, vf, rfl, h1, h2⟩ := h
  unfold okPg at hok
  rw [Bool.and_eq_true] at hok
  obtain ⟨b, m, cap, rfl, hr⟩ := h1.rowZ (P := RzIn B w) (f := rcz) hS fun x c hx hc => by
    have h9 := List.all_eq_true.1 hok.1 x hx
    unfold okRc at h9
    simp only [Bool.and_eq_true, decide_eq_true_eq] at h9
    obtain ⟨vp, rfl, hp⟩ := hc
    obtain ⟨b, m, cap, rfl, hp2⟩ := ParIn.rowZ hp hS h9.2
    exact ⟨b, m, cap, rfl, h9.1, hp2⟩
  obtain ⟨b2, m2, cap2, rfl, hf⟩ := h2.rowZ (P := FzIn B w (hiPg x)) (f := fcz) hS fun y c hx hc => by
    have h9 := List.all_eq_true.1 hok.2 y hx
    unfold okFc at h9
    simp only [Bool.and_eq_true, decide_eq_true_eq] at h9
    obtain ⟨vp, vb, rfl, hp, hb⟩ := hc
    obtain ⟨b, m, cap, rfl, hp2⟩ := ParIn.rowZ hp hS h9.1.2
    obtain ⟨g, cb, us, hr, hk⟩ := hb
    obtain ⟨b2, m2, cap2, rfl, hb2⟩ := hr.rowZ (f := hiPg x) hS fun j z c hz hc => StIn.sz (hk j z c hz hc) hS (hiPg x) c (by have := hiSL_get hz; have := hiPg_mem hx; unfold hiPg; omega) (okSL_get h9.2 hz) rfl
    exact ⟨b, m, cap, b2, m2, cap2, rfl, h9.1.1.1, h9.1.1.2, hp2, hb2⟩
  exact ⟨b, m, cap, b2, m2, cap2, rfl, hr, hf⟩
end Go.Proofs.YtghhamgealkodaaGreatDoor
