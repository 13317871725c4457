/- snap: may a state be told. -/
import Derived.Test.YtbdgniiafdjmiaaGreatDoorPAreCal
import Derived.Test.YtbdgniiafdjmiaaGreatDoorHLoad
namespace Go.Proofs.YtbdgniiafdjmiaaGreatDoor
open Go.RowKit Go.Shelf

set_option maxRecDepth 100000 in
set_option maxHeartbeats 4000000 in
theorem pInS_any (n a b : Int) (w : World) :
    Calls Tryz.prog 49 #[.int .i64 n, .int .i64 a, .int .i64 b] w fun e w' => e = .returned (.bool (decide (a ≤ n ∧ n ≤ b))) ∧ Below w.heap.size w w' := by
  have HB : Hid (Below w.heap.size w w) := Below.refl _ _
  obtain ⟨d, hd⟩ : ∃ d, d = decide (a ≤ n ∧ n ≤ b) := ⟨_, rfl⟩
  rw [← hd]
  by_cases h1 : a ≤ n
  · by_cases h2 : n ≤ b
    · have HD : Hid (d = true) := hd.trans (decide_eq_true ⟨h1, h2⟩)
      clear hd
      go_enter Tryz.func49, Tryz.ntmps49
      go_wp2
      go_ret
      rw [HD.out]
      exact ⟨rfl, HB.out⟩
    · have HD : Hid (d = false) := hd.trans (decide_eq_false fun h => h2 h.2)
      clear hd
      go_enter Tryz.func49, Tryz.ntmps49
      go_wp2
      go_ret
      rw [HD.out]
      exact ⟨rfl, HB.out⟩
  · have HD : Hid (d = false) := hd.trans (decide_eq_false fun h => h1 h.1)
    clear hd
    go_enter Tryz.func49, Tryz.ntmps49
    go_wp2
    go_ret
    rw [HD.out]
    exact ⟨rfl, HB.out⟩

set_option maxRecDepth 100000 in
set_option maxHeartbeats 4000000 in
theorem pInF_any (n a b : Int) (w : World) :
    Calls Tryz.prog 50 #[.int .i64 n, .int .i64 a, .int .i64 b] w fun e w' => e = .returned (.bool (decide (a ≤ n ∧ n ≤ b))) ∧ Below w.heap.size w w' := by
  have HB : Hid (Below w.heap.size w w) := Below.refl _ _
  obtain ⟨d, hd⟩ : ∃ d, d = decide (a ≤ n ∧ n ≤ b) := ⟨_, rfl⟩
  rw [← hd]
  by_cases h1 : a ≤ n
  · by_cases h2 : n ≤ b
    · have HD : Hid (d = true) := hd.trans (decide_eq_true ⟨h1, h2⟩)
      clear hd
      go_enter Tryz.func50, Tryz.ntmps50
      go_wp2
      go_ret
      rw [HD.out]
      exact ⟨rfl, HB.out⟩
    · have HD : Hid (d = false) := hd.trans (decide_eq_false fun h => h2 h.2)
      clear hd
      go_enter Tryz.func50, Tryz.ntmps50
      go_wp2
      go_ret
      rw [HD.out]
      exact ⟨rfl, HB.out⟩
  · have HD : Hid (d = false) := hd.trans (decide_eq_false fun h => h1 h.1)
    clear hd
    go_enter Tryz.func50, Tryz.ntmps50
    go_wp2
    go_ret
    rw [HD.out]
    exact ⟨rfl, HB.out⟩

set_option maxRecDepth 100000 in
set_option maxHeartbeats 4000000 in
theorem pIsRight_any (g : Nat) (n : Int) (x : Vl) (w : World) (hx : smallV x) (ht : TabsP w) (hg : w.heap[g]? = some (.cells #[.int .i64 n] 3 (0, 0))) :
    Calls Tryz.prog 83 #[vlV x, .pointer (some ⟨g, 0, none⟩)] w fun e w' => e = .returned (.bool (rightV x n)) ∧ Below w.heap.size w w' := by
  obtain ⟨w1, hw1, hb1, HZ1, h1⟩ := box1 w (.cells #[.int .i64 x.k, .int .i64 x.n, .string (strB x.s)] 54)
  have HW1 : Hid (w1 = w.alloc (.cells #[.int .i64 x.k, .int .i64 x.n, .string (strB x.s)] 54)) := hw1
  have HB1 : Hid (Below w.heap.size w w1) := hb1
  have c := check_any x n w1 hx (ht.below hb1 (Nat.le_refl _))
  obtain ⟨R, hR⟩ : ∃ R, R = rightV x n := ⟨_, rfl⟩
  rw [← hR] at c ⊢
  have g0 := cells1p hg
  have hgl := heap_lt hg
  clear hw1 hb1 HZ1 h1 hR hx ht hg
  cases R with
  | true =>
    go_enter Tryz.func83, Tryz.ntmps83
    go_wp2_with fail
    rw [← HW1.out]
    refine c.mono ?_
    clear c
    rintro e w2 ⟨rfl, hb2⟩
    have HB2 : Hid (Below w.heap.size w w2) := HB1.out.trans (hb2.mono HB1.out.size)
    clear hb2
    go_wp2
    go_ret
    exact ⟨rfl, HB2.out⟩
  | false =>
    go_enter Tryz.func83, Tryz.ntmps83
    go_wp2_with fail
    rw [← HW1.out]
    refine c.mono ?_
    clear c
    rintro e w2 ⟨rfl, hb2⟩
    have HB2 : Hid (Below w.heap.size w w2) := HB1.out.trans (hb2.mono HB1.out.size)
    clear hb2
    go_wp2
    go_ret
    exact ⟨rfl, HB2.out⟩

set_option maxRecDepth 100000 in
set_option maxHeartbeats 4000000 in
theorem pIsCall_any (S : Nat → Prop) (x : Cal) (n : Int) (bi bv : Option Addr) (ni ci nv cv : Nat) (w : World) (hii : valsR S w (.slice bi ni ci) x.slots) (hvv : valsR S w (.slice bv nv cv) x.stack) (hsm : smallC x) (ht : TabsP w) :
    Calls Tryz.prog 53 #[calV x (.slice bi ni ci) (.slice bv nv cv), .int .i64 n] w fun e w' => e = .returned (.bool (callB n x)) ∧ Below w.heap.size w w' := by
  obtain ⟨w2, hw2, hb2, HZ2, h0, hg⟩ := box2 w (.cells #[.int .i64 x.unit, .int .i64 x.at0, .int .i64 x.mark, .slice bi ni ci, .slice bv nv cv] 49) (.cells #[.int .i64 n] 3)
  have HW2 : Hid (w2 = (w.alloc (.cells #[.int .i64 x.unit, .int .i64 x.at0, .int .i64 x.mark, .slice bi ni ci, .slice bv nv cv] 49)).alloc (.cells #[.int .i64 n] 3)) := hw2
  have HB2 : Hid (Below w.heap.size w w2) := hb2
  have hz := HZ2.out
  have HF : Hid (∀ W, Below w2.heap.size w2 W → W.cell? ⟨w.heap.size, 3, none⟩ = some (.slice bi ni ci) ∧ W.cell? ⟨w.heap.size, 4, none⟩ = some (.slice bv nv cv)) := fun W hW => (cells5p ((hW.block w.heap.size (by omega)).trans h0)).2.2.2
  have HA : Hid (∀ W (u : Value) (l : List Vl) (m : Nat), Below w2.heap.size w2 W → valsR S w u l → (∀ v ∈ l, smallV v ∧ I64 v.k) → Calls Tryz.prog 85 #[u, .int .i64 (m : Int), .func (.func 83) #[] #[.pointer (some ⟨w.heap.size + 1, 0, none⟩)]] W fun e w' => e = .returned (.bool (decide (l.length ≤ m) && l.all fun v => rightV v n)) ∧ Below W.heap.size W w') := fun W u l m hW hu hl => by
    have hWw : Below w.heap.size w W := hb2.trans (hW.mono hb2.size)
    refine pAreVal_any S l u m (w.heap.size + 1) (fun v => rightV v n) W (rowIn.kept hu (valE_keeps S) hWw.size fun q _ hq => hWw.block q hq) fun i hi W' hW' => ?_
    have hWw' : Below w.heap.size w W' := hWw.trans (hW'.mono hWw.size)
    exact (pIsRight_any (w.heap.size + 1) n l[i] W' (hl _ (List.getElem_mem hi)).1 (ht.below hWw' (Nat.le_refl _)) ((hW'.block _ (by have := hW.size; omega)).trans ((hW.block _ (by omega)).trans hg))).mono fun e w' ⟨he, hb⟩ => ⟨he, hW'.trans (hb.mono hW'.size)⟩
  obtain ⟨q4, hq4⟩ : ∃ q, q = (decide (x.slots.length ≤ 32) && x.slots.all fun v => rightV v n) := ⟨_, rfl⟩
  obtain ⟨q5, hq5⟩ : ∃ q, q = (decide (x.stack.length ≤ 256) && x.stack.all fun v => rightV v n) := ⟨_, rfl⟩
  have C4 : Hid (∀ W, Below w2.heap.size w2 W → Calls Tryz.prog 85 #[.slice bi ni ci, .int .i64 32, .func (.func 83) #[] #[.pointer (some ⟨w.heap.size + 1, 0, none⟩)]] W fun e w' => e = .returned (.bool q4) ∧ Below W.heap.size W w') := fun W hW => by rw [hq4]; exact HA.out W _ _ 32 hW hii hsm.2.1.1
  have C5 : Hid (∀ W, Below w2.heap.size w2 W → Calls Tryz.prog 85 #[.slice bv nv cv, .int .i64 256, .func (.func 83) #[] #[.pointer (some ⟨w.heap.size + 1, 0, none⟩)]] W fun e w' => e = .returned (.bool q5) ∧ Below W.heap.size W w') := fun W hW => by rw [hq5]; exact HA.out W _ _ 256 hW hvv hsm.2.2.1
  obtain ⟨R, hR⟩ : ∃ R, R = callB n x := ⟨_, rfl⟩
  have HR0 : Hid (R = (decide (0 ≤ x.unit ∧ 0 ≤ x.at0 ∧ -1 ≤ x.mark) && (q4 && q5))) := by show _ = _; rw [hR, hq4, hq5]; rfl
  rw [← hR]
  obtain ⟨k0, k1, k2, -, -⟩ := cells5p h0
  have hb0 := Below.refl w2.heap.size w2
  obtain ⟨k3, k4⟩ := HF.out w2 hb0
  have c4 := C4.out w2 hb0
  clear hw2 hb2 hz HA hR hq4 hq5 hii hvv hsm ht h0 hg hb0
  by_cases h1 : 0 ≤ x.unit
  · by_cases h2 : 0 ≤ x.at0
    · by_cases h3 : -1 ≤ x.mark
      · have HR : Hid (R = (q4 && q5)) := by show _ = _; rw [HR0.out, decide_eq_true ⟨h1, h2, h3⟩, Bool.true_and]
        clear HR0
        go_enter Tryz.func53, Tryz.ntmps53
        go_wp2_with fail
        rw [← HW2.out]
        refine c4.mono ?_
        clear c4 k0 k1 k2 k3 k4
        rintro e v1 ⟨rfl, hb1⟩
        have HV1 : Hid (Below w2.heap.size w2 v1) := hb1
        clear hb1
        cases q4 with
        | false =>
          go_wp2
          go_ret
          rw [HR.out]
          exact ⟨rfl, HB2.out.trans (HV1.out.mono HB2.out.size)⟩
        | true =>
          obtain ⟨k3, k4⟩ := HF.out v1 HV1.out
          have c5 := C5.out v1 HV1.out
          go_wp2_with fail
          refine c5.mono ?_
          clear c5 k3 k4
          rintro e v2 ⟨rfl, hb1⟩
          have HV2 : Hid (Below w2.heap.size w2 v2) := HV1.out.trans (hb1.mono HV1.out.size)
          clear hb1
          go_wp2
          go_ret
          rw [HR.out]
          exact ⟨rfl, HB2.out.trans (HV2.out.mono HB2.out.size)⟩
      · have HR : Hid (R = false) := by show _ = _; rw [HR0.out, decide_eq_false (fun h => h3 h.2.2), Bool.false_and]
        clear HR0 c4
        go_enter Tryz.func53, Tryz.ntmps53
        go_wp2_with fail
        rw [← HW2.out]
        go_wp2
        go_ret
        rw [HR.out]
        exact ⟨rfl, HB2.out⟩
    · have HR : Hid (R = false) := by show _ = _; rw [HR0.out, decide_eq_false (fun h => h2 h.2.1), Bool.false_and]
      clear HR0 c4
      go_enter Tryz.func53, Tryz.ntmps53
      go_wp2_with fail
      rw [← HW2.out]
      go_wp2
      go_ret
      rw [HR.out]
      exact ⟨rfl, HB2.out⟩
  · have HR : Hid (R = false) := by show _ = _; rw [HR0.out, decide_eq_false (fun h => h1 h.1), Bool.false_and]
    clear HR0 c4
    go_enter Tryz.func53, Tryz.ntmps53
    go_wp2_with fail
    rw [← HW2.out]
    go_wp2
    go_ret
    rw [HR.out]
    exact ⟨rfl, HB2.out⟩

set_option maxRecDepth 100000 in
set_option maxHeartbeats 4000000 in
theorem pIsHeap_any (S : Nat → Prop) (os : List Ob) (b : Option Addr) (n c : Nat) (w : World) (hin : objsR S w (.slice b n c) os) (hs : ∀ o ∈ os, smallOb o) (hl : os.length ≤ 1048576) (ht : TabsP w) :
    Calls Tryz.prog 54 #[.slice b n c] w fun e w' => e = .returned (.bool (heapB os)) ∧ Below w.heap.size w w' := by
  have cl := load_any S 4096 os (.slice b n c) w (objsIn_of hin) (fun o ho => ⟨(hs o ho).1, fun v hv => ((hs o ho).2.1 v hv).1⟩) (fun o ho => (hs o ho).2.2) hl ht
  have h4 : mostN 4096 = 4096 := by decide
  have cl2 : Calls Tryz.prog 86 #[.int .i64 4096, .slice b n c] w fun e w' => Below w.heap.size w w' ∧ ∃ q e2, e = .returned (.tuple #[.pointer q, .int .i64 e2]) ∧ (e2 == 0) = heapB os := cl.mono fun e w' h => by
    obtain ⟨hb, h | h | h⟩ := h
    · obtain ⟨he, o, ho, hf⟩ := h
      refine ⟨hb, none, 2, he, ?_⟩
      have : (os.all fun o => obB o os.length) = false := by rw [List.all_eq_false]; exact ⟨o, ho, by rw [hf]; simp⟩
      unfold heapB
      rw [this]; rfl
    · obtain ⟨he, ha, hf⟩ := h
      refine ⟨hb, none, 12, he, ?_⟩
      unfold heapB
      rw [decide_eq_false (by omega), Bool.and_false]; rfl
    · obtain ⟨ha, hf, g, vo, vc, he, -⟩ := h
      refine ⟨hb, _, 0, he, ?_⟩
      have : (os.all fun o => obB o os.length) = true := by rw [List.all_eq_true]; exact ha
      unfold heapB
      rw [this, decide_eq_true (by omega)]; rfl
  obtain ⟨R, hR⟩ : ∃ R, R = heapB os := ⟨_, rfl⟩
  rw [← hR] at cl2 ⊢
  clear cl hin hs hl ht hR h4
  go_enter Tryz.func54, Tryz.ntmps54
  go_wp2_with fail
  refine cl2.mono ?_
  clear cl2
  rintro e w1 ⟨hb, q, e2, rfl, h2⟩
  have HB : Hid (Below w.heap.size w w1) := hb
  have HE : Hid ((e2 == 0) = R) := h2
  clear hb h2
  go_wp2
  go_ret
  exact ⟨by rw [← HE.out]; rfl, HB.out⟩

set_option maxRecDepth 100000 in
set_option maxHeartbeats 4000000 in
theorem pMay1_any (S : Nat → Prop) (g : Nat) (u0 u1 u2 u3 u5 u6 : Value) (bh : Option Addr) (nh ch : Nat) (x : Cal) (bi bv : Option Addr) (ni ci nv cv : Nat) (w : World) (hii : valsR S w (.slice bi ni ci) x.slots) (hvv : valsR S w (.slice bv nv cv) x.stack) (hsm : smallC x) (ht : TabsP w)
    (hg : w.heap[g]? = some (.cells #[u0, u1, u2, u3, .slice bh nh ch, u5, u6] 27 (0, 0))) :
    Calls Tryz.prog 52 #[calV x (.slice bi ni ci) (.slice bv nv cv), .pointer (some ⟨g, 0, none⟩)] w fun e w' => e = .returned (.bool (callB nh x)) ∧ Below w.heap.size w w' := by
  obtain ⟨w1, hw1, hb1, HZ1, h1⟩ := box1 w (.cells #[.int .i64 x.unit, .int .i64 x.at0, .int .i64 x.mark, .slice bi ni ci, .slice bv nv cv] 49)
  have HW1 : Hid (w1 = w.alloc (.cells #[.int .i64 x.unit, .int .i64 x.at0, .int .i64 x.mark, .slice bi ni ci, .slice bv nv cv] 49)) := hw1
  have HB1 : Hid (Below w.heap.size w w1) := hb1
  have c := pIsCall_any S x nh bi bv ni ci nv cv w1 (rowIn.kept hii (valE_keeps S) hb1.size fun q _ hq => hb1.block q hq) (rowIn.kept hvv (valE_keeps S) hb1.size fun q _ hq => hb1.block q hq) hsm (ht.below hb1 (Nat.le_refl _))
  obtain ⟨R, hR⟩ : ∃ R, R = callB nh x := ⟨_, rfl⟩
  rw [← hR] at c ⊢
  obtain ⟨-, -, -, -, g4, -, -⟩ := cells7 hg
  have hgl := heap_lt hg
  clear hw1 hb1 HZ1 h1 hR hsm ht hg hii hvv
  go_enter Tryz.func52, Tryz.ntmps52
  go_wp2_with fail
  rw [← HW1.out]
  refine c.mono ?_
  clear c
  rintro e w2 ⟨rfl, hb2⟩
  have HB2 : Hid (Below w.heap.size w w2) := HB1.out.trans (hb2.mono HB1.out.size)
  clear hb2
  go_wp2
  go_ret
  exact ⟨rfl, HB2.out⟩

set_option maxRecDepth 100000 in
set_option maxHeartbeats 4000000 in
theorem pMay_any (S : Nat → Prop) (s : Sn) (bc bh : Option Addr) (nc cc nh ch : Nat) (w : World) (hin : SnIn S w s (.slice bc nc cc) (.slice bh nh ch)) (hsm : SmallS s) (ht : TabsP w) :
    Calls Tryz.prog 28 #[snV s (.slice bc nc cc) (.slice bh nh ch)] w fun e w' => e = .returned (.bool (mayS s)) ∧ Below w.heap.size w w' := by
  obtain ⟨w2, hw2, hb2, HZ2, h0⟩ := box1 w (.cells #[.int .i64 s.pos, .int .i64 s.st, .int .i64 s.ft, .slice bc nc cc, .slice bh nh ch, .string (strB s.out), .int .i64 s.rd] 27)
  have HW2 : Hid (w2 = w.alloc (.cells #[.int .i64 s.pos, .int .i64 s.st, .int .i64 s.ft, .slice bc nc cc, .slice bh nh ch, .string (strB s.out), .int .i64 s.rd] 27)) := hw2
  have HB2 : Hid (Below w.heap.size w w2) := hb2
  have hz := HZ2.out
  obtain ⟨hnh, -⟩ : nh = s.heap.length ∧ True := ⟨by obtain ⟨b, c, e, -⟩ := hin.heap.at; cases e; rfl, trivial⟩
  have HF : Hid (∀ W, Below w2.heap.size w2 W → W.cell? ⟨w.heap.size, 0, none⟩ = some (.int .i64 s.pos) ∧ W.cell? ⟨w.heap.size, 1, none⟩ = some (.int .i64 s.st) ∧ W.cell? ⟨w.heap.size, 2, none⟩ = some (.int .i64 s.ft) ∧ W.cell? ⟨w.heap.size, 3, none⟩ = some (.slice bc nc cc) ∧ W.cell? ⟨w.heap.size, 4, none⟩ = some (.slice bh nh ch) ∧ W.cell? ⟨w.heap.size, 5, none⟩ = some (.string (strB s.out)) ∧ W.cell? ⟨w.heap.size, 6, none⟩ = some (.int .i64 s.rd)) := fun W hW => cells7 ((hW.block w.heap.size (by omega)).trans h0)
  obtain ⟨q1, hq1⟩ : ∃ q, q = decide (0 ≤ s.st ∧ s.st ≤ 2) := ⟨_, rfl⟩
  obtain ⟨q2, hq2⟩ : ∃ q, q = decide (0 ≤ s.ft ∧ s.ft ≤ 10) := ⟨_, rfl⟩
  obtain ⟨q4, hq4⟩ : ∃ q, q = (decide (s.calls.length ≤ 64) && s.calls.all (callB s.heap.length)) := ⟨_, rfl⟩
  obtain ⟨q5, hq5⟩ : ∃ q, q = heapB s.heap := ⟨_, rfl⟩
  have C1 : Hid (∀ W, Calls Tryz.prog 49 #[.int .i64 s.st, .int .i64 0, .int .i64 2] W fun e w' => e = .returned (.bool q1) ∧ Below W.heap.size W w') := fun W => by rw [hq1]; exact pInS_any s.st 0 2 W
  have C2 : Hid (∀ W, Calls Tryz.prog 50 #[.int .i64 s.ft, .int .i64 0, .int .i64 10] W fun e w' => e = .returned (.bool q2) ∧ Below W.heap.size W w') := fun W => by rw [hq2]; exact pInF_any s.ft 0 10 W
  have C4 : Hid (∀ W, Below w2.heap.size w2 W → Calls Tryz.prog 51 #[.slice bc nc cc, .int .i64 64, .func (.func 52) #[] #[.pointer (some ⟨w.heap.size, 0, none⟩)]] W fun e w' => e = .returned (.bool q4) ∧ Below W.heap.size W w') := fun W hW => by
    have hWw : Below w.heap.size w W := hb2.trans (hW.mono hb2.size)
    rw [hq4]
    refine pAreCal_any S s.calls _ 64 w.heap.size (callB s.heap.length) W (hin.below hWw).calls fun i hi bi ni ci bv nv cv W' hvi hvv hW' => ?_
    have hWw' : Below w.heap.size w W' := hWw.trans (hW'.mono hWw.size)
    have hc := pMay1_any S w.heap.size _ _ _ _ _ _ bh nh ch s.calls[i] bi bv ni ci nv cv W' (rowIn.kept hvi (valE_keeps S) hW'.size fun q _ hq => hW'.block q hq) (rowIn.kept hvv (valE_keeps S) hW'.size fun q _ hq => hW'.block q hq) (hsm.calls.1 _ (List.getElem_mem hi)) (ht.below hWw' (Nat.le_refl _)) ((hW'.block _ (by have := hW.size; omega)).trans ((hW.block _ (by omega)).trans h0))
    rw [hnh] at hc
    exact hc.mono fun e w' ⟨he, hb⟩ => ⟨he, hW'.trans (hb.mono hW'.size)⟩
  have C5 : Hid (∀ W, Below w2.heap.size w2 W → Calls Tryz.prog 54 #[.slice bh nh ch] W fun e w' => e = .returned (.bool q5) ∧ Below W.heap.size W w') := fun W hW => by
    have hWw : Below w.heap.size w W := hb2.trans (hW.mono hb2.size)
    rw [hq5]
    exact pIsHeap_any S s.heap bh nh ch W (hin.below hWw).heap hsm.heap.1 hsm.heap.2 (ht.below hWw (Nat.le_refl _))
  obtain ⟨R, hR⟩ : ∃ R, R = mayS s := ⟨_, rfl⟩
  have HR0 : Hid (R = (decide (0 ≤ s.pos ∧ 0 ≤ s.rd ∧ (0 ≤ s.st ∧ s.st ≤ 2) ∧ (0 ≤ s.ft ∧ s.ft ≤ 10) ∧ s.out.length ≤ 4096) && (q4 && q5))) := by show _ = _; rw [hR, hq4, hq5]; rfl
  have HR1 : Hid (0 ≤ s.pos → 0 ≤ s.rd → R = (q1 && (q2 && (decide (s.out.length ≤ 4096) && (q4 && q5))))) := fun h1 h2 => by
    rw [HR0.out, hq1, hq2]
    by_cases e1 : 0 ≤ s.st ∧ s.st ≤ 2
    · by_cases e2 : 0 ≤ s.ft ∧ s.ft ≤ 10
      · by_cases e3 : s.out.length ≤ 4096
        · rw [decide_eq_true ⟨h1, h2, e1, e2, e3⟩, decide_eq_true e1, decide_eq_true e2, decide_eq_true e3]; rfl
        · rw [decide_eq_false (fun h => e3 h.2.2.2.2), decide_eq_false e3]; simp
      · rw [decide_eq_false (fun h => e2 h.2.2.2.1), decide_eq_false e2]; simp
    · rw [decide_eq_false (fun h => e1 h.2.2.1), decide_eq_false e1]; simp
  rw [← hR]
  have HSZ : Hid ((strB s.out).size = s.out.length) := strB_size _
  have hb0 := Below.refl w2.heap.size w2
  obtain ⟨k0, k1, k2, k3, k4, k5, k6⟩ := HF.out w2 hb0
  have c1 := C1.out w2
  clear hw2 hb2 hz hR hq1 hq2 hq4 hq5 hin hsm ht h0 hb0 hnh
  by_cases h1 : 0 ≤ s.pos
  · by_cases h2 : 0 ≤ s.rd
    · have HR : Hid (R = (q1 && (q2 && (decide (s.out.length ≤ 4096) && (q4 && q5))))) := HR1.out h1 h2
      clear HR0 HR1
      go_enter Tryz.func28, Tryz.ntmps28
      go_wp2_with fail
      rw [← HW2.out]
      refine c1.mono ?_
      clear c1 k0 k1 k2 k3 k4 k5 k6
      rintro e v1 ⟨rfl, hb1⟩
      have HV1 : Hid (Below w2.heap.size w2 v1) := hb1
      clear hb1
      cases q1 with
      | false =>
        go_wp2
        go_ret
        rw [HR.out]
        exact ⟨rfl, HB2.out.trans (HV1.out.mono HB2.out.size)⟩
      | true =>
        obtain ⟨k0, k1, k2, k3, k4, k5, k6⟩ := HF.out v1 HV1.out
        have c2 := C2.out v1
        go_wp2_with fail
        refine c2.mono ?_
        clear c2 k0 k1 k2 k3 k4 k5 k6
        rintro e v2 ⟨rfl, hb1⟩
        have HV2 : Hid (Below w2.heap.size w2 v2) := HV1.out.trans (hb1.mono HV1.out.size)
        clear hb1
        cases q2 with
        | false =>
          go_wp2
          go_ret
          rw [HR.out]
          exact ⟨rfl, HB2.out.trans (HV2.out.mono HB2.out.size)⟩
        | true =>
          obtain ⟨k0, k1, k2, k3, k4, k5, k6⟩ := HF.out v2 HV2.out
          obtain ⟨so, hso⟩ : ∃ so, so = strB s.out := ⟨_, rfl⟩
          rw [← hso] at k5 HSZ
          clear hso
          by_cases h3 : s.out.length ≤ 4096
          · have h3' : (so.size : Int) ≤ 4096 := by rw [HSZ.out]; omega
            have HRa : Hid (R = (q4 && q5)) := by show _ = _; rw [HR.out, decide_eq_true h3]; rfl
            have c4 := C4.out v2 HV2.out
            clear HR
            go_wp2_with fail
            refine c4.mono ?_
            clear c4 k0 k1 k2 k3 k4 k5 k6
            rintro e v3 ⟨rfl, hb1⟩
            have HV3 : Hid (Below w2.heap.size w2 v3) := HV2.out.trans (hb1.mono HV2.out.size)
            clear hb1
            cases q4 with
            | false =>
              go_wp2
              go_ret
              rw [HRa.out]
              exact ⟨rfl, HB2.out.trans (HV3.out.mono HB2.out.size)⟩
            | true =>
              obtain ⟨k0, k1, k2, k3, k4, k5, k6⟩ := HF.out v3 HV3.out
              have c5 := C5.out v3 HV3.out
              go_wp2_with fail
              refine c5.mono ?_
              clear c5 k0 k1 k2 k3 k4 k5 k6
              rintro e v4 ⟨rfl, hb1⟩
              have HV4 : Hid (Below w2.heap.size w2 v4) := HV3.out.trans (hb1.mono HV3.out.size)
              clear hb1
              go_wp2
              go_ret
              rw [HRa.out]
              exact ⟨rfl, HB2.out.trans (HV4.out.mono HB2.out.size)⟩
          · have h3' : ¬ (so.size : Int) ≤ 4096 := by rw [HSZ.out]; omega
            have HRa : Hid (R = false) := by show _ = _; rw [HR.out, decide_eq_false h3]; rfl
            clear HR
            go_wp2
            go_ret
            rw [HRa.out]
            exact ⟨rfl, HB2.out.trans (HV2.out.mono HB2.out.size)⟩
    · have HR : Hid (R = false) := by show _ = _; rw [HR0.out, decide_eq_false (fun h => h2 h.2.1), Bool.false_and]
      clear HR0 HR1 c1
      go_enter Tryz.func28, Tryz.ntmps28
      go_wp2_with fail
      rw [← HW2.out]
      go_wp2
      go_ret
      rw [HR.out]
      exact ⟨rfl, HB2.out⟩
  · have HR : Hid (R = false) := by show _ = _; rw [HR0.out, decide_eq_false (fun h => h1 h.1), Bool.false_and]
    clear HR0 HR1 c1
    go_enter Tryz.func28, Tryz.ntmps28
    go_wp2_with fail
    rw [← HW2.out]
    go_wp2
    go_ret
    rw [HR.out]
    exact ⟨rfl, HB2.out⟩

set_option maxRecDepth 100000 in
set_option maxHeartbeats 4000000 in
theorem pCheck_any (S : Nat → Prop) (s : Sn) (bc bh : Option Addr) (nc cc nh ch : Nat) (w : World) (hin : SnIn S w s (.slice bc nc cc) (.slice bh nh ch)) (hsm : SmallS s) (ht : TabsP w) :
    Calls Tryz.prog 12 #[snV s (.slice bc nc cc) (.slice bh nh ch)] w fun e w' => e = .returned (.int .i64 (errR (mayS s))) ∧ Below w.heap.size w w' := by
  obtain ⟨w2, hw2, hb2, HZ2, h0⟩ := box1 w (.cells #[.int .i64 s.pos, .int .i64 s.st, .int .i64 s.ft, .slice bc nc cc, .slice bh nh ch, .string (strB s.out), .int .i64 s.rd] 27)
  have HW2 : Hid (w2 = w.alloc (.cells #[.int .i64 s.pos, .int .i64 s.st, .int .i64 s.ft, .slice bc nc cc, .slice bh nh ch, .string (strB s.out), .int .i64 s.rd] 27)) := hw2
  have HB2 : Hid (Below w.heap.size w w2) := hb2
  have c := pMay_any S s bc bh nc cc nh ch w2 (hin.below hb2) hsm (ht.below hb2 (Nat.le_refl _))
  obtain ⟨R, hR⟩ : ∃ R, R = mayS s := ⟨_, rfl⟩
  rw [← hR] at c ⊢
  clear hw2 hb2 HZ2 h0 hR hin hsm ht
  go_enter Tryz.func12, Tryz.ntmps12
  go_wp2_with fail
  rw [← HW2.out]
  refine c.mono ?_
  clear c
  rintro e w3 ⟨rfl, hb3⟩
  have HB3 : Hid (Below w.heap.size w w3) := HB2.out.trans (hb3.mono HB2.out.size)
  clear hb3
  cases R with
  | true =>
    go_wp2
    go_ret
    exact ⟨rfl, HB3.out⟩
  | false =>
    go_wp2
    go_ret
    exact ⟨rfl, HB3.out⟩
end Go.Proofs.YtbdgniiafdjmiaaGreatDoor
