/- HeapPlays. -/
import Derived.Test.YtchpmnmngeebjaaGreatDoorHSteps
import Derived.Test.YtchpmnmngeebjaaGreatDoorHLives
namespace Go.Proofs.YtchpmnmngeebjaaGreatDoor
open Go.RowKit Go.Shelf

theorem PlayIn.kept2 {S T : Nat → Prop} {w w' : World} {m : Nat} {os : List Ob} {h : Nat} {vo vc vL : Value} (H : PlayIn S T w m os h vo vc vL) (hs : w'.heap.size = w.heap.size) (hk : ∀ q, S q ∨ T q → w'.heap[q]? = w.heap[q]?) : PlayIn S T w' m os h vo vc vL :=
  ⟨H.hp.kept fun q hq _ => hk q (.inl hq), H.ref.kept (by rw [hs]; exact Nat.le_refl _) fun q hq _ => hk q (.inr hq), H.form, fun q hq => by rw [hs]; exact H.low q hq, H.apart⟩

set_option maxRecDepth 100000 in
set_option maxHeartbeats 8000000 in
theorem heapPlays_out (mm : Int) (base : Option Addr) (len cap : Nat) (x : Vl) (w : World) (ht : TabsP w) (hl : 60 < len) (hl2 : len ≤ 1048576) :
    Calls Tryz.prog 3 #[.int .i64 mm, .slice base len cap, vlV x] w fun e w' => e = .returned (.bool true) ∧ Below w.heap.size w w' := by
  have hli : (60 : Int) < (len : Int) := by omega
  have HT : Hid (TabsP w) := ht
  obtain ⟨w1, hw1⟩ : ∃ w1, w1 = w.alloc (.cells #[.int .i64 x.k, .int .i64 x.n, .string (strB x.s)] 25) := ⟨_, rfl⟩
  have hs1 : w1.heap.size = w.heap.size + 1 := by rw [hw1]; simp
  have hb1 : Below w.heap.size w w1 := by rw [hw1]; exact (Below.refl _ _).alloc (Nat.le_refl _) _
  have hbx : w1.heap[w.heap.size]? = some (.cells #[.int .i64 x.k, .int .i64 x.n, .string (strB x.s)] 25 (0, 0)) := by rw [hw1]; exact World.alloc_heap_new _ _
  have cn := new_any mm w1
  obtain ⟨m, hm⟩ : ∃ m, m = mostN mm := ⟨_, rfl⟩
  have hml : m ≤ 4096 := by rw [hm]; exact mostN_le mm
  rw [← hm] at cn
  have HMM : Hid (m = mostN mm) := hm
  obtain ⟨N, hN⟩ : ∃ N, N = w1.heap.size := ⟨_, rfl⟩
  rw [← hN] at cn
  have HNE : Hid (N = w1.heap.size) := hN
  have hNw : N = w.heap.size + 1 := by omega
  have HB1 : Hid (Below w.heap.size w w1) := hb1
  have HBX : Hid (w1.heap[w.heap.size]? = some (.cells #[.int .i64 x.k, .int .i64 x.n, .string (strB x.s)] 25 (0, 0))) := hbx
  have hw1' := hw1.symm
  obtain ⟨k, xn, s⟩ := x
  have HNW : Hid (N = w.heap.size + 1) := hNw
  clear hw1 hb1 hbx ht hm hs1 hN hNw
  go_enter Tryz.func3, Tryz.ntmps3
  go_wp2_with fail
  refine cn.mono ?_
  clear cn hw1'
  rintro e w2 ⟨rfl, H2, hb2⟩
  have hs2 : N ≤ w2.heap.size := by have := hb2.size; have := HNE.out; omega
  have HH2 : Hid (HpIn (fun q => N ≤ q ∧ q < w2.heap.size) w2 m [] N (.slice none 0 0) (.slice none 0 0)) := H2.low
  have HB12 : Hid (Below w1.heap.size w1 w2) := by show Below _ _ _; rw [← HNE.out]; exact hb2
  have cr := refNew_any mm w2
  rw [← HMM.out] at cr
  obtain ⟨M, hM⟩ : ∃ M : Int, M = (m : Int) := ⟨_, rfl⟩
  have HM : Hid (M = (m : Int)) := hM
  rw [show rhV m (.slice none 0 0) = .agg #[.int .i64 M, .slice none 0 0] by rw [hM]] at cr
  clear H2 hb2 hM
  go_wp2_with fail
  refine cr.mono ?_
  clear cr
  rintro e w3 ⟨rfl, hb3⟩
  have hs3 := hb3.size
  obtain ⟨w4, hw4⟩ : ∃ w4, w4 = w3.alloc (.cells #[.int .i64 M, .slice none 0 0] 30) := ⟨_, rfl⟩
  have hz4 : w4.heap.size = w3.heap.size + 1 := by rw [hw4]; simp
  have h34 : Below w3.heap.size w3 w4 := by rw [hw4]; exact (Below.refl _ _).alloc (Nat.le_refl _) _
  have hx4 : w4.heap[w3.heap.size]? = some (.cells #[.int .i64 M, .slice none 0 0] 30 (0, 0)) := by rw [hw4]; exact World.alloc_heap_new _ _
  have HW4 : Hid (w4 = w3.alloc (.cells #[.int .i64 M, .slice none 0 0] 30)) := hw4
  have h24 : Below w2.heap.size w2 w4 := hb3.trans (h34.mono hs3)
  have hw4w : Below w.heap.size w w4 := HB1.out.trans ((HB12.out.trans (h24.mono HB12.out.size)).mono (by have := HNE.out; have := HNW.out; omega))
  have HW4w : Hid (Below w.heap.size w w4) := hw4w
  have cv := lives06_any w4 (HT.out.below hw4w (Nat.le_refl _))
  clear hx4 h34 h24 hb3 hw4 hw4w
  go_wp2_with fail
  rw [← HW4.out]
  refine cv.mono ?_
  clear cv
  rintro e w9 ⟨rfl, hb9⟩
  have HB9 : Hid (Below w.heap.size w w9) := HW4w.out.trans (hb9.mono HW4w.out.size)
  clear hb9
  go_wp2
  go_ret
  exact ⟨rfl, HB9.out⟩

set_option maxRecDepth 100000 in
set_option maxHeartbeats 16000000 in
theorem heapPlays_in (mm : Int) (base : Option Addr) (cap : Nat) (l : List Ac) (x : Vl) (w : World) (hin : actsIn w base l) (hs : ∀ a ∈ l, smallA a) (hl : l.length ≤ 60) (hx : smallV x) (ht : TabsP w) :
    Calls Tryz.prog 3 #[.int .i64 mm, .slice base l.length cap, vlV x] w fun e w' => e = .returned (.bool true) ∧ Below w.heap.size w w' := by
  have hli : ¬ (60 : Int) < (l.length : Int) := by omega
  have HIN : Hid (actsIn w base l) := hin
  have HSA : Hid (∀ a ∈ l, smallA a) := hs
  have HXS : Hid (smallV x) := hx
  clear hin hs hx
  have HT : Hid (TabsP w) := ht
  obtain ⟨w1, hw1⟩ : ∃ w1, w1 = w.alloc (.cells #[.int .i64 x.k, .int .i64 x.n, .string (strB x.s)] 25) := ⟨_, rfl⟩
  have hs1 : w1.heap.size = w.heap.size + 1 := by rw [hw1]; simp
  have hb1 : Below w.heap.size w w1 := by rw [hw1]; exact (Below.refl _ _).alloc (Nat.le_refl _) _
  have hbx : w1.heap[w.heap.size]? = some (.cells #[.int .i64 x.k, .int .i64 x.n, .string (strB x.s)] 25 (0, 0)) := by rw [hw1]; exact World.alloc_heap_new _ _
  have cn := new_any mm w1
  obtain ⟨m, hm⟩ : ∃ m, m = mostN mm := ⟨_, rfl⟩
  have hml : m ≤ 4096 := by rw [hm]; exact mostN_le mm
  rw [← hm] at cn
  have HMM : Hid (m = mostN mm) := hm
  obtain ⟨N, hN⟩ : ∃ N, N = w1.heap.size := ⟨_, rfl⟩
  rw [← hN] at cn
  have HNE : Hid (N = w1.heap.size) := hN
  have hNw : N = w.heap.size + 1 := by omega
  have HB1 : Hid (Below w.heap.size w w1) := hb1
  have HBX : Hid (w1.heap[w.heap.size]? = some (.cells #[.int .i64 x.k, .int .i64 x.n, .string (strB x.s)] 25 (0, 0))) := hbx
  have hw1' := hw1.symm
  obtain ⟨k, xn, s⟩ := x
  have HNW : Hid (N = w.heap.size + 1) := hNw
  clear hw1 hb1 hbx ht hm hs1 hN hNw
  go_enter Tryz.func3, Tryz.ntmps3
  go_wp2_with fail
  refine cn.mono ?_
  clear cn hw1'
  rintro e w2 ⟨rfl, H2, hb2⟩
  have hs2 : N ≤ w2.heap.size := by have := hb2.size; have := HNE.out; omega
  have HH2 : Hid (HpIn (fun q => N ≤ q ∧ q < w2.heap.size) w2 m [] N (.slice none 0 0) (.slice none 0 0)) := H2.low
  have HB12 : Hid (Below w1.heap.size w1 w2) := by show Below _ _ _; rw [← HNE.out]; exact hb2
  have cr := refNew_any mm w2
  rw [← HMM.out] at cr
  obtain ⟨M, hM⟩ : ∃ M : Int, M = (m : Int) := ⟨_, rfl⟩
  have HM : Hid (M = (m : Int)) := hM
  rw [show rhV m (.slice none 0 0) = .agg #[.int .i64 M, .slice none 0 0] by rw [hM]] at cr
  clear H2 hb2 hM
  go_wp2_with fail
  refine cr.mono ?_
  clear cr
  rintro e w3 ⟨rfl, hb3⟩
  have hs3 := hb3.size
  obtain ⟨w4, hw4⟩ : ∃ w4, w4 = w3.alloc (.cells #[.int .i64 M, .slice none 0 0] 30) := ⟨_, rfl⟩
  have hz4 : w4.heap.size = w3.heap.size + 1 := by rw [hw4]; simp
  have h34 : Below w3.heap.size w3 w4 := by rw [hw4]; exact (Below.refl _ _).alloc (Nat.le_refl _) _
  have hx4 : w4.heap[w3.heap.size]? = some (.cells #[.int .i64 M, .slice none 0 0] 30 (0, 0)) := by rw [hw4]; exact World.alloc_heap_new _ _
  have HW4 : Hid (w4 = w3.alloc (.cells #[.int .i64 M, .slice none 0 0] 30)) := hw4
  have h24 : Below w2.heap.size w2 w4 := hb3.trans (h34.mono hs3)
  have hw4w : Below w.heap.size w w4 := HB1.out.trans ((HB12.out.trans (h24.mono HB12.out.size)).mono (by have := HNE.out; have := HNW.out; omega))
  have HW4w : Hid (Below w.heap.size w w4) := hw4w
  have HR0 : Hid (RoundAt w w.heap.size w3.heap.size m M ⟨k, xn, s⟩ [] N w4) := by
    refine ⟨fun q => N ≤ q ∧ q < w2.heap.size, fun _ => False, _, _, .slice none 0 0, ⟨HH2.out.below h24, ⟨none, 0, rfl, Nat.le_refl _, Nat.zero_le _, .inl rfl⟩, .inl rfl, fun q hq => ?_, fun _ _ h => h⟩, hx4, ?_, fun q hq => ?_, fun q hq => ?_, fun q hq => ?_, hw4w⟩
    · rcases hq with h9 | h9
      · omega
      · exact h9.elim
    · exact (h24.block w.heap.size (by have := HNW.out; omega)).trans ((HB12.out.block w.heap.size (by have := HNE.out; have := HNW.out; omega)).trans HBX.out)
    · have := HNW.out; omega
    · rcases hq with h9 | h9
      · omega
      · exact h9.elim
    · rcases hq with h9 | h9
      · have := HNW.out; omega
      · exact h9.elim
  have hXw : w.heap.size < w3.heap.size := by have := HNW.out; omega
  obtain ⟨X, hX⟩ : ∃ X, X = w3.heap.size := ⟨_, rfl⟩
  rw [← hX] at HR0 hXw
  have HXE : Hid (X = w3.heap.size) := hX
  clear hx4 h34 h24 hb3 hw4 hw4w hz4
  go_wp2_with fail
  rw [← HW4.out, ← hX]
  clear hX HW4
  go_loopw [7, 9] (fun vh vi wr => ∃ (i h : Nat) (os : List Ob), i ≤ l.length ∧ vi = .int .i64 i ∧ vh = .pointer (some ⟨h, 0, none⟩) ∧ RoundAt w w.heap.size X m M ⟨k, xn, s⟩ os h wr) (fun _ vi _ => l.length - (intOf vi).toNat)
  case atStart => exact ⟨0, N, [], Nat.zero_le _, rfl, rfl, HR0.out⟩
  case round =>
    obtain ⟨i, h, os, hi, rfl, rfl, S, T, vo, vc, vL, hR⟩ := hrel
    have HR : Hid (RoundIn w wr w.heap.size X m M ⟨k, xn, s⟩ S T os h vo vc vL) := hR
    have hsw := hR.below.size
    have hXl : X < wr.heap.size := (Array.getElem?_eq_some_iff.1 hR.box).1
    have hVl : w.heap.size < wr.heap.size := (Array.getElem?_eq_some_iff.1 hR.val).1
    obtain ⟨bL, cL, rfl, -⟩ := hR.play.ref.at
    have huse := hR.play.hp.use
    clear hR
    by_cases hlt : i < l.length
    · have hi2 : (i : Int) < l.length := by omega
      obtain ⟨b, o, rfl, hbl, hall⟩ : ∃ b o, base = some ⟨b, o, none⟩ ∧ b < w.heap.size ∧ _ := by
        rcases HIN.out with h9 | ⟨b, o, e, hb9, hall⟩
        · rw [h9] at hlt; simp at hlt
        · exact ⟨b, o, e, hb9, hall⟩
      obtain ⟨u, huf, q0, q1, q2, hvu, ⟨q3, q4, q5⟩, ⟨q6, q7, q8⟩, q9⟩ := hall i hlt
      have hsm := HSA.out l[i] (List.getElem_mem hlt)
      obtain ⟨a, ha⟩ : ∃ a, a = l[i] := ⟨_, rfl⟩
      rw [← ha] at q0 q1 hvu q3 q4 q5 q6 q7 q8 q9 hsm
      obtain ⟨bu, cu, rfl, -⟩ := hvu.at
      have HU : Hid (valsIn (fun q => q < w.heap.size) w (.slice bu a.cells.length cu) a.cells) := hvu.low.wide fun q hq => hq.2
      have HUF : Hid (Value.slice bu a.cells.length cu = .slice none 0 0 ∨ ∃ ad n c, Value.slice bu a.cells.length cu = .slice (some ad) n c) := huf
      have HSM : Hid (smallA a) := hsm
      have fa : ∀ W, Below w.heap.size w W → (W.cell? ⟨b, o + i * 10, none⟩ = some (.int .i64 a.kind) ∧ W.cell? ⟨b, o + i * 10 + 1, none⟩ = some (.string (strB a.tag)) ∧ W.cell? ⟨b, o + i * 10 + 2, none⟩ = some (.slice bu a.cells.length cu)) ∧ (W.cell? ⟨b, o + i * 10 + 3, none⟩ = some (.int .i64 a.v.k) ∧ W.cell? ⟨b, o + i * 10 + 4, none⟩ = some (.int .i64 a.v.n) ∧ W.cell? ⟨b, o + i * 10 + 5, none⟩ = some (.string (strB a.v.s))) ∧ (W.cell? ⟨b, o + i * 10 + 6, none⟩ = some (.int .i64 a.x.k) ∧ W.cell? ⟨b, o + i * 10 + 7, none⟩ = some (.int .i64 a.x.n) ∧ W.cell? ⟨b, o + i * 10 + 8, none⟩ = some (.string (strB a.x.s))) ∧ W.cell? ⟨b, o + i * 10 + 9, none⟩ = some (.int .i64 a.i) := fun W hW => by
        have c := fun q => below_cell (g := b) (j := q) hW hbl
        exact ⟨⟨(c _).trans q0, (c _).trans q1, (c _).trans q2⟩, ⟨(c _).trans q3, (c _).trans q4, (c _).trans q5⟩, ⟨(c _).trans q6, (c _).trans q7, (c _).trans q8⟩, (c _).trans q9⟩
      have FA : Hid (∀ W, Below w.heap.size w W → (W.cell? ⟨b, o + i * 10, none⟩ = some (.int .i64 a.kind) ∧ W.cell? ⟨b, o + i * 10 + 1, none⟩ = some (.string (strB a.tag)) ∧ W.cell? ⟨b, o + i * 10 + 2, none⟩ = some (.slice bu a.cells.length cu)) ∧ (W.cell? ⟨b, o + i * 10 + 3, none⟩ = some (.int .i64 a.v.k) ∧ W.cell? ⟨b, o + i * 10 + 4, none⟩ = some (.int .i64 a.v.n) ∧ W.cell? ⟨b, o + i * 10 + 5, none⟩ = some (.string (strB a.v.s))) ∧ (W.cell? ⟨b, o + i * 10 + 6, none⟩ = some (.int .i64 a.x.k) ∧ W.cell? ⟨b, o + i * 10 + 7, none⟩ = some (.int .i64 a.x.n) ∧ W.cell? ⟨b, o + i * 10 + 8, none⟩ = some (.string (strB a.x.s))) ∧ W.cell? ⟨b, o + i * 10 + 9, none⟩ = some (.int .i64 a.i)) := fa
      obtain ⟨⟨t0, t1, t2⟩, ⟨t3, t4, t5⟩, ⟨t6, t7, t8⟩, t9⟩ := fa wr HR.out.below
      clear q0 q1 q2 q3 q4 q5 q6 q7 q8 q9 hall hvu huf hsm fa ha
      by_cases h100 : 100 < a.cells.length
      · have h100i : (100 : Int) < (a.cells.length : Int) := by omega
        have cv := lives06_any wr (HT.out.below HR.out.below (Nat.le_refl _))
        go_wp2_with fail
        refine cv.mono ?_
        clear cv
        rintro e w9 ⟨rfl, hb9⟩
        have HB9 : Hid (Below w.heap.size w w9) := HR.out.below.trans (hb9.mono hsw)
        clear hb9
        go_wp2
        go_ret
        exact ⟨rfl, HB9.out⟩
      have h100i : ¬ (100 : Int) < (a.cells.length : Int) := by omega
      have cst : ∀ W, Below wr.heap.size wr W → Calls Tryz.prog 7 #[.pointer (some ⟨h, 0, none⟩), .agg #[.int .i64 M, .slice bL os.length cL], acV a (.slice bu a.cells.length cu)] W fun e w' => ∃ (h' : Nat) (b' : Option Addr) (n' c' : Nat), e = .returned (.tuple #[.pointer (some ⟨h', 0, none⟩), .agg #[.int .i64 M, .slice b' n' c'], .bool true]) ∧ Hid (KeptS S W w') ∧ Hid (∃ S' T' vo vc, PlayIn S' T' w' m (stpR6 m os a) h' vo vc (.slice b' n' c') ∧ (∀ q, S' q → S q ∨ W.heap.size ≤ q) ∧ ∀ q, T' q → T q ∨ W.heap.size ≤ q) := fun W hW => by
        have hwW : Below w.heap.size w W := HR.out.below.trans (hW.mono hsw)
        rw [show Value.agg #[.int .i64 M, .slice bL os.length cL] = rhV m (.slice bL os.length cL) by rw [HM.out]]
        refine (step06_any S T (fun q => q < w.heap.size) w.heap.size m os h vo vc _ a _ W (HR.out.play.below hW) HSM.out (HU.out.kept hwW.size fun q _ hq => hwW.block q hq) (fun q hq h9 => by have := HR.out.own q h9; omega) HUF.out HR.out.own (by have := hwW.size; omega) (fun W' hW' => HT.out.below (hwW.trans hW') (Nat.le_refl _))).mono ?_
        rintro e w' ⟨h', vL', rfl, hk', S', T', vo', vc', hp', hS', hT'⟩
        obtain ⟨b', c', rfl, -⟩ := hp'.ref.at
        refine ⟨h', b', _, c', by rw [HM.out], hk', S', T', vo', vc', hp', hS', hT'⟩
      obtain ⟨g0, g1, -⟩ := cellsH2 HR.out.box
      have x0 := butS_cell (P := S) (n := wr.heap.size) t0 (by simp only; omega) (fun h9 => by have := HR.out.own _ h9; simp only at this; omega)
      have x1 := butS_cell (P := S) (n := wr.heap.size) t1 (by simp only; omega) (fun h9 => by have := HR.out.own _ h9; simp only at this; omega)
      have x2 := butS_cell (P := S) (n := wr.heap.size) t2 (by simp only; omega) (fun h9 => by have := HR.out.own _ h9; simp only at this; omega)
      have x3 := butS_cell (P := S) (n := wr.heap.size) t3 (by simp only; omega) (fun h9 => by have := HR.out.own _ h9; simp only at this; omega)
      have x4 := butS_cell (P := S) (n := wr.heap.size) t4 (by simp only; omega) (fun h9 => by have := HR.out.own _ h9; simp only at this; omega)
      have x5 := butS_cell (P := S) (n := wr.heap.size) t5 (by simp only; omega) (fun h9 => by have := HR.out.own _ h9; simp only at this; omega)
      have x6 := butS_cell (P := S) (n := wr.heap.size) t6 (by simp only; omega) (fun h9 => by have := HR.out.own _ h9; simp only at this; omega)
      have x7 := butS_cell (P := S) (n := wr.heap.size) t7 (by simp only; omega) (fun h9 => by have := HR.out.own _ h9; simp only at this; omega)
      have x8 := butS_cell (P := S) (n := wr.heap.size) t8 (by simp only; omega) (fun h9 => by have := HR.out.own _ h9; simp only at this; omega)
      have x9 := butS_cell (P := S) (n := wr.heap.size) t9 (by simp only; omega) (fun h9 => by have := HR.out.own _ h9; simp only at this; omega)
      have y0 := butS_cell (P := S) (n := wr.heap.size) g0 (by simp only; omega) (fun h9 => HR.out.offX _ (.inl h9) rfl)
      have y1 := butS_cell (P := S) (n := wr.heap.size) g1 (by simp only; omega) (fun h9 => HR.out.offX _ (.inl h9) rfl)
      have HBd : Hid (Below wr.heap.size wr wr.drew) := (Below.refl _ _).drew
      have HBUT : Hid (ButS S wr.heap.size wr wr.drew) := fun _ _ _ => rfl
      obtain ⟨OS, hOS⟩ : ∃ OS, OS = stpR6 m os a := ⟨_, rfl⟩
      rw [← hOS] at cst
      clear hOS g0 g1 t3 t4 t5 t6 t7 t8 t9 t0 t1
      go_upto_region 9 with fail
      clear t2
      go_cut [10, 11, 12] from 29 to 85 (fun px pb ok wx => ∃ (h' g : Nat) (b' : Option Addr) (n' c' : Nat) (S' T' : Nat → Prop) (vo' vc' : Value), px = .pointer (some ⟨h', 0, none⟩) ∧ pb = .pointer (some ⟨g, 0, none⟩) ∧ ok = .bool true ∧ wr.heap.size ≤ g ∧ wx.heap[g]? = some (.cells #[.int .i64 M, .slice b' n' c'] 30 (0, 0)) ∧ KeptS S wr wx ∧ PlayIn S' T' wx m OS h' vo' vc' (.slice b' n' c') ∧ (∀ q, S' q → S q ∨ wr.heap.size ≤ q) ∧ (∀ q, T' q → T q ∨ wr.heap.size ≤ q) ∧ ∀ q, S' q ∨ T' q → q ≠ g)
      case first =>
        refine mix_begin (n := 15) (S := (fun w' => ∃ c : ClsP (ButS S wr.heap.size wr), w' = c.1)) (by kernel_rfl) rfl rfl ?_
        refine mix_seg (fuel := 9) (fuel' := 15) (idx := [0, 1, 2, 3, 4, 5]) (by kernel_rfl) rfl rfl rfl (fun _ _ _ _ _ h => h) ⟨⟨wr.drew, HBUT.out⟩, rfl⟩ ?_
        show wpQuiet _ _ _ _ [_, _, _, _, _, _] _
        iterate 6 (go_big_quiet_step (fail))
        refine wpQuiet_nil ?_
        clear x0 x1 x2 x3 x4 x5 x6 x7 x8 x9 y0 y1
        refine mix_two (fuel := 8) (fuel' := 9) (i := 6) (k := 11) rfl rfl (by kernel_rfl) rfl rfl rfl (by rfl) (by rfl) ?_ ?_
        · intro K hK
          go_simp
          refine (cst _ HBd.out).mono ?_
          rintro e w4 ⟨h', b', n', c', rfl, HK4, HP4⟩
          have HKP : Hid (KeptS S wr w4) := (KeptS.of (S := S) HBd.out).trans HK4.out fun q _ h => h
          have hs4 : wr.heap.size ≤ w4.heap.size := HKP.out.size
          have HBUT4 : Hid (ButS S wr.heap.size wr w4) := fun q hq hn => HKP.out.block q hq hn
          clear cst
          (try go_simp)
          refine hK.out _ _ ⟨⟨w4, HBUT4.out⟩, rfl⟩ ?_
          clear hK K
          (try simp only [Act.put, List.setIfInBounds_toArray, List.set_cons_zero, List.set_cons_succ])
          refine mix_seg (fuel := 4) (fuel' := 8) (idx := [7, 8, 9, 10]) (by kernel_rfl) rfl rfl rfl (fun _ _ _ _ _ h => h) ⟨⟨w4, HBUT4.out⟩, rfl⟩ ?_
          show wpQuiet _ _ _ _ [_, _, _, _] _
          iterate 4 (go_big_quiet_step (fail))
          refine wpQuiet_nil ?_
          refine mix_loud (fuel := 3) (fuel' := 4) (i := 11) rfl (by kernel_rfl) rfl rfl (by rfl) ?_
          intro K hK
          go_simp
          have hbutZ : ButS S wr.heap.size wr (w4.alloc (.cells #[.int .i64 0, .slice none 0 0] 30)) := fun q hq hn => (Below.heap_alloc _ _ _ (by omega)).trans (HBUT4.out q hq hn)
          refine hK.out _ _ ⟨⟨_, hbutZ⟩, rfl⟩ ?_
          clear hK K
          (try simp only [Act.put, List.setIfInBounds_toArray, List.set_cons_zero, List.set_cons_succ])
          refine mix_seg (fuel := 2) (fuel' := 3) (idx := [12]) (by kernel_rfl) rfl rfl rfl (fun _ _ _ _ _ h => h) ⟨⟨_, hbutZ⟩, rfl⟩ ?_
          show wpQuiet _ _ _ _ [_] _
          iterate 1 (go_big_quiet_step (fail))
          refine wpQuiet_nil ?_
          refine mix_loud (fuel := 1) (fuel' := 2) (i := 13) rfl (by kernel_rfl) rfl rfl (by rfl) ?_
          intro K hK
          go_simp
          have hbutE : ButS S wr.heap.size wr (w4.alloc (.cells #[.int .i64 M, .slice b' n' c'] 30)) := fun q hq hn => (Below.heap_alloc _ _ _ (by omega)).trans (HBUT4.out q hq hn)
          refine hK.out _ _ ⟨⟨_, hbutE⟩, rfl⟩ ?_
          clear hK K
          refine mix_seg (fuel := 0) (fuel' := 1) (idx := [14]) (by kernel_rfl) rfl rfl rfl (fun _ _ _ _ _ h => h) ⟨⟨_, hbutE⟩, rfl⟩ ?_
          show wpQuiet _ _ _ _ [_] _
          iterate 1 (go_big_quiet_step (fail))
          refine wpQuiet_nil ?_
          refine mix_done (by kernel_rfl) ?_
          go_wp2_with fail
          go_meet
          obtain ⟨S', T', vo', vc', hp', hS', hT'⟩ := HP4.out
          exact ⟨h', w4.heap.size, b', n', c', S', T', vo', vc', rfl, rfl, rfl, hs4, World.alloc_heap_new _ _, HKP.out.alloc _, hp'.below ((Below.refl _ _).alloc (Nat.le_refl _) _), hS', hT', fun q hq => Nat.ne_of_lt (hp'.low q hq)⟩
        · intro K hK
          go_simp
          refine hK.out _ _ ⟨⟨(wr.alloc (.cells #[.int .i64 0, .slice none 0 0] 30)).drew, fun q hq _ => Below.heap_alloc wr _ q hq⟩, rfl⟩ ?_
          clear hK K
          (try simp only [Act.put, List.setIfInBounds_toArray, List.set_cons_zero, List.set_cons_succ])
          obtain ⟨w4, hw4⟩ : ∃ w4, w4 = (wr.alloc (.cells #[.int .i64 0, .slice none 0 0] 30)).drew := ⟨_, rfl⟩
          rw [← hw4]
          have hz4 : w4.heap.size = wr.heap.size + 1 := by rw [hw4]; simp
          have h34 : Below wr.heap.size wr w4 := by rw [hw4]; exact ((Below.refl _ _).alloc (Nat.le_refl _) _).drew
          have HB34 : Hid (Below wr.heap.size wr w4) := h34
          have HZ4 : Hid (w4.heap[wr.heap.size]? = some (.cells #[.int .i64 0, .slice none 0 0] 30 (0, 0))) := by show _ = _; rw [hw4]; exact World.alloc_heap_new _ _
          have HLS : Hid (∀ q, S q ∨ T q → q < wr.heap.size) := HR.out.play.low
          have HE4 : Hid (w4.heap.size = wr.heap.size + 1) := hz4
          clear hw4 h34 hz4
          refine mix_loud (fuel := 7) (fuel' := 8) (i := 6) rfl (by kernel_rfl) rfl rfl (by rfl) ?_
          intro K hK
          go_simp
          refine (cst _ HB34.out).mono ?_
          rintro e w5 ⟨h', b', n', c', rfl, HK5, HP5⟩
          have HKP : Hid (KeptS S wr w5) := (KeptS.of (S := S) HB34.out).trans HK5.out fun q _ h => h
          have hs5 : wr.heap.size < w5.heap.size := by have := HK5.out.size; have := HE4.out; omega
          have HBUT5 : Hid (ButS S wr.heap.size wr w5) := fun q hq hn => HKP.out.block q hq hn
          have HZ9 : Hid (w5.heap[wr.heap.size]? = some (.cells #[.int .i64 0, .slice none 0 0] 30 (0, 0))) := (HK5.out.block wr.heap.size (by have := HE4.out; omega) (fun h9 => by have := HLS.out _ (.inl h9); omega)).trans HZ4.out
          clear cst
          (try go_simp)
          refine hK.out _ _ ⟨⟨w5, HBUT5.out⟩, rfl⟩ ?_
          clear hK K
          (try simp only [Act.put, List.setIfInBounds_toArray, List.set_cons_zero, List.set_cons_succ])
          refine mix_seg (fuel := 3) (fuel' := 7) (idx := [7, 8, 9, 10]) (by kernel_rfl) rfl rfl rfl (fun _ _ _ _ _ h => h) ⟨⟨w5, HBUT5.out⟩, rfl⟩ ?_
          show wpQuiet _ _ _ _ [_, _, _, _] _
          iterate 4 (go_big_quiet_step (fail))
          refine wpQuiet_nil ?_
          refine mix_seg (fuel := 2) (fuel' := 3) (idx := [12]) (by kernel_rfl) rfl rfl rfl (fun _ _ _ _ _ h => h) ⟨⟨w5, HBUT5.out⟩, rfl⟩ ?_
          show wpQuiet _ _ _ _ [_] _
          iterate 1 (go_big_quiet_step (fail))
          refine wpQuiet_nil ?_
          obtain ⟨s0, s1, sf⟩ := cellsH2 HZ9.out
          have sf0 := sf 0
          have sf1 := sf 1
          refine mix_loud (fuel := 1) (fuel' := 2) (i := 13) rfl (by kernel_rfl) rfl rfl (by rfl) ?_
          intro K hK
          go_simp
          have hbutE : ButS S wr.heap.size wr ((w5.setCell ⟨wr.heap.size, 0, none⟩ (.int .i64 M)).setCell ⟨wr.heap.size, 1, none⟩ (.slice b' n' c')) := fun q hq hn => by
            rw [Below.heap_setCell _ _ _ _ (by simp only; omega), Below.heap_setCell _ _ _ _ (by simp only; omega)]
            exact HBUT5.out q hq hn
          refine hK.out _ _ ⟨⟨_, hbutE⟩, rfl⟩ ?_
          clear hK K
          refine mix_seg (fuel := 0) (fuel' := 1) (idx := [14]) (by kernel_rfl) rfl rfl rfl (fun _ _ _ _ _ h => h) ⟨⟨_, hbutE⟩, rfl⟩ ?_
          show wpQuiet _ _ _ _ [_] _
          iterate 1 (go_big_quiet_step (fail))
          refine wpQuiet_nil ?_
          refine mix_done (by kernel_rfl) ?_
          go_wp2_with fail
          go_meet
          obtain ⟨S', T', vo', vc', hp', hS', hT'⟩ := HP5.out
          have hoff : ∀ q, S' q ∨ T' q → q ≠ wr.heap.size := fun q hq => by
            have h4 := HE4.out
            rcases hq with h9 | h9
            · rcases hS' q h9 with h8 | h8
              · have := HLS.out q (.inl h8); omega
              · omega
            · rcases hT' q h9 with h8 | h8
              · have := HLS.out q (.inr h8); omega
              · omega
          refine ⟨h', wr.heap.size, b', n', c', S', T', vo', vc', rfl, rfl, rfl, Nat.le_refl _, setCellH_block _ (setCellH_block _ HZ9.out), (HKP.out.set _ (fun h => by simp only at h; omega)).set _ (fun h => by simp only at h; omega), hp'.kept2 (by simp) (fun q hq => ?_), fun q hq => ?_, fun q hq => ?_, hoff⟩
          · rw [Below.heap_setCell _ _ _ _ (by simpa using hoff q hq), Below.heap_setCell _ _ _ _ (by simpa using hoff q hq)]
          · rcases hS' q hq with h8 | h8
            · exact .inl h8
            · right; have := HE4.out; omega
          · rcases hT' q hq with h8 | h8
            · exact .inl h8
            · right; have := HE4.out; omega
      case rest =>
        clear x0 x1 x2 x3 x4 x5 x6 x7 x8 x9 y0 y1 cst
        obtain ⟨h', g, b', n', c', S', T', vo', vc', rfl, rfl, rfl, hg, hbox, hk, hp, hS', hT', hne⟩ := hcut
        have hgl : g < wc.heap.size := (Array.getElem?_eq_some_iff.1 hbox).1
        have hsc := hk.size
        have hBc : Below w.heap.size w wc := HR.out.below.trans (hk.below hsw HR.out.own)
        have HBc : Hid (Below w.heap.size w wc) := hBc
        have HKC : Hid (KeptS S wr wc) := hk
        have HPC : Hid (PlayIn S' T' wc m OS h' vo' vc' (.slice b' n' c')) := hp
        have HBOX : Hid (wc.heap[g]? = some (.cells #[.int .i64 M, .slice b' n' c'] 30 (0, 0))) := hbox
        have HSS : Hid ((∀ q, S' q → S q ∨ wr.heap.size ≤ q) ∧ ∀ q, T' q → T q ∨ wr.heap.size ≤ q) := ⟨hS', hT'⟩
        have hu' := hp.hp.use
        have hxs : smallV a.v := HSM.out.2.2.1
        have hall : ∀ o ∈ OS, obB o (OS.length : Int) = true ∧ smallO o ∧ o.2.length ≤ 1048576 := fun o ho => ⟨(HPC.out.hp.ok o ho).1, (HPC.out.hp.ok o ho).2, by have := HPC.out.hp.lens o ho; omega⟩
        have htw : ∀ W, Below wc.heap.size wc W → TabsP W := fun W hW => HT.out.below (HBc.out.trans (hW.mono HBc.out.size)) (Nat.le_refl _)
        obtain ⟨-, ⟨t3, t4, t5⟩, -, -⟩ := FA.out wc hBc
        obtain ⟨g0, g1, -⟩ := cellsH2 hbox
        have x3 := cls_cell (n := wc.heap.size) t3 (by simp only; omega)
        have x4 := cls_cell (n := wc.heap.size) t4 (by simp only; omega)
        have x5 := cls_cell (n := wc.heap.size) t5 (by simp only; omega)
        have y0 := cls_cell (n := wc.heap.size) g0 (by simp only; omega)
        have y1 := cls_cell (n := wc.heap.size) g1 (by simp only; omega)
        have cus : ∀ W, Below wc.heap.size wc W → Calls Tryz.prog 8 #[.pointer (some ⟨h', 0, none⟩)] W fun e w6 => e = .returned (.int .i64 ((OS.length + (allV OS).length : Nat) : Int)) ∧ Hid (Below wc.heap.size wc w6) := fun W hW => (used_any W (HPC.out.hp.below hW)).mono fun e w6 ⟨he, hb⟩ => ⟨he, hW.trans (hb.mono hW.size)⟩
        have cru : ∀ W, Below wc.heap.size wc W → Calls Tryz.prog 9 #[.agg #[.int .i64 M, .slice b' n' c']] W fun e w6 => e = .returned (.int .i64 ((OS.length + (allV OS).length : Nat) : Int)) ∧ Hid (Below wc.heap.size wc w6) := fun W hW => by
          rw [HM.out]
          exact (refUsed_any _ m OS (.slice b' n' c') W (HPC.out.ref.kept hW.size fun q _ hlt => hW.block q hlt) (by omega)).mono fun e w6 ⟨he, hb⟩ => ⟨he, hW.trans (hb.mono hW.size)⟩
        obtain ⟨U, hU⟩ : ∃ U : Int, U = ((OS.length + (allV OS).length : Nat) : Int) := ⟨_, rfl⟩
        rw [← hU] at cus cru
        obtain ⟨SB, hSB⟩ : ∃ SB, SB = showB OS a.v := ⟨_, rfl⟩
        have csh : ∀ W, Below wc.heap.size wc W → Calls Tryz.prog 10 #[.pointer (some ⟨h', 0, none⟩), .agg #[.int .i64 a.v.k, .int .i64 a.v.n, .string (strB a.v.s)]] W fun e w6 => e = .returned (.string (strB SB)) ∧ Hid (Below wc.heap.size wc w6) := fun W hW => by
          rw [hSB]
          exact (show_any a.v W (HPC.out.hp.below hW) hxs (htw W hW)).mono fun e w6 ⟨he, hb⟩ => ⟨he, hW.trans (hb.mono hW.size)⟩
        have crs : ∀ W, Below wc.heap.size wc W → Calls Tryz.prog 11 #[.agg #[.int .i64 M, .slice b' n' c'], .agg #[.int .i64 a.v.k, .int .i64 a.v.n, .string (strB a.v.s)]] W fun e w6 => e = .returned (.string (strB SB)) ∧ Hid (Below wc.heap.size wc w6) := fun W hW => by
          rw [hSB, HM.out]
          exact (refShow_any _ m OS (.slice b' n' c') a.v W (HPC.out.ref.kept hW.size fun q _ hlt => hW.block q hlt) hall (by omega) hxs).mono fun e w6 ⟨he, hb⟩ => ⟨he, hW.trans (hb.mono hW.size)⟩
        have hBd : Below wc.heap.size wc wc.drew := (Below.refl _ _).drew
        clear hU hSB htw hall hxs hS' hT' hne hp hbox hk hBc t3 t4 t5 g0 g1
        go_upto_region 10 with fail
        refine mix_begin (n := 30) (S := fun w' => ∃ c : Cls wc.heap.size wc, w' = c.1) (by kernel_rfl) rfl rfl ?_
        refine mix_seg (fuel := 21) (fuel' := 30) (idx := [0, 1, 2, 3, 4, 5, 6, 7, 9]) (by kernel_rfl) rfl rfl rfl (fun _ _ _ _ _ h => h) ⟨⟨wc.drew, hBd⟩, rfl⟩ ?_
        show wpQuiet _ _ _ _ [_, _, _, _, _, _, _, _, _] _
        iterate 9 (go_big_quiet_step (fail))
        refine wpQuiet_nil ?_
        refine mix_loud (fuel := 20) (fuel' := 21) (i := 8) rfl (by kernel_rfl) rfl rfl (by rfl) ?_
        intro K hK
        go_simp
        refine (cus _ hBd).mono ?_
        rintro e w6 ⟨rfl, HB6⟩
        (try go_simp)
        refine hK.out _ _ ⟨⟨w6, HB6.out⟩, rfl⟩ ?_
        clear hK K
        (try simp only [Act.put, List.setIfInBounds_toArray, List.set_cons_zero, List.set_cons_succ])
        refine mix_loud (fuel := 19) (fuel' := 20) (i := 10) rfl (by kernel_rfl) rfl rfl (by rfl) ?_
        intro K hK
        go_simp
        refine (cru _ HB6.out).mono ?_
        rintro e w7 ⟨rfl, HB7⟩
        (try go_simp)
        refine hK.out _ _ ⟨⟨w7, HB7.out⟩, rfl⟩ ?_
        clear hK K
        (try simp only [Act.put, List.setIfInBounds_toArray, List.set_cons_zero, List.set_cons_succ])
        refine mix_seg (fuel := 7) (fuel' := 19) (idx := [11, 12, 13, 14, 15, 16, 17, 18, 19, 21, 22, 23]) (by kernel_rfl) rfl rfl rfl (fun _ _ _ _ _ h => h) ⟨⟨w7, HB7.out⟩, rfl⟩ ?_
        show wpQuiet _ _ _ _ [_, _, _, _, _, _, _, _, _, _, _, _] _
        iterate 12 (go_big_quiet_step (fail))
        refine wpQuiet_nil ?_
        refine mix_two (fuel := 6) (fuel' := 7) (i := 20) (k := 24) rfl rfl (by kernel_rfl) rfl rfl rfl (by rfl) (by rfl) ?_ ?_
        · intro K hK
          go_simp
          refine (csh _ HB7.out).mono ?_
          rintro e w8 ⟨rfl, HB8⟩
          (try go_simp)
          refine hK.out _ _ ⟨⟨w8, HB8.out⟩, rfl⟩ ?_
          clear hK K
          (try simp only [Act.put, List.setIfInBounds_toArray, List.set_cons_zero, List.set_cons_succ])
          refine mix_seg (fuel := 3) (fuel' := 6) (idx := [24, 25, 26]) (by kernel_rfl) rfl rfl rfl (fun _ _ _ _ _ h => h) ⟨⟨w8, HB8.out⟩, rfl⟩ ?_
          show wpQuiet _ _ _ _ [_, _, _] _
          iterate 3 (go_big_quiet_step (fail))
          refine wpQuiet_nil ?_
          refine mix_loud (fuel := 2) (fuel' := 3) (i := 27) rfl (by kernel_rfl) rfl rfl (by rfl) ?_
          intro K hK
          go_simp
          refine (crs _ HB8.out).mono ?_
          rintro e wb ⟨rfl, HBb⟩
          (try go_simp)
          refine hK.out _ _ ⟨⟨wb, HBb.out⟩, rfl⟩ ?_
          clear hK K
          (try simp only [Act.put, List.setIfInBounds_toArray, List.set_cons_zero, List.set_cons_succ])
          refine mix_seg (fuel := 0) (fuel' := 2) (idx := [28, 29]) (by kernel_rfl) rfl rfl rfl (fun _ _ _ _ _ h => h) ⟨⟨wb, HBb.out⟩, rfl⟩ ?_
          show wpQuiet _ _ _ _ [_, _] _
          iterate 2 (go_big_quiet_step (fail))
          refine wpQuiet_nil ?_
          refine mix_done (by kernel_rfl) ?_
          clear x3 x4 x5 y0 y1 cus cru csh crs
          have hsb := HBb.out.size
          have hbx := (HBb.out.block X (by omega)).trans ((HKC.out.block X hXl (fun h9 => HR.out.offX _ (.inl h9) rfl)).trans HR.out.box)
          have hbg := (HBb.out.block g hgl).trans HBOX.out
          obtain ⟨r0, r1, rf⟩ := cellsH2 hbx
          have rf0 := rf 0
          have rf1 := rf 1
          obtain ⟨g0, g1, -⟩ := cellsH2 hbg
          have x0 := butR_cell (R := X) (n := wb.heap.size) g0 (by simp only; omega) (by simp only; omega)
          have x1 := butR_cell (R := X) (n := wb.heap.size) g1 (by simp only; omega) (by simp only; omega)
          have HBUTb : Hid (ButR X wb.heap.size wb wb.drew) := fun _ _ _ => rfl
          have HEND : Hid (RoundAt w w.heap.size X m M ⟨k, xn, s⟩ OS h' (((wb.setCell ⟨X, 0, none⟩ (.int .i64 M)).setCell ⟨X, 1, none⟩ (.slice b' n' c')).drew)) := by
            have hkk : ∀ q, q ≠ X → (((wb.setCell ⟨X, 0, none⟩ (.int .i64 M)).setCell ⟨X, 1, none⟩ (.slice b' n' c')).drew).heap[q]? = wb.heap[q]? := fun q hq => by
              show ((wb.setCell ⟨X, 0, none⟩ (.int .i64 M)).setCell ⟨X, 1, none⟩ (.slice b' n' c')).heap[q]? = _
              rw [Below.heap_setCell _ _ _ _ (by simpa using hq), Below.heap_setCell _ _ _ _ (by simpa using hq)]
            have hsz : (((wb.setCell ⟨X, 0, none⟩ (.int .i64 M)).setCell ⟨X, 1, none⟩ (.slice b' n' c')).drew).heap.size = wb.heap.size := by
              show ((wb.setCell ⟨X, 0, none⟩ (.int .i64 M)).setCell ⟨X, 1, none⟩ (.slice b' n' c')).heap.size = _
              simp
            have hks : KeptS (fun q => w.heap.size ≤ q) w ((wb.setCell ⟨X, 0, none⟩ (.int .i64 M)).setCell ⟨X, 1, none⟩ (.slice b' n' c')) :=
              ((KeptS.of (S := fun q => w.heap.size ≤ q) (HBc.out.trans (HBb.out.mono HBc.out.size))).set (p := ⟨X, 0, none⟩) (.int .i64 M) (fun h => by simp only at h ⊢; omega)).set (p := ⟨X, 1, none⟩) (.slice b' n' c') (fun h => by simp only at h ⊢; omega)
            have hX' : ∀ q, S' q ∨ T' q → q ≠ X := fun q hq => by
              rcases hq with h9 | h9
              · rcases HSS.out.1 q h9 with h8 | h8
                · exact HR.out.offX q (.inl h8)
                · omega
              · rcases HSS.out.2 q h9 with h8 | h8
                · exact HR.out.offX q (.inr h8)
                · omega
            refine ⟨S', T', vo', vc', .slice b' n' c', ⟨(HPC.out.below HBb.out).kept2 hsz (fun q hq => hkk q (hX' q hq)), setCellH_block (j := 1) _ (setCellH_block (j := 0) _ hbx), ?_, fun q hq => ?_, hX', fun q hq => ?_, ⟨hks.os, hks.tape, hks.output, hks.size, fun q hq => hks.block q hq (by omega)⟩⟩⟩
            · exact (hkk w.heap.size (by omega)).trans ((HBb.out.block w.heap.size (by omega)).trans ((HKC.out.block w.heap.size hVl (fun h9 => HR.out.offV _ (.inl h9) rfl)).trans HR.out.val))
            · rcases HSS.out.1 q hq with h8 | h8
              · exact HR.out.own q h8
              · omega
            · rcases hq with h9 | h9
              · rcases HSS.out.1 q h9 with h8 | h8
                · exact HR.out.offV q (.inl h8)
                · omega
              · rcases HSS.out.2 q h9 with h8 | h8
                · exact HR.out.offV q (.inr h8)
                · omega
          clear hbx hbg rf g0 g1
          go_upto_region 12 with fail
          refine mix_begin (n := 4) (S := fun w' => ∃ c : ClsP (ButR X wb.heap.size wb), w' = c.1) (by kernel_rfl) rfl rfl ?_
          refine mix_seg (fuel := 1) (fuel' := 4) (idx := [0, 1, 2]) (by kernel_rfl) rfl rfl rfl (fun _ _ _ _ _ h => h) ⟨⟨wb.drew, HBUTb.out⟩, rfl⟩ ?_
          show wpQuiet _ _ _ _ [_, _, _] _
          iterate 3 (go_big_quiet_step (fail))
          refine wpQuiet_nil ?_
          refine mix_loud (fuel := 0) (fuel' := 1) (i := 3) rfl (by kernel_rfl) rfl rfl (by rfl) ?_
          intro K hK
          go_simp
          refine hK.out _ _ ⟨⟨_, (HBUTb.out.set 0 _).set 1 _⟩, rfl⟩ ?_
          clear hK K
          refine mix_done (by kernel_rfl) ?_
          go_wp2
          exact ⟨⟨i + 1, h', OS, by omega, by go_num, rfl, HEND.out⟩, by simp [intOf]; omega⟩
        · intro K hK
          go_simp
          refine hK.out _ _ ⟨⟨w7, HB7.out⟩, rfl⟩ ?_
          clear hK K
          (try simp only [Act.put, List.setIfInBounds_toArray, List.set_cons_zero, List.set_cons_succ])
          refine mix_seg (fuel := 4) (fuel' := 6) (idx := [25, 26]) (by kernel_rfl) rfl rfl rfl (fun _ _ _ _ _ h => h) ⟨⟨w7, HB7.out⟩, rfl⟩ ?_
          show wpQuiet _ _ _ _ [_, _] _
          iterate 2 (go_big_quiet_step (fail))
          refine wpQuiet_nil ?_
          refine mix_loud (fuel := 3) (fuel' := 4) (i := 20) rfl (by kernel_rfl) rfl rfl (by rfl) ?_
          intro K hK
          go_simp
          refine (csh _ HB7.out).mono ?_
          rintro e w8 ⟨rfl, HB8⟩
          (try go_simp)
          refine hK.out _ _ ⟨⟨w8, HB8.out⟩, rfl⟩ ?_
          clear hK K
          (try simp only [Act.put, List.setIfInBounds_toArray, List.set_cons_zero, List.set_cons_succ])
          refine mix_loud (fuel := 2) (fuel' := 3) (i := 27) rfl (by kernel_rfl) rfl rfl (by rfl) ?_
          intro K hK
          go_simp
          refine (crs _ HB8.out).mono ?_
          rintro e wb ⟨rfl, HBb⟩
          (try go_simp)
          refine hK.out _ _ ⟨⟨wb, HBb.out⟩, rfl⟩ ?_
          clear hK K
          (try simp only [Act.put, List.setIfInBounds_toArray, List.set_cons_zero, List.set_cons_succ])
          refine mix_seg (fuel := 0) (fuel' := 2) (idx := [28, 29]) (by kernel_rfl) rfl rfl rfl (fun _ _ _ _ _ h => h) ⟨⟨wb, HBb.out⟩, rfl⟩ ?_
          show wpQuiet _ _ _ _ [_, _] _
          iterate 2 (go_big_quiet_step (fail))
          refine wpQuiet_nil ?_
          refine mix_done (by kernel_rfl) ?_
          clear x3 x4 x5 y0 y1 cus cru csh crs
          have hsb := HBb.out.size
          have hbx := (HBb.out.block X (by omega)).trans ((HKC.out.block X hXl (fun h9 => HR.out.offX _ (.inl h9) rfl)).trans HR.out.box)
          have hbg := (HBb.out.block g hgl).trans HBOX.out
          obtain ⟨r0, r1, rf⟩ := cellsH2 hbx
          have rf0 := rf 0
          have rf1 := rf 1
          obtain ⟨g0, g1, -⟩ := cellsH2 hbg
          have x0 := butR_cell (R := X) (n := wb.heap.size) g0 (by simp only; omega) (by simp only; omega)
          have x1 := butR_cell (R := X) (n := wb.heap.size) g1 (by simp only; omega) (by simp only; omega)
          have HBUTb : Hid (ButR X wb.heap.size wb wb.drew) := fun _ _ _ => rfl
          have HEND : Hid (RoundAt w w.heap.size X m M ⟨k, xn, s⟩ OS h' (((wb.setCell ⟨X, 0, none⟩ (.int .i64 M)).setCell ⟨X, 1, none⟩ (.slice b' n' c')).drew)) := by
            have hkk : ∀ q, q ≠ X → (((wb.setCell ⟨X, 0, none⟩ (.int .i64 M)).setCell ⟨X, 1, none⟩ (.slice b' n' c')).drew).heap[q]? = wb.heap[q]? := fun q hq => by
              show ((wb.setCell ⟨X, 0, none⟩ (.int .i64 M)).setCell ⟨X, 1, none⟩ (.slice b' n' c')).heap[q]? = _
              rw [Below.heap_setCell _ _ _ _ (by simpa using hq), Below.heap_setCell _ _ _ _ (by simpa using hq)]
            have hsz : (((wb.setCell ⟨X, 0, none⟩ (.int .i64 M)).setCell ⟨X, 1, none⟩ (.slice b' n' c')).drew).heap.size = wb.heap.size := by
              show ((wb.setCell ⟨X, 0, none⟩ (.int .i64 M)).setCell ⟨X, 1, none⟩ (.slice b' n' c')).heap.size = _
              simp
            have hks : KeptS (fun q => w.heap.size ≤ q) w ((wb.setCell ⟨X, 0, none⟩ (.int .i64 M)).setCell ⟨X, 1, none⟩ (.slice b' n' c')) :=
              ((KeptS.of (S := fun q => w.heap.size ≤ q) (HBc.out.trans (HBb.out.mono HBc.out.size))).set (p := ⟨X, 0, none⟩) (.int .i64 M) (fun h => by simp only at h ⊢; omega)).set (p := ⟨X, 1, none⟩) (.slice b' n' c') (fun h => by simp only at h ⊢; omega)
            have hX' : ∀ q, S' q ∨ T' q → q ≠ X := fun q hq => by
              rcases hq with h9 | h9
              · rcases HSS.out.1 q h9 with h8 | h8
                · exact HR.out.offX q (.inl h8)
                · omega
              · rcases HSS.out.2 q h9 with h8 | h8
                · exact HR.out.offX q (.inr h8)
                · omega
            refine ⟨S', T', vo', vc', .slice b' n' c', ⟨(HPC.out.below HBb.out).kept2 hsz (fun q hq => hkk q (hX' q hq)), setCellH_block (j := 1) _ (setCellH_block (j := 0) _ hbx), ?_, fun q hq => ?_, hX', fun q hq => ?_, ⟨hks.os, hks.tape, hks.output, hks.size, fun q hq => hks.block q hq (by omega)⟩⟩⟩
            · exact (hkk w.heap.size (by omega)).trans ((HBb.out.block w.heap.size (by omega)).trans ((HKC.out.block w.heap.size hVl (fun h9 => HR.out.offV _ (.inl h9) rfl)).trans HR.out.val))
            · rcases HSS.out.1 q hq with h8 | h8
              · exact HR.out.own q h8
              · omega
            · rcases hq with h9 | h9
              · rcases HSS.out.1 q h9 with h8 | h8
                · exact HR.out.offV q (.inl h8)
                · omega
              · rcases HSS.out.2 q h9 with h8 | h8
                · exact HR.out.offV q (.inr h8)
                · omega
          clear hbx hbg rf g0 g1
          go_upto_region 12 with fail
          refine mix_begin (n := 4) (S := fun w' => ∃ c : ClsP (ButR X wb.heap.size wb), w' = c.1) (by kernel_rfl) rfl rfl ?_
          refine mix_seg (fuel := 1) (fuel' := 4) (idx := [0, 1, 2]) (by kernel_rfl) rfl rfl rfl (fun _ _ _ _ _ h => h) ⟨⟨wb.drew, HBUTb.out⟩, rfl⟩ ?_
          show wpQuiet _ _ _ _ [_, _, _] _
          iterate 3 (go_big_quiet_step (fail))
          refine wpQuiet_nil ?_
          refine mix_loud (fuel := 0) (fuel' := 1) (i := 3) rfl (by kernel_rfl) rfl rfl (by rfl) ?_
          intro K hK
          go_simp
          refine hK.out _ _ ⟨⟨_, (HBUTb.out.set 0 _).set 1 _⟩, rfl⟩ ?_
          clear hK K
          refine mix_done (by kernel_rfl) ?_
          go_wp2
          exact ⟨⟨i + 1, h', OS, by omega, by go_num, rfl, HEND.out⟩, by simp [intOf]; omega⟩
    · obtain rfl : i = l.length := by omega
      have hi2 : ¬ (l.length : Int) < l.length := by omega
      have hBw : Below w.heap.size w wr := HR.out.below
      have hxs : smallV ⟨k, xn, s⟩ := HXS.out
      have hall : ∀ o ∈ os, obB o (os.length : Int) = true ∧ smallO o ∧ o.2.length ≤ 1048576 := fun o ho => ⟨(HR.out.play.hp.ok o ho).1, (HR.out.play.hp.ok o ho).2, by have := HR.out.play.hp.lens o ho; omega⟩
      have htw : ∀ W, Below wr.heap.size wr W → TabsP W := fun W hW => HT.out.below (HR.out.below.trans (hW.mono HR.out.below.size)) (Nat.le_refl _)
      obtain ⟨p0, p1, p2, -⟩ := cellsH3 HR.out.val
      obtain ⟨g0, g1, -⟩ := cellsH2 HR.out.box
      have x0 := cls_cell (n := wr.heap.size) p0 (by simp only; omega)
      have x1 := cls_cell (n := wr.heap.size) p1 (by simp only; omega)
      have x2 := cls_cell (n := wr.heap.size) p2 (by simp only; omega)
      have x3 := cls_cell (n := wr.heap.size) g0 (by simp only; omega)
      have x4 := cls_cell (n := wr.heap.size) g1 (by simp only; omega)
      have cal : ∀ W, Below wr.heap.size wr W → Calls Tryz.prog 13 #[.pointer (some ⟨h, 0, none⟩)] W fun e w6 => ∃ b6 c6, e = .returned (.slice b6 os.length c6) ∧ Hid (∃ S6, objsIn S6 w6 (.slice b6 os.length c6) os) ∧ Hid (Below wr.heap.size wr w6) := fun W hW => by
        refine (hall_any W (HR.out.play.hp.below hW)).mono ?_
        rintro e w6 ⟨v6, rfl, ⟨vs6, ho6⟩, hb6⟩
        obtain ⟨b6, c6, rfl, -, -⟩ := own_val ho6.row
        exact ⟨b6, c6, rfl, ⟨_, ho6.read⟩, hW.trans (hb6.mono hW.size)⟩
      have csm : ∀ (b6 : Option Addr) (c6 : Nat) W, (∃ S6, objsIn S6 W (.slice b6 os.length c6) os) → Below wr.heap.size wr W → Calls Tryz.prog 12 #[.slice b6 os.length c6, .slice bL os.length cL] W fun e w6 => e = .returned (.bool true) ∧ Hid (Below wr.heap.size wr w6) := fun b6 c6 W ⟨S6, h6⟩ hW => by
        refine (same_any06 S6 _ os _ _ W h6 (HR.out.play.ref.kept hW.size fun q _ hlt => hW.block q hlt) (by omega) (fun o ho => (hall o ho).2.2)).mono ?_
        rintro e w6 ⟨rfl, hb6⟩
        exact ⟨rfl, hW.trans (hb6.mono hW.size)⟩
      have cus : ∀ W, Below wr.heap.size wr W → Calls Tryz.prog 8 #[.pointer (some ⟨h, 0, none⟩)] W fun e w6 => e = .returned (.int .i64 ((os.length + (allV os).length : Nat) : Int)) ∧ Hid (Below wr.heap.size wr w6) := fun W hW => (used_any W (HR.out.play.hp.below hW)).mono fun e w6 ⟨he, hb⟩ => ⟨he, hW.trans (hb.mono hW.size)⟩
      have cru : ∀ W, Below wr.heap.size wr W → Calls Tryz.prog 9 #[.agg #[.int .i64 M, .slice bL os.length cL]] W fun e w6 => e = .returned (.int .i64 ((os.length + (allV os).length : Nat) : Int)) ∧ Hid (Below wr.heap.size wr w6) := fun W hW => by
        rw [HM.out]
        exact (refUsed_any _ m os (.slice bL os.length cL) W (HR.out.play.ref.kept hW.size fun q _ hlt => hW.block q hlt) (by omega)).mono fun e w6 ⟨he, hb⟩ => ⟨he, hW.trans (hb.mono hW.size)⟩
      obtain ⟨U, hU⟩ : ∃ U : Int, U = ((os.length + (allV os).length : Nat) : Int) := ⟨_, rfl⟩
      rw [← hU] at cus cru
      obtain ⟨SB, hSB⟩ : ∃ SB, SB = showB os ⟨k, xn, s⟩ := ⟨_, rfl⟩
      have csh : ∀ W, Below wr.heap.size wr W → Calls Tryz.prog 10 #[.pointer (some ⟨h, 0, none⟩), .agg #[.int .i64 k, .int .i64 xn, .string (strB s)]] W fun e w6 => e = .returned (.string (strB SB)) ∧ Hid (Below wr.heap.size wr w6) := fun W hW => by
        rw [hSB]
        exact (show_any ⟨k, xn, s⟩ W (HR.out.play.hp.below hW) hxs (htw W hW)).mono fun e w6 ⟨he, hb⟩ => ⟨he, hW.trans (hb.mono hW.size)⟩
      have crs : ∀ W, Below wr.heap.size wr W → Calls Tryz.prog 11 #[.agg #[.int .i64 M, .slice bL os.length cL], .agg #[.int .i64 k, .int .i64 xn, .string (strB s)]] W fun e w6 => e = .returned (.string (strB SB)) ∧ Hid (Below wr.heap.size wr w6) := fun W hW => by
        rw [hSB, HM.out]
        exact (refShow_any _ m os (.slice bL os.length cL) ⟨k, xn, s⟩ W (HR.out.play.ref.kept hW.size fun q _ hlt => hW.block q hlt) hall (by omega) hxs).mono fun e w6 ⟨he, hb⟩ => ⟨he, hW.trans (hb.mono hW.size)⟩
      have clv : ∀ W, Below wr.heap.size wr W → Calls Tryz.prog 6 #[] W fun e w6 => e = .returned (.bool true) ∧ Hid (Below wr.heap.size wr w6) := fun W hW => (lives06_any W (htw W hW)).mono fun e w6 ⟨he, hb⟩ => ⟨he, hW.trans (hb.mono hW.size)⟩
      have hBd : Below wr.heap.size wr wr.drew := (Below.refl _ _).drew
      clear hU hSB htw hall hxs hBw p0 p1 p2 g0 g1 cus cru
      go_upto_region 13 with fail
      refine mix_begin (n := 18) (S := fun w' => ∃ c : Cls wr.heap.size wr, w' = c.1) (by kernel_rfl) rfl rfl ?_
      refine mix_seg (fuel := 15) (fuel' := 18) (idx := [0, 2, 3]) (by kernel_rfl) rfl rfl rfl (fun _ _ _ _ _ h => h) ⟨⟨wr.drew, hBd⟩, rfl⟩ ?_
      show wpQuiet _ _ _ _ [_, _, _] _
      iterate 3 (go_big_quiet_step (fail))
      refine wpQuiet_nil ?_
      refine mix_loud (fuel := 14) (fuel' := 15) (i := 1) rfl (by kernel_rfl) rfl rfl (by rfl) ?_
      intro K hK
      go_simp
      refine (cal _ hBd).mono ?_
      rintro e w6 ⟨b6, c6, rfl, HO6, HB6⟩
      (try go_simp)
      refine hK.out _ _ ⟨⟨w6, HB6.out⟩, rfl⟩ ?_
      clear hK K
      (try simp only [Act.put, List.setIfInBounds_toArray, List.set_cons_zero, List.set_cons_succ])
      refine mix_loud (fuel := 13) (fuel' := 14) (i := 4) rfl (by kernel_rfl) rfl rfl (by rfl) ?_
      intro K hK
      go_simp
      refine (csm b6 c6 _ HO6.out HB6.out).mono ?_
      rintro e w7 ⟨rfl, HB7⟩
      (try go_simp)
      refine hK.out _ _ ⟨⟨w7, HB7.out⟩, rfl⟩ ?_
      clear hK K
      (try simp only [Act.put, List.setIfInBounds_toArray, List.set_cons_zero, List.set_cons_succ])
      refine mix_seg (fuel := 8) (fuel' := 13) (idx := [5, 6, 7, 9, 10]) (by kernel_rfl) rfl rfl rfl (fun _ _ _ _ _ h => h) ⟨⟨w7, HB7.out⟩, rfl⟩ ?_
      show wpQuiet _ _ _ _ [_, _, _, _, _] _
      iterate 5 (go_big_quiet_step (fail))
      refine wpQuiet_nil ?_
      refine mix_loud (fuel := 7) (fuel' := 8) (i := 8) rfl (by kernel_rfl) rfl rfl (by rfl) ?_
      intro K hK
      go_simp
      refine (csh _ HB7.out).mono ?_
      rintro e w8 ⟨rfl, HB8⟩
      (try go_simp)
      refine hK.out _ _ ⟨⟨w8, HB8.out⟩, rfl⟩ ?_
      clear hK K
      (try simp only [Act.put, List.setIfInBounds_toArray, List.set_cons_zero, List.set_cons_succ])
      refine mix_loud (fuel := 6) (fuel' := 7) (i := 11) rfl (by kernel_rfl) rfl rfl (by rfl) ?_
      intro K hK
      go_simp
      refine (crs _ HB8.out).mono ?_
      rintro e w9 ⟨rfl, HB9⟩
      (try go_simp)
      refine hK.out _ _ ⟨⟨w9, HB9.out⟩, rfl⟩ ?_
      clear hK K
      (try simp only [Act.put, List.setIfInBounds_toArray, List.set_cons_zero, List.set_cons_succ])
      refine mix_seg (fuel := 3) (fuel' := 6) (idx := [12, 13, 14]) (by kernel_rfl) rfl rfl rfl (fun _ _ _ _ _ h => h) ⟨⟨w9, HB9.out⟩, rfl⟩ ?_
      show wpQuiet _ _ _ _ [_, _, _] _
      iterate 3 (go_big_quiet_step (fail))
      refine wpQuiet_nil ?_
      refine mix_loud (fuel := 2) (fuel' := 3) (i := 15) rfl (by kernel_rfl) rfl rfl (by rfl) ?_
      intro K hK
      go_simp
      refine (clv _ HB9.out).mono ?_
      rintro e wd ⟨rfl, HBd⟩
      (try go_simp)
      refine hK.out _ _ ⟨⟨wd, HBd.out⟩, rfl⟩ ?_
      clear hK K
      (try simp only [Act.put, List.setIfInBounds_toArray, List.set_cons_zero, List.set_cons_succ])
      refine mix_seg (fuel := 0) (fuel' := 2) (idx := [16, 17]) (by kernel_rfl) rfl rfl rfl (fun _ _ _ _ _ h => h) ⟨⟨wd, HBd.out⟩, rfl⟩ ?_
      show wpQuiet _ _ _ _ [_, _] _
      iterate 2 (go_big_quiet_step (fail))
      refine wpQuiet_nil ?_
      refine mix_done (by kernel_rfl) ?_
      have HBe : Hid (Below w.heap.size w wd) := HR.out.below.trans (HBd.out.mono HR.out.below.size)
      go_wp2
      go_ret
      exact ⟨rfl, HBe.out⟩
end Go.Proofs.YtchpmnmngeebjaaGreatDoor
