/- HeapBack. -/
import Derived.Test.YtchpmnmngeebjaaDoorHDone
import Derived.Test.YtchpmnmngeebjaaDoorHCopy
import Derived.Test.YtchpmnmngeebjaaDoorHLoad
import Derived.Test.YtchpmnmngeebjaaDoorHShape
import Derived.Test.YtchpmnmngeebjaaDoorWMix
import Derived.Deep.DeepCutAuto
namespace Go.Proofs.YtchpmnmngeebjaaDoor
open Go.RowKit Go.Shelf

set_option maxRecDepth 100000 in
set_option maxHeartbeats 8000000 in
theorem heapBack_out (base : Option Addr) (len cap : Nat) (v : Vl) (w : World) (ht : TabsP w) (hl : 60 < len) (hl2 : len ≤ 1048576) :
    Calls Tryd.prog 4 #[.slice base len cap, vlV v] w fun e w' => e = .returned (.bool true) ∧ Below w.heap.size w w' := by
  have hb1 : Below w.heap.size w (w.alloc (.cells #[.int .i64 v.k, .int .i64 v.n, .string (strB v.s)] 25)) := (Below.refl _ w).alloc (Nat.le_refl _) _
  have cl := lives06_any _ (ht.below hb1 (Nat.le_refl _))
  have HB1 : Hid (Below w.heap.size w (w.alloc (.cells #[.int .i64 v.k, .int .i64 v.n, .string (strB v.s)] 25))) := hb1
  obtain ⟨k, m, s⟩ := v
  have hli : (60 : Int) < (len : Int) := by omega
  clear ht hb1
  go_enter Tryd.func4, Tryd.ntmps4
  go_wp2_with fail
  refine cl.mono ?_
  clear cl
  rintro e w' ⟨rfl, hb⟩
  have HB : Hid (Below w.heap.size w w') := HB1.out.trans (hb.mono (by simp))
  clear hb
  go_wp2
  go_ret
  exact ⟨rfl, HB.out⟩

set_option maxRecDepth 100000 in
set_option maxHeartbeats 8000000 in
theorem heapBack_in (base : Option Addr) (cap : Nat) (l : List Ac) (v : Vl) (w : World) (hin : actsIn w base l) (hs : ∀ a ∈ l, smallA a) (hl : l.length ≤ 60) (hv : smallV v) (ht : TabsP w) :
    Calls Tryd.prog 4 #[.slice base l.length cap, vlV v] w fun e w' => e = .returned (.bool true) ∧ Below w.heap.size w w' := by
  have HT : Hid (TabsP w) := ht
  obtain ⟨w1, hw1⟩ : ∃ w1, w1 = w.alloc (.cells #[.int .i64 v.k, .int .i64 v.n, .string (strB v.s)] 25) := ⟨_, rfl⟩
  have hs1 : w1.heap.size = w.heap.size + 1 := by rw [hw1]; simp
  have hb1 : Below w.heap.size w w1 := by rw [hw1]; exact (Below.refl _ _).alloc (Nat.le_refl _) _
  have hbx : w1.heap[w.heap.size]? = some (.cells #[.int .i64 v.k, .int .i64 v.n, .string (strB v.s)] 25 (0, 0)) := by rw [hw1]; exact World.alloc_heap_new _ _
  have cd := done_any base cap l w1 (actsIn_below hin hb1) hs hl (ht.below hb1 (Nat.le_refl _))
  obtain ⟨OS, hOS⟩ : ∃ OS, OS = doneR l := ⟨_, rfl⟩
  rw [← hOS] at cd
  obtain ⟨N, hN⟩ : ∃ N, N = w1.heap.size := ⟨_, rfl⟩
  rw [← hN] at cd
  have HNE : Hid (N = w1.heap.size) := hN
  have hNw : w.heap.size < N := by omega
  clear hs1 hN
  have HB1 : Hid (Below w.heap.size w w1) := hb1
  have HBX : Hid (w1.heap[w.heap.size]? = some (.cells #[.int .i64 v.k, .int .i64 v.n, .string (strB v.s)] 25 (0, 0))) := hbx
  have hli : ¬ (60 : Int) < (l.length : Int) := by omega
  have hw1' := hw1.symm
  have HV : Hid (smallV v) := hv
  obtain ⟨k, m, s⟩ := v
  have HIN : Hid (actsIn w base l) := hin
  have HSA : Hid (∀ a ∈ l, smallA a) := hs
  have HOS : Hid (OS = doneR l) := hOS
  clear hw1 hb1 hbx ht hin hs hOS hv
  go_enter Tryd.func4, Tryd.ntmps4
  go_wp2_with fail
  refine cd.mono ?_
  clear cd
  rintro e w2 ⟨rfl, ⟨vo2, vc2, H2⟩, hb2⟩
  have hs2 : N ≤ w2.heap.size := by have := hb2.size; have := HNE.out; omega
  have hB2 : Below w.heap.size w w2 := HB1.out.trans (hb2.mono (by omega))
  have hOSl : OS.length ≤ 4096 := by have := H2.use; have := H2.may; omega
  have HUSE : Hid (OS.length + (allV OS).length ≤ 4096) := H2.use
  have HOB : Hid (∀ o ∈ OS, obB o OS.length = true ∧ smallO o) := H2.ok
  have HOK : Hid (∀ o ∈ OS, o.2.length ≤ 4096) := fun o ho => by
    obtain ⟨q, hq, rfl⟩ := List.getElem_of_mem ho
    have h1 := (allV_cut OS q hq).1
    have := H2.use
    have := H2.may
    omega
  have ca := hall_any w2 H2
  have HH2 : Hid (HpIn (fun q => N ≤ q ∧ q < w2.heap.size) w2 4096 OS N vo2 vc2) := H2.low
  have HB2 : Hid (Below w.heap.size w w2) := hB2
  have HBX2 : Hid (w2.heap[w.heap.size]? = some (.cells #[.int .i64 k, .int .i64 m, .string (strB s)] 25 (0, 0))) := (hb2.block w.heap.size (by omega)).trans HBX.out
  clear hb2 hB2 H2
  go_wp2_with fail
  refine ca.mono ?_
  clear ca
  rintro e w3 ⟨vw, rfl, ⟨vsw, how⟩, hb3⟩
  have HOW : Hid (ObsOwn w2.heap.size w3 OS vw vsw) := how
  obtain ⟨bw, cw, rfl, hcw1, hcw2⟩ := own_val how.row
  have hs3 := hb3.size
  have HWAS : Hid (objsIn (fun q => w2.heap.size ≤ q ∧ q < w3.heap.size) w3 (.slice bw OS.length cw) OS) := how.read.wide fun q hq hS => ⟨hS, hq⟩
  have HB3 : Hid (Below w2.heap.size w2 w3) := hb3
  have cld := load_any _ 4096 OS (.slice bw OS.length cw) w3 HWAS.out (fun o ho => (HOB.out o ho).2) (fun o ho => by have := HOK.out o ho; omega) (by omega) (HT.out.below (HB2.out.trans (hb3.mono (by omega))) (Nat.le_refl _))
  clear hb3 how
  go_wp2_with fail
  refine cld.mono ?_
  clear cld
  rintro e w4 ⟨hb4, hld⟩
  have hs4 := hb4.size
  have hm9 : mostN 4096 = 4096 := by decide
  rw [hm9] at hld
  obtain ⟨g4, vo4, vc4, rfl, H4⟩ : ∃ g vo vc, e = .returned (.tuple #[.pointer (some ⟨g, 0, none⟩), .int .i64 0]) ∧ HpIn (fun k => w3.heap.size ≤ k) w4 4096 OS g vo vc := by
    rcases hld with ⟨-, o, ho, hf⟩ | ⟨-, -, hf⟩ | ⟨-, -, h9⟩
    · rw [(HOB.out o ho).1] at hf; cases hf
    · have := HUSE.out; omega
    · exact h9
  have hB34 : Below w2.heap.size w2 w4 := HB3.out.trans (hb4.mono hs3)
  have ccp := copy_any w4 (HH2.out.below hB34)
  have HH4 : Hid (HpIn (fun k => w3.heap.size ≤ k ∧ k < w4.heap.size) w4 4096 OS g4 vo4 vc4) := H4.low
  have HB4 : Hid (Below w3.heap.size w3 w4) := hb4
  clear hld hb4 H4 hB34
  go_wp2_with fail
  refine ccp.mono ?_
  clear ccp
  rintro e w5 ⟨vo5, vc5, rfl, H5, hb5⟩
  have hs5 := hb5.size
  obtain ⟨G5, hG5⟩ : ∃ G5, G5 = w4.heap.size := ⟨_, rfl⟩
  rw [← hG5] at H5 ⊢
  have HG5 : Hid (G5 = w4.heap.size) := hG5
  have HB5 : Hid (Below w4.heap.size w4 w5) := hb5
  have HB25 : Hid (Below w2.heap.size w2 w5) := (HB3.out.trans (HB4.out.mono hs3)).trans (hb5.mono (by omega))
  have HX5 : Hid (HpIn (fun k => w3.heap.size ≤ k ∧ k < w4.heap.size) w5 4096 OS g4 vo4 vc4) := HH4.out.below hb5
  have HY5 : Hid (HpIn (fun k => w4.heap.size ≤ k ∧ k < w5.heap.size) w5 4096 OS G5 vo5 vc5) := (H5.low).wide fun k _ h => by omega
  have HH5 : Hid (HpIn (fun q => N ≤ q ∧ q < w2.heap.size) w5 4096 OS N vo2 vc2) := HH2.out.below HB25.out
  have HWAS5 : Hid (objsIn (fun q => w2.heap.size ≤ q ∧ q < w3.heap.size) w5 (.slice bw OS.length cw) OS) := HWAS.out.kept (by omega) fun q _ hlt => (hb5.block q (by omega)).trans (HB4.out.block q hlt)
  have HBB5 : Hid (Below w.heap.size w w5) := HB2.out.trans (HB25.out.mono (by omega))
  have bx5 := (HB25.out.block w.heap.size (by omega)).trans HBX2.out
  obtain ⟨p0, p1, p2, -⟩ := cellsH3 bx5
  clear hG5 hb5 H5
  obtain ⟨SB, hSB⟩ : ∃ SB, SB = showB OS ⟨k, m, s⟩ := ⟨_, rfl⟩
  have cal : ∀ (S : Nat → Prop) (g : Nat) (vo vc : Value), HpIn S w5 4096 OS g vo vc → ∀ W, Below w5.heap.size w5 W → Calls Tryd.prog 11 #[.pointer (some ⟨g, 0, none⟩)] W fun e w6 => ∃ b6 c6, e = .returned (.slice b6 OS.length c6) ∧ w6.cell? ⟨w.heap.size, 0, none⟩ = some (.int .i64 k) ∧ w6.cell? ⟨w.heap.size, 1, none⟩ = some (.int .i64 m) ∧ w6.cell? ⟨w.heap.size, 2, none⟩ = some (.string (strB s)) ∧ Hid (∃ S6, objsIn S6 w6 (.slice b6 OS.length c6) OS) ∧ Hid (Below w5.heap.size w5 w6) := fun S g vo vc H W hW => by
    refine (hall_any W (H.below hW)).mono ?_
    rintro e w6 ⟨v6, rfl, ⟨vs6, ho6⟩, hb6⟩
    have h56 : Below w5.heap.size w5 w6 := hW.trans (hb6.mono hW.size)
    obtain ⟨b6, c6, rfl, -, -⟩ := own_val ho6.row
    obtain ⟨q0, q1, q2, -⟩ := cellsH3 ((h56.block w.heap.size (by omega)).trans bx5)
    exact ⟨b6, c6, rfl, q0, q1, q2, ⟨_, ho6.read⟩, h56⟩
  have csm : ∀ (b6 : Option Addr) (c6 : Nat) W, (∃ S6, objsIn S6 W (.slice b6 OS.length c6) OS) → Below w5.heap.size w5 W → Calls Tryd.prog 10 #[.slice b6 OS.length c6, .slice bw OS.length cw] W fun e w6 => e = .returned (.bool true) ∧ w6.cell? ⟨w.heap.size, 0, none⟩ = some (.int .i64 k) ∧ w6.cell? ⟨w.heap.size, 1, none⟩ = some (.int .i64 m) ∧ w6.cell? ⟨w.heap.size, 2, none⟩ = some (.string (strB s)) ∧ Hid (Below w5.heap.size w5 w6) := fun b6 c6 W ⟨S6, h6⟩ hW => by
    refine (same_any06 S6 _ OS _ _ W h6 (HWAS5.out.kept hW.size fun q _ hlt => hW.block q hlt) (by omega) (fun o ho => by have := HOK.out o ho; omega)).mono ?_
    rintro e w6 ⟨rfl, hb6⟩
    have h56 : Below w5.heap.size w5 w6 := hW.trans (hb6.mono hW.size)
    obtain ⟨q0, q1, q2, -⟩ := cellsH3 ((h56.block w.heap.size (by omega)).trans bx5)
    exact ⟨rfl, q0, q1, q2, h56⟩
  have csh : ∀ (S : Nat → Prop) (g : Nat) (vo vc : Value), HpIn S w5 4096 OS g vo vc → ∀ W, Below w5.heap.size w5 W → Calls Tryd.prog 14 #[.pointer (some ⟨g, 0, none⟩), .agg #[.int .i64 k, .int .i64 m, .string (strB s)]] W fun e w6 => e = .returned (.string (strB SB)) ∧ w6.cell? ⟨w.heap.size, 0, none⟩ = some (.int .i64 k) ∧ w6.cell? ⟨w.heap.size, 1, none⟩ = some (.int .i64 m) ∧ w6.cell? ⟨w.heap.size, 2, none⟩ = some (.string (strB s)) ∧ Hid (Below w5.heap.size w5 w6) := fun S g vo vc H W hW => by
    refine (show_any ⟨k, m, s⟩ W (H.below hW) HV.out (HT.out.below (HBB5.out.trans (hW.mono HBB5.out.size)) (Nat.le_refl _))).mono ?_
    rintro e w6 ⟨rfl, hb6⟩
    rw [← hSB]
    have h56 : Below w5.heap.size w5 w6 := hW.trans (hb6.mono hW.size)
    obtain ⟨q0, q1, q2, -⟩ := cellsH3 ((h56.block w.heap.size (by omega)).trans bx5)
    exact ⟨rfl, q0, q1, q2, h56⟩
  have hBd : Below w5.heap.size w5 w5.drew := (Below.refl _ _).drew
  have x0 := cls_cell (n := w5.heap.size) p0 (by simp only; omega)
  have x1 := cls_cell (n := w5.heap.size) p1 (by simp only; omega)
  have x2 := cls_cell (n := w5.heap.size) p2 (by simp only; omega)
  clear hSB bx5 p0 p1 p2
  go_upto_region 9 with fail
  go_cut [72] (fun t wx => t = .bool false ∧ Below w5.heap.size w5 wx)
  case first =>
    refine mix_begin (n := 42) (S := fun w' => ∃ c : Cls w5.heap.size w5, w' = c.1) (by kernel_rfl) rfl rfl ?_
    refine mix_seg (fuel := 29) (fuel' := 42) (idx := [0, 1, 2, 3, 4, 5, 6, 7, 8, 9, 10, 11, 13]) (by kernel_rfl) rfl rfl rfl (fun _ _ _ _ _ h => h) ⟨⟨w5.drew, hBd⟩, rfl⟩ ?_
    show wpQuiet _ _ _ _ [_, _, _, _, _, _, _, _, _, _, _, _, _] _
    iterate 13 (go_big_quiet_step (fail))
    refine wpQuiet_nil ?_
    refine mix_loud (fuel := 28) (fuel' := 29) (i := 12) rfl (by kernel_rfl) rfl rfl (by rfl) ?_
    intro K hK
    go_simp
    refine (cal _ g4 _ _ HX5.out _ hBd).mono ?_
    rintro e w6 ⟨b6, c6, rfl, -, -, -, HO6, HB6⟩
    (try go_simp)
    refine hK.out _ _ ⟨⟨w6, HB6.out⟩, rfl⟩ ?_
    clear hK K
    (try simp only [Act.put, List.setIfInBounds_toArray, List.set_cons_zero, List.set_cons_succ])
    refine mix_loud (fuel := 27) (fuel' := 28) (i := 14) rfl (by kernel_rfl) rfl rfl (by rfl) ?_
    intro K hK
    go_simp
    refine (csm b6 c6 _ HO6.out HB6.out).mono ?_
    rintro e w7 ⟨rfl, -, -, -, HB7⟩
    (try go_simp)
    refine hK.out _ _ ⟨⟨w7, HB7.out⟩, rfl⟩ ?_
    clear hK K
    (try simp only [Act.put, List.setIfInBounds_toArray, List.set_cons_zero, List.set_cons_succ])
    refine mix_seg (fuel := 22) (fuel' := 27) (idx := [15, 16, 17, 18, 20]) (by kernel_rfl) rfl rfl rfl (fun _ _ _ _ _ h => h) ⟨⟨w7, HB7.out⟩, rfl⟩ ?_
    show wpQuiet _ _ _ _ [_, _, _, _, _] _
    iterate 5 (go_big_quiet_step (fail))
    refine wpQuiet_nil ?_
    refine mix_loud (fuel := 21) (fuel' := 22) (i := 19) rfl (by kernel_rfl) rfl rfl (by rfl) ?_
    intro K hK
    go_simp
    refine (cal _ G5 _ _ HY5.out _ HB7.out).mono ?_
    rintro e w8 ⟨b8, c8, rfl, -, -, -, HO8, HB8⟩
    (try go_simp)
    refine hK.out _ _ ⟨⟨w8, HB8.out⟩, rfl⟩ ?_
    clear hK K
    (try simp only [Act.put, List.setIfInBounds_toArray, List.set_cons_zero, List.set_cons_succ])
    refine mix_loud (fuel := 20) (fuel' := 21) (i := 21) rfl (by kernel_rfl) rfl rfl (by rfl) ?_
    intro K hK
    go_simp
    refine (csm b8 c8 _ HO8.out HB8.out).mono ?_
    rintro e w9 ⟨rfl, -, -, -, HB9⟩
    (try go_simp)
    refine hK.out _ _ ⟨⟨w9, HB9.out⟩, rfl⟩ ?_
    clear hK K
    (try simp only [Act.put, List.setIfInBounds_toArray, List.set_cons_zero, List.set_cons_succ])
    refine mix_seg (fuel := 13) (fuel' := 20) (idx := [22, 23, 24, 25, 26, 28, 29]) (by kernel_rfl) rfl rfl rfl (fun _ _ _ _ _ h => h) ⟨⟨w9, HB9.out⟩, rfl⟩ ?_
    show wpQuiet _ _ _ _ [_, _, _, _, _, _, _] _
    iterate 7 (go_big_quiet_step (fail))
    refine wpQuiet_nil ?_
    refine mix_loud (fuel := 12) (fuel' := 13) (i := 27) rfl (by kernel_rfl) rfl rfl (by rfl) ?_
    intro K hK
    go_simp
    refine (csh _ g4 _ _ HX5.out _ HB9.out).mono ?_
    rintro e wa ⟨rfl, -, -, -, HBa⟩
    (try go_simp)
    refine hK.out _ _ ⟨⟨wa, HBa.out⟩, rfl⟩ ?_
    clear hK K
    (try simp only [Act.put, List.setIfInBounds_toArray, List.set_cons_zero, List.set_cons_succ])
    refine mix_loud (fuel := 11) (fuel' := 12) (i := 30) rfl (by kernel_rfl) rfl rfl (by rfl) ?_
    intro K hK
    go_simp
    refine (csh _ N _ _ HH5.out _ HBa.out).mono ?_
    rintro e wb ⟨rfl, -, -, -, HBb⟩
    (try go_simp)
    refine hK.out _ _ ⟨⟨wb, HBb.out⟩, rfl⟩ ?_
    clear hK K
    (try simp only [Act.put, List.setIfInBounds_toArray, List.set_cons_zero, List.set_cons_succ])
    refine mix_seg (fuel := 4) (fuel' := 11) (idx := [31, 32, 33, 34, 35, 37, 38]) (by kernel_rfl) rfl rfl rfl (fun _ _ _ _ _ h => h) ⟨⟨wb, HBb.out⟩, rfl⟩ ?_
    show wpQuiet _ _ _ _ [_, _, _, _, _, _, _] _
    iterate 7 (go_big_quiet_step (fail))
    refine wpQuiet_nil ?_
    refine mix_loud (fuel := 3) (fuel' := 4) (i := 36) rfl (by kernel_rfl) rfl rfl (by rfl) ?_
    intro K hK
    go_simp
    refine (csh _ G5 _ _ HY5.out _ HBb.out).mono ?_
    rintro e wd ⟨rfl, -, -, -, HBd⟩
    (try go_simp)
    refine hK.out _ _ ⟨⟨wd, HBd.out⟩, rfl⟩ ?_
    clear hK K
    (try simp only [Act.put, List.setIfInBounds_toArray, List.set_cons_zero, List.set_cons_succ])
    refine mix_loud (fuel := 2) (fuel' := 3) (i := 39) rfl (by kernel_rfl) rfl rfl (by rfl) ?_
    intro K hK
    go_simp
    refine (csh _ N _ _ HH5.out _ HBd.out).mono ?_
    rintro e wf ⟨rfl, -, -, -, HBf⟩
    (try go_simp)
    refine hK.out _ _ ⟨⟨wf, HBf.out⟩, rfl⟩ ?_
    clear hK K
    (try simp only [Act.put, List.setIfInBounds_toArray, List.set_cons_zero, List.set_cons_succ])
    refine mix_seg (fuel := 0) (fuel' := 2) (idx := [40, 41]) (by kernel_rfl) rfl rfl rfl (fun _ _ _ _ _ h => h) ⟨⟨wf, HBf.out⟩, rfl⟩ ?_
    show wpQuiet _ _ _ _ [_, _] _
    iterate 2 (go_big_quiet_step (fail))
    refine wpQuiet_nil ?_
    refine mix_done (by kernel_rfl) ?_
    go_wp2_with fail
    go_meet
    exact ⟨rfl, HBf.out⟩
  case rest =>
    obtain ⟨rfl, hbc⟩ := hcut
    clear cal csm csh hBd x0 x1 x2
    have hsc := hbc.size
    have HXc : Hid (HpIn (fun k => w3.heap.size ≤ k ∧ k < w4.heap.size) wc 4096 OS g4 vo4 vc4) := HX5.out.below hbc
    have HYc : Hid (HpIn (fun k => w4.heap.size ≤ k ∧ k < w5.heap.size) wc 4096 OS G5 vo5 vc5) := HY5.out.below hbc
    have HHc : Hid (HpIn (fun q => N ≤ q ∧ q < w2.heap.size) wc 4096 OS N vo2 vc2) := HH5.out.below hbc
    have HOWc : Hid (ObsOwn w2.heap.size w3 OS (.slice bw OS.length cw) vsw) := HOW.out
    have H3c : Hid (∀ q, q < w3.heap.size → wc.heap[q]? = w3.heap[q]?) := fun q hq => (hbc.block q (by omega)).trans ((HB5.out.block q (by omega)).trans (HB4.out.block q hq))
    have HBBc : Hid (Below w.heap.size w wc) := HBB5.out.trans (hbc.mono HBB5.out.size)
    clear HX5 HY5 HH5 HWAS5 HWAS HBX HBX2 HB3 HB4 HB5 HB25 HH2 HH4 HB2 HB1 hbc HOW HBB5
    go_wp2_with fail
    go_loopw [10] (fun vi wr => ∃ i : Nat, i ≤ OS.length ∧ vi = .int .i64 i ∧ Shp w2.heap.size w3.heap.size wc wr) (fun vi _ => OS.length - (intOf vi).toNat)
    case atStart => exact ⟨0, Nat.zero_le _, rfl, Shp.refl _ _ _⟩
    case round =>
      obtain ⟨i, hi, rfl, hsh⟩ := hrel
      have HSH : Hid (Shp w2.heap.size w3.heap.size wc wr) := hsh
      have hsw := hsh.kept.size
      clear hsh
      by_cases hlt : i < OS.length
      · have hi2 : (i : Int) < OS.length := by omega
        obtain ⟨gw, cpw, curw, hvw, hgw, hbw, -⟩ := own_block HOWc.out.row (by omega)
        simp only [Value.slice.injEq] at hvw
        obtain ⟨rfl, -, rfl⟩ := hvw
        have hgl : gw < w3.heap.size := (Array.getElem?_eq_some_iff.1 hbw).1
        have hbw' : ∀ W, Shp w2.heap.size w3.heap.size wc W → W.heap[gw]? = w3.heap[gw]? := fun W hW => (hW.obj gw curw ((H3c.out gw hgl).trans hbw)).trans hbw.symm
        obtain ⟨g9, cp9, e9, -, -, -, hcl⟩ := row_cells HOWc.out.row (by omega)
        simp only [Value.slice.injEq, Option.some.injEq, Addr.mk.injEq, and_true, true_and] at e9
        obtain ⟨rfl, rfl⟩ := e9
        obtain ⟨u, hu, hown⟩ := HOWc.out.kids i hlt
        obtain ⟨bu, cu, rfl, -, -⟩ := own_val hown
        have hc1 : ∀ W, Shp w2.heap.size w3.heap.size wc W → W.cell? ⟨gw, i * 2 + 1, none⟩ = some (.slice bu (OS[i]).2.length cu) := fun W hW => (World.cell?_of_block (hbw' W hW)).trans (hcl _ _ (((obsC_at OS vsw HOWc.out.len i hlt).2).trans hu))
        have hnl := HOK.out OS[i] (List.getElem_mem hlt)
        have HKB : Hid (1 ≤ (OS[i]).2.length → ∃ gk curk, bu = some ⟨gk, 0, none⟩ ∧ w2.heap.size ≤ gk ∧ gk < w3.heap.size ∧ gk ≠ gw ∧ wc.heap[gk]? = some (.cells curk 25 (0, 0)) ∧ (OS[i]).2.length * 3 ≤ curk.size) := fun h1 => by
          obtain ⟨gk, ck, curk, e, h2, h3, h4⟩ := own_block hown h1
          simp only [Value.slice.injEq] at e
          have hk3 : gk < w3.heap.size := (Array.getElem?_eq_some_iff.1 h3).1
          refine ⟨gk, curk, e.1, h2, hk3, fun e9 => ?_, (H3c.out gk hk3).trans h3, h4⟩
          subst e9
          rw [hbw] at h3
          simp at h3
        obtain ⟨n, hn⟩ : ∃ n, n = (OS[i]).2.length := ⟨_, rfl⟩
        rw [← hn] at HKB hnl
        have HC1 : Hid (∀ W, Shp w2.heap.size w3.heap.size wc W → W.cell? ⟨gw, i * 2 + 1, none⟩ = some (.slice bu n cu)) := by rw [hn]; exact hc1
        clear hc1 hn hu hown hcl hbw' hbw
        go_wp2_with fail
        go_loopw [11] (fun vk wz => ∃ z : Nat, z ≤ n ∧ vk = .int .i64 z ∧ Shp w2.heap.size w3.heap.size wc wz) (fun vk _ => n - (intOf vk).toNat)
        case atStart => exact ⟨0, Nat.zero_le _, rfl, HSH.out⟩
        case round =>
          obtain ⟨z, hz, rfl, hshz⟩ := hrel
          have HSZ : Hid (Shp w2.heap.size w3.heap.size wc wr) := hshz
          have t1 := HC1.out _ hshz
          by_cases hzt : z < n
          · have hz2 : (z : Int) < n := by omega
            obtain ⟨gk, curk, rfl, hk1, hk2, hk3, hbk, hksz⟩ := HKB.out (by omega)
            obtain ⟨cur', hb', hs'⟩ := hshz.val gk curk hbk
            have hgkl : gk < wr.heap.size := (Array.getElem?_eq_some_iff.1 hb').1
            have hgwl : gw < wr.heap.size := by have := hshz.kept.size; omega
            haveI hne : Nonempty (ClsP fun W => W.cell? ⟨gw, i * 2 + 1, none⟩ = some (.slice (some ⟨gk, 0, none⟩) n cu)) := ⟨⟨wr, t1⟩⟩
            have x1 : ∀ c : ClsP fun W => W.cell? ⟨gw, i * 2 + 1, none⟩ = some (.slice (some ⟨gk, 0, none⟩) n cu), c.1.cell? ⟨gw, i * 2 + 1, none⟩ = some (.slice (some ⟨gk, 0, none⟩) n cu) := fun c => c.2
            clear hshz
            go_wp2_with fail
            refine mix_begin (n := 9) (S := fun w' => ∃ c : ClsP fun W => W.cell? ⟨gw, i * 2 + 1, none⟩ = some (.slice (some ⟨gk, 0, none⟩) n cu), w' = c.1) (by kernel_rfl) rfl rfl ?_
            refine mix_seg (fuel := 3) (fuel' := 9) (idx := [0, 1, 2, 3, 4, 5]) (by kernel_rfl) rfl rfl rfl (fun _ _ _ _ _ h => h) ⟨⟨wr.drew, t1⟩, rfl⟩ ?_
            show wpQuiet _ _ _ _ [_, _, _, _, _, _] _
            iterate 6 (go_big_quiet_step (fail))
            refine wpQuiet_nil ?_
            refine mix_loud (fuel := 2) (fuel' := 3) (i := 6) rfl (by kernel_rfl) rfl rfl (by rfl) ?_
            intro K hK
            go_simp
            refine (hnum_any 77 _).mono ?_
            rintro e w6 ⟨rfl, hb6⟩
            have hb6' : Below wr.heap.size wr w6 := (Below.refl _ wr).drew.trans (hb6.mono (Nat.le_refl _))
            have s1 := (below_cell hb6' hgwl).trans t1
            have hbk6 := (hb6'.block gk hgkl).trans hb'
            obtain ⟨u0, v0⟩ := (val_cell hbk6).1 (z * 3) (by omega)
            obtain ⟨u1, v1⟩ := (val_cell hbk6).1 (z * 3 + 1) (by omega)
            obtain ⟨u2, v2⟩ := (val_cell hbk6).1 (z * 3 + 2) (by omega)
            have f0 := (val_cell hbk6).2 (z * 3)
            have f1 := (val_cell hbk6).2 (z * 3 + 1)
            have f2 := (val_cell hbk6).2 (z * 3 + 2)
            have HS6 : Hid (Shp w2.heap.size w3.heap.size wc (((w6.setCell ⟨gk, z * 3, none⟩ (.int .i64 1)).setCell ⟨gk, z * 3 + 1, none⟩ (.int .i64 77)).setCell ⟨gk, z * 3 + 2, none⟩ (.string ⟨#[]⟩))) := (HSZ.out.on hb6').set3 hbk6 hk1 hk2 _ _ _
            (try go_simp)
            refine hK.out _ _ ⟨⟨w6, s1⟩, rfl⟩ ?_
            clear hK K
            refine mix_seg (fuel := 1) (fuel' := 2) (idx := [7]) (by kernel_rfl) rfl rfl rfl (fun _ _ _ _ _ h => h) ⟨⟨w6, s1⟩, rfl⟩ ?_
            show wpQuiet _ _ _ _ [_] _
            go_big_quiet_step (fail)
            refine wpQuiet_nil ?_
            refine mix_loud (fuel := 0) (fuel' := 1) (i := 8) rfl (by kernel_rfl) rfl rfl (by rfl) ?_
            intro K hK
            go_simp
            refine hK.out _ _ ⟨⟨_, HC1.out _ HS6.out⟩, rfl⟩ ?_
            clear hK K
            refine mix_done (by kernel_rfl) ?_
            clear x1 v0 v1 v2 f0 f1 f2 t1
            go_wp2
            exact ⟨⟨z + 1, by omega, by go_num, HS6.out⟩, by simp [intOf]; omega⟩
          · obtain rfl : z = n := by omega
            have hz2 : ¬ (z : Int) < z := by omega
            clear hshz
            go_wp2
            exact ⟨⟨i + 1, by omega, by go_num, HSZ.out⟩, by simp [intOf]; omega⟩
      · obtain rfl : i = OS.length := by omega
        have hi2 : ¬ (OS.length : Int) < OS.length := by omega
        have hkp := HSH.out.kept
        have HBr : Hid (Below w.heap.size w wr) := HBBc.out.trans (hkp.below (by have := HBBc.out.size; omega) (fun q hq => by omega))
        have HXr : Hid (HpIn (fun k => w3.heap.size ≤ k ∧ k < w4.heap.size) wr 4096 OS g4 vo4 vc4) := HXc.out.kept fun q hq hlt9 => hkp.block q hlt9 (fun h => by omega)
        have HYr : Hid (HpIn (fun k => w4.heap.size ≤ k ∧ k < w5.heap.size) wr 4096 OS G5 vo5 vc5) := HYc.out.kept fun q hq hlt9 => hkp.block q hlt9 (fun h => by omega)
        have HHr : Hid (HpIn (fun q => N ≤ q ∧ q < w2.heap.size) wr 4096 OS N vo2 vc2) := HHc.out.kept fun q hq hlt9 => hkp.block q hlt9 (fun h => by omega)
        have ca := href_any 0 wr
        clear hkp HXc HYc HHc HSH HOWc H3c HBBc
        go_wp2_with fail
        refine ca.mono ?_
        clear ca
        rintro e wA ⟨rfl, hbA⟩
        have hsA := hbA.size
        have cb := hnum_any 5 wA
        have HBA : Hid (Below wr.heap.size wr wA) := hbA
        clear hbA
        go_wp2_with fail
        refine cb.mono ?_
        clear cb
        rintro e wB ⟨rfl, hbB⟩
        have hsB := hbB.size
        have hrB : Below wr.heap.size wr wB := HBA.out.trans (hbB.mono hsA)
        have HB9 : Hid (Below w.heap.size w wB) := HBr.out.trans (hrB.mono HBr.out.size)
        have cs := set_any ⟨4, 0, []⟩ ⟨1, 5, []⟩ 0 wB (HXr.out.below hrB) ⟨by simp, by simp⟩ ⟨by simp, by simp⟩ (HT.out.below HB9.out (Nat.le_refl _))
        have HRB : Hid (Below wr.heap.size wr wB) := hrB
        clear hbB hrB
        go_wp2_with fail
        refine cs.mono ?_
        clear cs
        rintro e wC ⟨rfl, hkC, -⟩
        have hsC := hkC.size
        have HYC : Hid (HpIn (fun k => w4.heap.size ≤ k ∧ k < w5.heap.size) wC 4096 OS G5 vo5 vc5) := (HYr.out.below HRB.out).kept fun q hq hlt9 => hkC.block q hlt9 (fun h => by omega)
        have HHC : Hid (HpIn (fun q => N ≤ q ∧ q < w2.heap.size) wC 4096 OS N vo2 vc2) := (HHr.out.below HRB.out).kept fun q hq hlt9 => hkC.block q hlt9 (fun h => by omega)
        have HBC : Hid (Below w.heap.size w wC) := HB9.out.trans (hkC.below (by have := HB9.out.size; omega) (fun q hq => by omega))
        have cn := hnum_any 1 wC
        clear hkC HRB HYr HHr HXr HBA
        go_wp2_with fail
        refine cn.mono ?_
        clear cn
        rintro e wD ⟨rfl, hbD⟩
        have hsD := hbD.size
        obtain ⟨wE, hwE⟩ : ∃ wE, wE = wD.alloc (.cells #[.int .i64 1, .int .i64 1, .string (strB [])] 25) := ⟨_, rfl⟩
        have hvE := valsIn_one wD ⟨1, 1, []⟩ (wD.heap.size + 1) (by omega)
        simp only at hvE
        rw [← hwE] at hvE
        have hbE : Below wC.heap.size wC wE := by rw [hwE]; exact hbD.alloc hsD _
        have hsE := hbE.size
        have HBE : Hid (Below w.heap.size w wE) := HBC.out.trans (hbE.mono HBC.out.size)
        have cal := alloc_any ([], [⟨1, 1, []⟩]) (.slice (some ⟨wD.heap.size, 0, none⟩) 1 1) wE (HYC.out.below hbE) hvE ⟨by simp, fun u hu => by simp at hu; subst hu; exact ⟨by simp, by simp⟩⟩ (by simp) (HT.out.below HBE.out (Nat.le_refl _))
        have HCE : Hid (Below wC.heap.size wC wE) := hbE
        have HWE : Hid (wE = wD.alloc (.cells #[.int .i64 1, .int .i64 1, .string (strB [])] 25)) := hwE
        clear hwE hvE hbE hbD
        go_wp2_with fail
        rw [show wD.alloc (.cells #[.int .i64 1, .int .i64 1, .string ⟨#[]⟩] 25) = wE from HWE.out.symm]
        refine cal.mono ?_
        clear cal
        rintro e wF ⟨rfl, hkF, -⟩
        have hsF := hkF.size
        have hHF : HpIn (fun q => N ≤ q ∧ q < w2.heap.size) wF 4096 OS N vo2 vc2 := (HHC.out.below HCE.out).kept fun q hq hlt9 => hkF.block q hlt9 (fun h => by omega)
        have HBF : Hid (Below w.heap.size w wF) := HBE.out.trans (hkF.below (by have := HBE.out.size; omega) (fun q hq => by omega))
        have cg := hall_any wF hHF
        clear hkF hHF HHC HYC HCE
        go_wp2_with fail
        refine cg.mono ?_
        clear cg
        rintro e wG ⟨vG, rfl, ⟨vsG, hoG⟩, hbG⟩
        have hsG := hbG.size
        have HBG : Hid (Below w.heap.size w wG) := HBF.out.trans (hbG.mono HBF.out.size)
        have HNG : Hid (objsIn (fun q => wF.heap.size ≤ q) wG vG OS) := hoG.read
        have cd := done_any base cap l wG (actsIn_below HIN.out HBG.out) HSA.out hl (HT.out.below HBG.out (Nat.le_refl _))
        rw [← HOS.out] at cd
        clear hbG hoG
        go_wp2_with fail
        refine cd.mono ?_
        clear cd
        rintro e wH ⟨rfl, ⟨voH, vcH, hHH⟩, hbH⟩
        have hsH := hbH.size
        have HBH : Hid (Below w.heap.size w wH) := HBG.out.trans (hbH.mono HBG.out.size)
        have HNH : Hid (objsIn (fun q => wF.heap.size ≤ q) wH vG OS) := HNG.out.kept hsH fun q _ hq => hbH.block q hq
        have ch := hall_any wH hHH
        clear hbH hHH HNG
        go_wp2_with fail
        refine ch.mono ?_
        clear ch
        rintro e wI ⟨vI, rfl, ⟨vsI, hoI⟩, hbI⟩
        have hsI := hbI.size
        have HBI : Hid (Below w.heap.size w wI) := HBH.out.trans (hbI.mono HBH.out.size)
        have ci := same_any06 _ _ OS vG vI wI (HNH.out.kept hsI fun q _ hq => hbI.block q hq) hoI.read (by omega) (fun o ho => by have := HOK.out o ho; omega)
        clear hbI hoI HNH
        go_wp2_with fail
        refine ci.mono ?_
        clear ci
        rintro e wJ ⟨rfl, hbJ⟩
        have HBJ : Hid (Below w.heap.size w wJ) := HBI.out.trans (hbJ.mono HBI.out.size)
        have cv := lives06_any wJ (HT.out.below HBJ.out (Nat.le_refl _))
        clear hbJ
        go_wp2_with fail
        refine cv.mono ?_
        clear cv
        rintro e wK ⟨rfl, hbK⟩
        have HBK : Hid (Below w.heap.size w wK) := HBJ.out.trans (hbK.mono HBJ.out.size)
        clear hbK
        go_wp2
        go_ret
        exact ⟨rfl, HBK.out⟩
end Go.Proofs.YtchpmnmngeebjaaDoor
