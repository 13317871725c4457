/- heap: a cell is set. -/
import Derived.Test.YtchpmnmngeebjaaGreatDoorHSet
import Derived.Deep.RegionWith
namespace Go.Proofs.YtchpmnmngeebjaaGreatDoor
open Go.RowKit Go.Shelf

/-- The objects with a cell that is another. -/
def setOs : List Ob → Nat → Nat → Vl → List Ob
  | [], _, _, _ => []
  | o :: os, 0, i, x => (o.1, o.2.set i x) :: os
  | o :: os, j + 1, i, x => o :: setOs os j i x

theorem setOs_len : ∀ (os : List Ob) (j i : Nat) (x : Vl), (setOs os j i x).length = os.length
  | [], _, _, _ => rfl
  | o :: os, 0, i, x => rfl
  | o :: os, j + 1, i, x => by rw [setOs, List.length_cons, List.length_cons, setOs_len]
theorem setOs_objC : ∀ (os : List Ob) (a j i : Nat) (x : Vl), objC a (setOs os j i x) = objC a os
  | [], _, _, _, _ => rfl
  | o :: os, a, 0, i, x => by simp [setOs, objC]
  | o :: os, a, j + 1, i, x => by rw [setOs, objC, objC, setOs_objC]
theorem setOs_allV : ∀ (os : List Ob) (j i : Nat) (x : Vl) (hj : j < os.length), i < (os[j]).2.length → allV (setOs os j i x) = (allV os).set (fromO os j + i) x
  | [], _, _, _, h, _ => by cases h
  | o :: os, 0, i, x, _, hi => by
    have e : fromO (o :: os) 0 = 0 := rfl
    simp only [List.getElem_cons_zero] at hi
    rw [setOs, allV_cons, allV_cons, e, Nat.zero_add, List.set_append_left _ _ hi]
  | o :: os, j + 1, i, x, hj, hi => by
    have e : fromO (o :: os) (j + 1) = o.2.length + fromO os j := by unfold fromO; rw [List.take_succ_cons, allV_cons, List.length_append]
    have ih := setOs_allV os j i x (by simpa using hj) (by simpa using hi)
    rw [setOs, allV_cons, allV_cons, e, ih, List.set_append_right _ _ (by omega)]
    congr 2
    omega
theorem setOs_mem : ∀ (os : List Ob) (j i : Nat) (x : Vl) (o : Ob), o ∈ setOs os j i x → o ∈ os ∨ ∃ o' ∈ os, o = (o'.1, o'.2.set i x)
  | [], _, _, _, _, h => by cases h
  | p :: os, 0, i, x, o, h => by
    rw [setOs] at h
    rcases List.mem_cons.1 h with h | h
    · exact .inr ⟨p, List.mem_cons_self, h⟩
    · exact .inl (List.mem_cons_of_mem _ h)
  | p :: os, j + 1, i, x, o, h => by
    rw [setOs] at h
    rcases List.mem_cons.1 h with h | h
    · subst h; exact .inl List.mem_cons_self
    · rcases setOs_mem os j i x o h with h | ⟨o', h1, h2⟩
      · exact .inl (List.mem_cons_of_mem _ h)
      · exact .inr ⟨o', List.mem_cons_of_mem _ h1, h2⟩
theorem setOs_at : ∀ (os : List Ob) (j i : Nat) (x : Vl) (q : Nat), (setOs os j i x)[q]? = if q = j then (os[q]?).map (fun o => (o.1, o.2.set i x)) else os[q]?
  | [], _, _, _, _ => by simp [setOs]
  | o :: os, 0, i, x, 0 => by simp [setOs]
  | o :: os, 0, i, x, q + 1 => by simp [setOs]
  | o :: os, j + 1, i, x, 0 => by simp [setOs]
  | o :: os, j + 1, i, x, q + 1 => by simp [setOs, setOs_at os j i x q]

theorem vlC_set : ∀ (l : List Vl) (i : Nat) (x : Vl), i < l.length → (((vlC l).set (i * 3) (.int .i64 x.k)).set (i * 3 + 1) (.int .i64 x.n)).set (i * 3 + 2) (.string (strB x.s)) = vlC (l.set i x)
  | [], _, _, h => by cases h
  | v :: l, 0, x, _ => by simp [vlC, vlL]
  | v :: l, i + 1, x, h => by
    have ih := vlC_set l i x (by simpa using h)
    have e : vlC (v :: l) = vlL v ++ vlC l := rfl
    have e' : vlC ((v :: l).set (i + 1) x) = vlL v ++ vlC (l.set i x) := rfl
    have key : ∀ (c : List Value) (q : Nat) (a : Value), (vlL v ++ c).set ((i + 1) * 3 + q) a = vlL v ++ c.set (i * 3 + q) a := fun c q a => by
      rw [List.set_append_right _ _ (by simp [vlL]; omega)]
      congr 2
      simp [vlL]
      omega
    have k0 := key (vlC l) 0 (.int .i64 x.k)
    simp only [Nat.add_zero] at k0
    rw [e, e', k0, key, key, ih]

theorem own_set3 {w : World} {e n g cp : Nat} {l : List Vl} (h : w.ownsRow 0 e 3 (.slice (some ⟨g, 0, none⟩) n cp) n (vlC l)) (i : Nat) (hi : i < l.length) (x : Vl) :
    (((w.setCell ⟨g, i * 3, none⟩ (.int .i64 x.k)).setCell ⟨g, i * 3 + 1, none⟩ (.int .i64 x.n)).setCell ⟨g, i * 3 + 2, none⟩ (.string (strB x.s))).ownsRow 0 e 3 (.slice (some ⟨g, 0, none⟩) n cp) n (vlC (l.set i x)) := by
  refine ⟨by rw [vlC_len, List.length_set, ← vlC_len]; exact h.1, ?_⟩
  rcases h.2 with ⟨h1, _⟩ | ⟨g', cap, cur, h1, h2, h3, h4, h5, h6, h7⟩
  · cases h1
  · simp only [Value.slice.injEq, Option.some.injEq, Addr.mk.injEq] at h1
    obtain ⟨⟨rfl, -, -⟩, -, rfl⟩ := h1
    refine .inr ⟨g, cp, _, rfl, h2, setCellH_block _ (setCellH_block _ (setCellH_block _ h3)), h4, h5, by simpa using h6, ?_⟩
    rw [← vlC_set l i x hi, ← h7]
    simp [List.take_set]

theorem HpIn.set {S : Nat → Prop} {w : World} {most : Nat} {os : List Ob} {h g n cp : Nat} {vo : Value} (H : HpIn S w most os h vo (.slice (some ⟨g, 0, none⟩) n cp)) (j i : Nat) (hj : j < os.length) (hi : i < (os[j]).2.length) (x : Vl) (hx : cellV x os.length = true) (hs : smallV x) :
    HpIn S (((w.setCell ⟨g, fromO os j * 3 + i * 3, none⟩ (.int .i64 x.k)).setCell ⟨g, fromO os j * 3 + i * 3 + 1, none⟩ (.int .i64 x.n)).setCell ⟨g, fromO os j * 3 + i * 3 + 2, none⟩ (.string (strB x.s))) most (setOs os j i x) h vo (.slice (some ⟨g, 0, none⟩) n cp) := by
  have hap := H.apart
  obtain ⟨hc1, -⟩ := allV_cut os j hj
  have hn : n = (allV os).length := by
    obtain ⟨b, c, hv, -, -⟩ := own_val H.cells
    simp only [Value.slice.injEq] at hv
    exact hv.2.1
  subst hn
  have hoth : ∀ k, k ≠ g → (((w.setCell ⟨g, fromO os j * 3 + i * 3, none⟩ (.int .i64 x.k)).setCell ⟨g, fromO os j * 3 + i * 3 + 1, none⟩ (.int .i64 x.n)).setCell ⟨g, fromO os j * 3 + i * 3 + 2, none⟩ (.string (strB x.s))).heap[k]? = w.heap[k]? := fun k hk => by
    rw [Below.heap_setCell _ _ _ _ (by simpa using hk), Below.heap_setCell _ _ _ _ (by simpa using hk), Below.heap_setCell _ _ _ _ (by simpa using hk)]
  refine ⟨?_, ?_, ?_, H.sh, H.so, H.sc, ?_, ?_, H.may⟩
  · rw [hoth h (fun e => hap.2.1 (by rw [e]; rfl))]; exact H.blk
  · rw [setOs_len, setOs_objC]
    exact own_blocks H.objs fun k hk _ => hoth k fun e => hap.2.2 k hk (by rw [e]; rfl)
  · rw [setOs_allV os j i x hj hi, List.length_set]
    have h9 := own_set3 H.cells (fromO os j + i) (by omega) x
    rw [Nat.add_mul] at h9
    exact h9
  · intro o ho
    rw [setOs_len]
    rcases setOs_mem os j i x o ho with ho | ⟨o', ho', rfl⟩
    · exact H.ok o ho
    · have hok := H.ok o' ho'
      refine ⟨?_, hok.2.1, fun v hv => ?_⟩
      · have h1 := hok.1
        unfold obB at h1 ⊢
        rw [Bool.and_eq_true, List.all_eq_true] at h1 ⊢
        refine ⟨fun v hv => ?_, h1.2⟩
        rcases List.mem_or_eq_of_mem_set hv with hv | rfl
        · exact h1.1 v hv
        · exact hx
      · rcases List.mem_or_eq_of_mem_set hv with hv | rfl
        · exact hok.2.2 v hv
        · exact hs
  · rw [setOs_len, setOs_allV os j i x hj hi, List.length_set]; exact H.use

set_option maxRecDepth 100000 in
set_option maxHeartbeats 8000000 in
theorem set_ok {S : Nat → Prop} {most : Nat} {os : List Ob} {h : Nat} {vo vc : Value} (j : Nat) (hj : j < os.length) (x : Vl) (i : Nat) (hi : i < (os[j]).2.length) (w : World) (H : HpIn S w most os h vo vc) (hx : smallV x) (ht : TabsP w) (hcx : cellV x os.length = true) :
    Calls Tryz.prog 16 #[.pointer (some ⟨h, 0, none⟩), vlV ⟨4, j, []⟩, .int .i64 (i : Int), vlV x] w fun e w' => e = .returned (.int .i64 0) ∧ KeptS S w w' ∧ HpIn S w' most (setOs os j i x) h vo vc := by
  have huse := H.use
  have hmay := H.may
  have hlt := H.lt
  obtain ⟨hcut, -⟩ := allV_cut os j hj
  obtain ⟨hz2, hb2, b0, b1⟩ := setW_facts w ⟨4, j, []⟩ x
  obtain ⟨w2, hw2⟩ : ∃ w2, w2 = setW w ⟨4, j, []⟩ x := ⟨_, rfl⟩
  rw [← hw2] at hz2 hb2 b0 b1
  have cf := find_ok j hj w2 (H.below hb2) (ht.below hb2 (Nat.le_refl _))
  have hc := fun wx (hx' : Below w.heap.size w wx) => isCell_any x os.length wx hx (ht.below hx' (Nat.le_refl _))
  obtain ⟨g, cp, hvc, -, hg, hcp1, -⟩ := row_cells H.cells (by omega)
  subst hvc
  have cc0 : ∀ W, Below w.heap.size w W → Calls Tryz.prog 37 #[.pointer (some ⟨h, 0, none⟩), foundO os j hj] W fun e w' => e = .returned (.slice (some ⟨g, fromO os j * 3, none⟩) (os[j]).2.length (os[j]).2.length) ∧ Below W.heap.size W w' := fun W hW => (cellsOf_any j hj W (H.below hW)).mono fun e w' ⟨base, he, hb, hbase⟩ => by
    obtain ⟨g', n', cp', e1, e2⟩ := hbase (by omega)
    simp only [Value.slice.injEq, Option.some.injEq, Addr.mk.injEq] at e1
    obtain ⟨⟨rfl, -, -⟩, -, -⟩ := e1
    exact ⟨by rw [he, e2], hb⟩
  have HST : Hid (∀ W, Below w.heap.size w W → KeptS S w (((W.setCell ⟨g, fromO os j * 3 + i * 3, none⟩ (.int .i64 x.k)).setCell ⟨g, fromO os j * 3 + i * 3 + 1, none⟩ (.int .i64 x.n)).setCell ⟨g, fromO os j * 3 + i * 3 + 2, none⟩ (.string (strB x.s))) ∧
      HpIn S (((W.setCell ⟨g, fromO os j * 3 + i * 3, none⟩ (.int .i64 x.k)).setCell ⟨g, fromO os j * 3 + i * 3 + 1, none⟩ (.int .i64 x.n)).setCell ⟨g, fromO os j * 3 + i * 3 + 2, none⟩ (.string (strB x.s))) most (setOs os j i x) h vo (.slice (some ⟨g, 0, none⟩) (allV os).length cp)) := fun W hW => by
    have hsg : S g := H.sc g rfl
    exact ⟨(((KeptS.of hW).set _ (fun _ => hsg)).set _ (fun _ => hsg)).set _ (fun _ => hsg), (H.below hW).set j i hj hi x hcx hx⟩
  have HCL : Hid (∀ W, Below w.heap.size w W → (∀ q, q < 3 → ∃ u, W.cell? ⟨g, fromO os j * 3 + i * 3 + q, none⟩ = some u) ∧ ∀ q, W.frozen? ⟨g, q, none⟩ = false) := fun W hW => by
    have HW := H.below hW
    obtain ⟨hal, -⟩ := allV_at os j hj i hi
    rcases HW.cells.2 with ⟨h1, _⟩ | ⟨g', cap, cur, h1, h2, h3, h4, h5, h6, h7⟩
    · cases h1
    · simp only [Value.slice.injEq, Option.some.injEq, Addr.mk.injEq] at h1
      obtain ⟨⟨rfl, -, -⟩, -, rfl⟩ := h1
      refine ⟨fun q hq => ?_, fun q => by simp only [World.frozen?, h3]; simp⟩
      have hlt : fromO os j * 3 + i * 3 + q < cur.size := by rw [h6]; omega
      exact ⟨cur[fromO os j * 3 + i * 3 + q], by rw [cell_of_row _ _ _ _ _ _ h3]; exact Array.getElem?_eq_getElem hlt⟩
  obtain ⟨p0, p1, p2, -⟩ := cellsH3 b0
  have HB2 : Hid (Below w.heap.size w w2) := hb2
  have HB1 : Hid (w2.heap[w.heap.size + 1]? = some (.cells #[.int .i64 x.k, .int .i64 x.n, .string (strB x.s)] 25 (0, 0))) := b1
  obtain ⟨-, -, c2, -, -⟩ := cells4 (H.below hb2).blk
  obtain ⟨ob, oc, hvo, ho1, ho2⟩ := own_val H.objs
  subst hvo
  have hw2' := hw2.symm
  unfold setW at hw2'
  unfold foundO at cf cc0
  obtain ⟨n, hn⟩ : ∃ n, n = (os[j]).2.length := ⟨_, rfl⟩
  obtain ⟨tg, htg⟩ : ∃ tg, tg = (os[j]).1 := ⟨_, rfl⟩
  obtain ⟨fr, hfr⟩ : ∃ fr : Int, fr = ((fromO os j : Nat) : Int) := ⟨_, rfl⟩
  obtain ⟨up, hup⟩ : ∃ up : Int, up = ((fromO os j + (os[j]).2.length : Nat) : Int) := ⟨_, rfl⟩
  rw [← htg, ← hfr, ← hup] at cf
  simp only [← hup] at cc0
  simp only [← htg, ← hfr, ← hn] at cc0
  have ch := fun W => has_any (strB tg) fr up n (i : Int) (by omega) (by omega) (by omega) W
  have hhas : hasB (i : Int) n = true := by unfold hasB; rw [decide_eq_true_eq]; omega
  rw [hhas] at ch
  have hin : i < n := by omega
  have hini : (i : Int) < (n : Int) := by omega
  have ca := fun W => anew_any x W hx.2
  rw [hcx] at hc
  generalize fromO os j = FO at *
  generalize setOs os j i x = OS at *
  obtain ⟨xk, xm, xs⟩ := x
  clear H hb2 b0 b1 hw2 ht hn htg hfr hup hcut hx hcx hhas
  go_enter Tryz.func16, Tryz.ntmps16
  go_wp2_with fail
  refine cf.mono ?_
  clear cf
  rintro e w3 ⟨rfl, hb3⟩
  have hs3 := hb3.size
  obtain ⟨w4, hw4⟩ : ∃ w4, w4 = w3.alloc (.cells #[.string (strB tg), .int .i64 fr, .int .i64 up] 79) := ⟨_, rfl⟩
  have b1 : w4.heap[w.heap.size + 1]? = some (.cells #[.int .i64 xk, .int .i64 xm, .string (strB xs)] 25 (0, 0)) := by rw [hw4]; exact (Below.heap_alloc _ _ _ (by omega)).trans ((hb3.block _ (by omega)).trans HB1.out)
  have hs4 : w4.heap.size = w3.heap.size + 1 := by rw [hw4]; simp
  have h24 : Below w2.heap.size w2 w4 := by rw [hw4]; exact hb3.alloc hs3 _
  have hB4 : Below w.heap.size w w4 := HB2.out.trans (h24.mono (by omega))
  have HB4 : Hid (Below w.heap.size w w4) := hB4
  have bo : w4.heap[w3.heap.size]? = some (.cells #[.string (strB tg), .int .i64 fr, .int .i64 up] 79 (0, 0)) := by rw [hw4]; exact World.alloc_heap_new _ _
  have HBO : Hid (w4.heap[w3.heap.size]? = some (.cells #[.string (strB tg), .int .i64 fr, .int .i64 up] 79 (0, 0)) ∧ w4.heap[w.heap.size + 1]? = some (.cells #[.int .i64 xk, .int .i64 xm, .string (strB xs)] 25 (0, 0))) := ⟨bo, b1⟩
  obtain ⟨y0, y1, y2, -⟩ := cellsH3 b1
  have d2 := (below_cell h24 (g := h) (j := 2) (by omega)).trans c2
  have HC : Hid (∀ wx, Below w4.heap.size w4 wx → Calls Tryz.prog 42 #[vlV ⟨xk, xm, xs⟩, .int .i64 (os.length : Int)] wx fun e w'' => e = .returned (.bool true) ∧ Below w4.heap.size w4 w'') := fun wx hx' =>
    (hc wx (hB4.trans (hx'.mono hB4.size))).mono fun e w'' ⟨he, hb⟩ => ⟨he, hx'.trans (hb.mono hx'.size)⟩
  have x0 := cls_cell (n := w4.heap.size) y0 (by simp only; omega)
  have x1 := cls_cell (n := w4.heap.size) y1 (by simp only; omega)
  have x2 := cls_cell (n := w4.heap.size) y2 (by simp only; omega)
  have x3 := cls_cell (n := w4.heap.size) d2 (by simp only; omega)
  have hw4' := hw4.symm
  clear hw4 hb3 bo hB4 b1 h24 hc y0 y1 y2
  go_wp2_with fail
  refine wp_region_cls (n := w4.heap.size) (w0 := w4) (Below.refl _ _) (by kernel_rfl) (by kernel_rfl) ?_
  iterate 6 (go_big_quiet_step (fail))
  go_big_quiet_step (exact cls_calls HC.out _)
  iterate 2 (go_big_quiet_step (fail))
  refine wpQuiet_nil ?_
  rintro _ ⟨c, rfl⟩
  have HB5 : Hid (Below w.heap.size w c.1) := HB4.out.trans (c.2.mono (by omega))
  have hs5 := c.2.size
  obtain ⟨o0, o1, o2, -⟩ := cellsH3 ((c.2.block _ (by omega)).trans HBO.out.1)
  have ch' := ch c.1
  clear x0 x1 x2 x3 ch
  go_wp2_with fail
  refine ch'.mono ?_
  clear ch'
  rintro e w5 ⟨rfl, hb5⟩
  have HB6 : Hid (Below w.heap.size w w5) := HB5.out.trans (hb5.mono (by omega))
  have hs6 := hb5.size
  obtain ⟨u0, u1, u2, -⟩ := cellsH3 ((hb5.block _ (by omega)).trans ((c.2.block _ (by omega)).trans HBO.out.1))
  have hbx := (hb5.block _ (by omega)).trans ((c.2.block _ (by omega)).trans HBO.out.2)
  obtain ⟨v0, v1, v2, -⟩ := cellsH3 hbx
  have ca' : ∀ W, Below w5.heap.size w5 W → Calls Tryz.prog 44 #[.agg #[.int .i64 xk, .int .i64 xm, .string (strB xs)]] W fun e w7 => e = .returned (.agg #[.int .i64 xk, .int .i64 xm, .string (strB xs)]) ∧ (∃ z0, w7.cell? ⟨g, FO * 3 + i * 3, none⟩ = some z0) ∧ (∃ z1, w7.cell? ⟨g, FO * 3 + i * 3 + 1, none⟩ = some z1) ∧ (∃ z2, w7.cell? ⟨g, FO * 3 + i * 3 + 2, none⟩ = some z2) ∧ (∀ q, w7.frozen? ⟨g, q, none⟩ = false) ∧ Hid (Below w.heap.size w w7) := fun W hW => (ca W).mono fun e w7 ⟨he, hb⟩ => by
    have hb7 : Below w.heap.size w w7 := (HB6.out.trans (hW.mono (by omega))).trans (hb.mono (by have := hW.size; omega))
    obtain ⟨hq, hf⟩ := HCL.out w7 hb7
    exact ⟨he, hq 0 (by omega), hq 1 (by omega), hq 2 (by omega), hf, hb7⟩
  have cc' : ∀ W, Below w5.heap.size w5 W → Calls Tryz.prog 37 #[.pointer (some ⟨h, 0, none⟩), .agg #[.string (strB tg), .int .i64 fr, .int .i64 up]] W fun e w6 => e = .returned (.slice (some ⟨g, FO * 3, none⟩) n n) ∧ w6.cell? ⟨w.heap.size + 1, 0, none⟩ = some (.int .i64 xk) ∧ w6.cell? ⟨w.heap.size + 1, 1, none⟩ = some (.int .i64 xm) ∧ w6.cell? ⟨w.heap.size + 1, 2, none⟩ = some (.string (strB xs)) ∧ Hid (Below w5.heap.size w5 w6) := fun W hW => (cc0 W (HB6.out.trans (hW.mono (by omega)))).mono fun e w6 ⟨he, hb⟩ => by
    have h56 : Below w5.heap.size w5 w6 := hW.trans (hb.mono hW.size)
    obtain ⟨q0, q1, q2, -⟩ := cellsH3 ((h56.block _ (by omega)).trans hbx)
    exact ⟨he, q0, q1, q2, h56⟩
  have hBd : Below w5.heap.size w5 w5.drew := (Below.refl _ _).drew
  clear hb5 hbx cc0 ca o0 o1 o2
  go_wp2_with fail
  go_region_with (first
    | (go_at_call 37; refine (cc' _ hBd).mono ?_; rintro e w6 ⟨rfl, t0, t1, t2, HB66⟩)
    | (go_at_call 44; refine (ca' _ HB66.out).mono ?_; rintro e w7 ⟨rfl, ⟨z0, hz0⟩, ⟨z1, hz1⟩, ⟨z2, hz2⟩, hzf, HB7⟩))
  all_goals
    go_wp2
    go_ret
    exact ⟨rfl, (HST.out w7 HB7.out).1, (HST.out w7 HB7.out).2⟩
end Go.Proofs.YtchpmnmngeebjaaGreatDoor
