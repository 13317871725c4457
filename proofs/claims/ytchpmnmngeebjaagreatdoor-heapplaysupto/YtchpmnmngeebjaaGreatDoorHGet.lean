/- heap: Get. -/
import Derived.Test.YtchpmnmngeebjaaGreatDoorHAlloc
namespace Go.Proofs.YtchpmnmngeebjaaGreatDoor
open Go.RowKit Go.Shelf

/-- Does a value refer to an object? -/
def refB (os : List Ob) (v : Vl) : Bool := decide (v.k = 4) && rightV v os.length
theorem refB_form {os : List Ob} {v : Vl} (h : refB os v = true) : ∃ i : Nat, i < os.length ∧ v = ⟨4, i, []⟩ := by
  unfold refB at h
  rw [Bool.and_eq_true, decide_eq_true_eq] at h
  obtain ⟨hk, hr⟩ := h
  obtain ⟨k, n, s⟩ := v
  simp only at hk
  subst hk
  simp [rightV] at hr
  obtain ⟨⟨h0, h1⟩, h2⟩ := hr
  refine ⟨n.toNat, by omega, ?_⟩
  rw [h2]
  congr 1
  omega
theorem refB_no {os : List Ob} {v : Vl} (h : refB os v = false) : v.k ≠ 4 ∨ rightV v os.length = false := by
  unfold refB at h
  rw [Bool.and_eq_false_iff, decide_eq_false_iff_not] at h
  exact h
theorem refB_at {os : List Ob} {i : Nat} (h : i < os.length) : refB os ⟨4, i, []⟩ = true := by simp [refB, rightV, h]

abbrev getW (w : World) (v : Vl) : World := (w.alloc (.cells #[.int .i64 v.k, .int .i64 v.n, .string (strB v.s)] 25)).alloc (.cells #[.int .i64 0, .int .i64 0, .string ⟨#[]⟩] 25)
theorem getW_facts (w : World) (v : Vl) : (getW w v).heap.size = w.heap.size + 2 ∧ Below w.heap.size w (getW w v) ∧ (getW w v).heap[w.heap.size]? = some (.cells #[.int .i64 v.k, .int .i64 v.n, .string (strB v.s)] 25 (0, 0)) ∧ (getW w v).heap[w.heap.size + 1]? = some (.cells #[.int .i64 0, .int .i64 0, .string ⟨#[]⟩] 25 (0, 0)) := by
  refine ⟨by simp, ((Below.refl _ w).alloc (Nat.le_refl _) _).alloc (by simp) _, ?_, ?_⟩
  · rw [Below.heap_alloc _ _ _ (by simp)]; exact World.alloc_heap_new _ _
  · have := World.alloc_heap_new (w.alloc (.cells #[.int .i64 v.k, .int .i64 v.n, .string (strB v.s)] 25)) (.cells #[.int .i64 0, .int .i64 0, .string ⟨#[]⟩] 25)
    simpa using this

set_option maxRecDepth 100000 in
set_option maxHeartbeats 4000000 in
theorem get_no {S : Nat → Prop} {most : Nat} {os : List Ob} {h : Nat} {vo vc : Value} (v : Vl) (i : Int) (w : World) (H : HpIn S w most os h vo vc) (hv : smallV v) (ht : TabsP w) (hno : refB os v = false) :
    Calls Tryz.prog 17 #[.pointer (some ⟨h, 0, none⟩), vlV v, .int .i64 i] w fun e w' => e = .returned (.tuple #[vlV ⟨0, 0, []⟩, .int .i64 2]) ∧ Below w.heap.size w w' := by
  obtain ⟨hz2, hb2, b0, b1⟩ := getW_facts w v
  obtain ⟨w2, hw2⟩ : ∃ w2, w2 = getW w v := ⟨_, rfl⟩
  rw [← hw2] at hz2 hb2 b0 b1
  have cf := find_no v w2 (H.below hb2) hv (ht.below hb2 (Nat.le_refl _)) (refB_no hno)
  obtain ⟨p0, p1, p2, -⟩ := cellsH3 b0
  have HB2 : Hid (Below w.heap.size w w2) := hb2
  have HB1 : Hid (w2.heap[w.heap.size + 1]? = some (.cells #[.int .i64 0, .int .i64 0, .string ⟨#[]⟩] 25 (0, 0))) := b1
  obtain ⟨k, m, s⟩ := v
  have hw2' := hw2.symm
  unfold getW at hw2'
  unfold noO at cf
  clear H hb2 b0 b1 hw2 ht hno hv
  go_enter Tryz.func17, Tryz.ntmps17
  go_wp2_with fail
  refine cf.mono ?_
  clear cf
  rintro e w3 ⟨rfl, hb3⟩
  have hs3 := hb3.size
  have b1 : (w3.alloc (.cells #[.string ⟨#[]⟩, .int .i64 0, .int .i64 0] 79)).heap[w.heap.size + 1]? = some (.cells #[.int .i64 0, .int .i64 0, .string ⟨#[]⟩] 25 (0, 0)) := (Below.heap_alloc _ _ _ (by omega)).trans ((hb3.block _ (by omega)).trans HB1.out)
  have HB4 : Hid (Below w.heap.size w (w3.alloc (.cells #[.string ⟨#[]⟩, .int .i64 0, .int .i64 0] 79))) := (HB2.out.trans (hb3.mono (by omega))).alloc (by omega) _
  obtain ⟨r0, r1, r2, rf⟩ := cellsH3 b1
  obtain ⟨z0, z1, z2⟩ := set3_cells b1 (.int .i64 0) (.int .i64 0) (.string ⟨#[]⟩)
  have HB5 : Hid (Below w.heap.size w ((((w3.alloc (.cells #[.string ⟨#[]⟩, .int .i64 0, .int .i64 0] 79)).setCell ⟨w.heap.size + 1, 0, none⟩ (.int .i64 0)).setCell ⟨w.heap.size + 1, 1, none⟩ (.int .i64 0)).setCell ⟨w.heap.size + 1, 2, none⟩ (.string ⟨#[]⟩))) := set3_below HB4.out (by omega) _ _ _
  clear b1 hb3
  go_wp2
  exact bodyPost_ret (v := .tuple #[vlV ⟨0, 0, []⟩, .int .i64 2]) (by simp [results, Tryz.results17, go_sem, z0, z1, z2]) rfl ⟨rfl, HB5.out⟩

set_option maxRecDepth 100000 in
set_option maxHeartbeats 4000000 in
theorem get_none {S : Nat → Prop} {most : Nat} {os : List Ob} {h : Nat} {vo vc : Value} (j : Nat) (hj : j < os.length) (i : Int) (w : World) (H : HpIn S w most os h vo vc) (ht : TabsP w) (hno : hasB i (os[j]).2.length = false) :
    Calls Tryz.prog 17 #[.pointer (some ⟨h, 0, none⟩), vlV ⟨4, j, []⟩, .int .i64 i] w fun e w' => e = .returned (.tuple #[vlV ⟨0, 0, []⟩, .int .i64 10]) ∧ Below w.heap.size w w' := by
  have huse := H.use
  have hmay := H.may
  obtain ⟨hcut, -⟩ := allV_cut os j hj
  obtain ⟨hz2, hb2, b0, b1⟩ := getW_facts w ⟨4, j, []⟩
  obtain ⟨w2, hw2⟩ : ∃ w2, w2 = getW w ⟨4, j, []⟩ := ⟨_, rfl⟩
  rw [← hw2] at hz2 hb2 b0 b1
  have cf := find_ok j hj w2 (H.below hb2) (ht.below hb2 (Nat.le_refl _))
  obtain ⟨p0, p1, p2, -⟩ := cellsH3 b0
  have HB2 : Hid (Below w.heap.size w w2) := hb2
  have HB1 : Hid (w2.heap[w.heap.size + 1]? = some (.cells #[.int .i64 0, .int .i64 0, .string ⟨#[]⟩] 25 (0, 0))) := b1
  have hw2' := hw2.symm
  unfold getW at hw2'
  unfold foundO at cf
  obtain ⟨n, hn⟩ : ∃ n, n = (os[j]).2.length := ⟨_, rfl⟩
  obtain ⟨tg, htg⟩ : ∃ tg, tg = (os[j]).1 := ⟨_, rfl⟩
  obtain ⟨fr, hfr⟩ : ∃ fr : Int, fr = ((fromO os j : Nat) : Int) := ⟨_, rfl⟩
  obtain ⟨up, hup⟩ : ∃ up : Int, up = ((fromO os j + (os[j]).2.length : Nat) : Int) := ⟨_, rfl⟩
  rw [← htg, ← hfr, ← hup] at cf
  rw [← hn] at hno
  have ch := fun W => has_any (strB tg) fr up n i (by omega) (by omega) (by omega) W
  rw [hno] at ch
  clear H hb2 b0 b1 hw2 ht hno hn htg hfr hup hcut
  go_enter Tryz.func17, Tryz.ntmps17
  go_wp2_with fail
  refine cf.mono ?_
  clear cf
  rintro e w3 ⟨rfl, hb3⟩
  have hs3 := hb3.size
  obtain ⟨w4, hw4⟩ : ∃ w4, w4 = w3.alloc (.cells #[.string (strB tg), .int .i64 fr, .int .i64 up] 79) := ⟨_, rfl⟩
  have b1 : w4.heap[w.heap.size + 1]? = some (.cells #[.int .i64 0, .int .i64 0, .string ⟨#[]⟩] 25 (0, 0)) := by rw [hw4]; exact (Below.heap_alloc _ _ _ (by omega)).trans ((hb3.block _ (by omega)).trans HB1.out)
  have hs4 : w4.heap.size = w3.heap.size + 1 := by rw [hw4]; simp
  have HB4 : Hid (Below w.heap.size w w4) := by show Below _ _ _; rw [hw4]; exact (HB2.out.trans (hb3.mono (by omega))).alloc (by omega) _
  have bo : w4.heap[w3.heap.size]? = some (.cells #[.string (strB tg), .int .i64 fr, .int .i64 up] 79 (0, 0)) := by rw [hw4]; exact World.alloc_heap_new _ _
  obtain ⟨o0, o1, o2, -⟩ := cellsH3 bo
  have hw4' := hw4.symm
  have ch' := ch w4
  clear hw4 hb3 bo ch
  go_wp2_with fail
  refine ch'.mono ?_
  clear ch'
  rintro e w5 ⟨rfl, hb5⟩
  have b5 := (hb5.block _ (by omega)).trans b1
  obtain ⟨r0, r1, r2, rf⟩ := cellsH3 b5
  obtain ⟨z0, z1, z2⟩ := set3_cells b5 (.int .i64 0) (.int .i64 0) (.string ⟨#[]⟩)
  have HB5 : Hid (Below w.heap.size w (((w5.setCell ⟨w.heap.size + 1, 0, none⟩ (.int .i64 0)).setCell ⟨w.heap.size + 1, 1, none⟩ (.int .i64 0)).setCell ⟨w.heap.size + 1, 2, none⟩ (.string ⟨#[]⟩))) := set3_below (HB4.out.trans (hb5.mono (by omega))) (by omega) _ _ _
  clear b1 b5 hb5
  go_wp2
  exact bodyPost_ret (v := .tuple #[vlV ⟨0, 0, []⟩, .int .i64 10]) (by simp [results, Tryz.results17, go_sem, z0, z1, z2]) rfl ⟨rfl, HB5.out⟩

/-- A cell among all. -/
theorem allV_at (os : List Ob) (j : Nat) (hj : j < os.length) (i : Nat) (hi : i < (os[j]).2.length) : ∃ h, (allV os)[fromO os j + i]'h = (os[j]).2[i] := by
  obtain ⟨h1, h2⟩ := allV_cut os j hj
  refine ⟨by omega, ?_⟩
  have e : (((allV os).drop (fromO os j)).take (os[j]).2.length)[i]? = (os[j]).2[i]? := by rw [h2]
  rw [List.getElem?_take_of_lt hi, List.getElem?_drop, List.getElem?_eq_getElem (by omega), List.getElem?_eq_getElem hi] at e
  exact Option.some.inj e

set_option maxRecDepth 100000 in
set_option maxHeartbeats 4000000 in
theorem get_ok {S : Nat → Prop} {most : Nat} {os : List Ob} {h : Nat} {vo vc : Value} (j : Nat) (hj : j < os.length) (i : Nat) (hi : i < (os[j]).2.length) (w : World) (H : HpIn S w most os h vo vc) (ht : TabsP w) :
    Calls Tryz.prog 17 #[.pointer (some ⟨h, 0, none⟩), vlV ⟨4, j, []⟩, .int .i64 (i : Int)] w fun e w' => e = .returned (.tuple #[vlV (os[j]).2[i], .int .i64 0]) ∧ Below w.heap.size w w' := by
  have huse := H.use
  have hmay := H.may
  obtain ⟨hcut, -⟩ := allV_cut os j hj
  obtain ⟨hz2, hb2, b0, b1⟩ := getW_facts w ⟨4, j, []⟩
  obtain ⟨w2, hw2⟩ : ∃ w2, w2 = getW w ⟨4, j, []⟩ := ⟨_, rfl⟩
  rw [← hw2] at hz2 hb2 b0 b1
  have cf := find_ok j hj w2 (H.below hb2) (ht.below hb2 (Nat.le_refl _))
  have cc := fun W (hW : Below w.heap.size w W) => cellsOf_any j hj W (H.below hW)
  obtain ⟨p0, p1, p2, -⟩ := cellsH3 b0
  have HB2 : Hid (Below w.heap.size w w2) := hb2
  have HB1 : Hid (w2.heap[w.heap.size + 1]? = some (.cells #[.int .i64 0, .int .i64 0, .string ⟨#[]⟩] 25 (0, 0))) := b1
  have hw2' := hw2.symm
  unfold getW at hw2'
  unfold foundO at cf cc
  obtain ⟨hal, hat⟩ := allV_at os j hj i hi
  obtain ⟨a0, a1, a2⟩ := vlC_at (allV os) _ hal
  have hsx : smallV (os[j]).2[i] := (H.ok _ (List.getElem_mem hj)).2.2 _ (List.getElem_mem hi)
  rw [hat] at a0 a1 a2
  obtain ⟨x, hx⟩ : ∃ x, x = (os[j]).2[i] := ⟨_, rfl⟩
  rw [← hx] at a0 a1 a2 hsx ⊢
  have HCL : Hid (∀ W, Below w.heap.size w W → ∀ g n cp, vc = .slice (some ⟨g, 0, none⟩) n cp → W.cell? ⟨g, fromO os j * 3 + i * 3, none⟩ = some (.int .i64 x.k) ∧ W.cell? ⟨g, fromO os j * 3 + i * 3 + 1, none⟩ = some (.int .i64 x.n) ∧ W.cell? ⟨g, fromO os j * 3 + i * 3 + 2, none⟩ = some (.string (strB x.s))) := fun W hW g n cp e => by
    have hc := (H.below hW).cells.cells (g := g) (by rw [e]; rfl)
    have key : ∀ q u, (vlC (allV os))[(fromO os j + i) * 3 + q]? = some u → W.cell? ⟨g, fromO os j * 3 + i * 3 + q, none⟩ = some u := fun q u hq => by
      have := hc _ _ hq
      have e9 : (⟨g, 0, none⟩ : Addr).add ((fromO os j + i) * 3 + q) = ⟨g, fromO os j * 3 + i * 3 + q, none⟩ := by
        unfold Addr.add
        split
        · rename_i h0
          congr 1
          omega
        · congr 1
          simp only
          omega
      rwa [e9] at this
    exact ⟨key 0 _ a0, key 1 _ a1, key 2 _ a2⟩
  obtain ⟨n, hn⟩ : ∃ n, n = (os[j]).2.length := ⟨_, rfl⟩
  obtain ⟨tg, htg⟩ : ∃ tg, tg = (os[j]).1 := ⟨_, rfl⟩
  obtain ⟨fr, hfr⟩ : ∃ fr : Int, fr = ((fromO os j : Nat) : Int) := ⟨_, rfl⟩
  obtain ⟨up, hup⟩ : ∃ up : Int, up = ((fromO os j + (os[j]).2.length : Nat) : Int) := ⟨_, rfl⟩
  rw [← htg, ← hfr, ← hup] at cf
  simp only [← hup] at cc
  simp only [← htg, ← hfr, ← hn] at cc
  have ch := fun W => has_any (strB tg) fr up n (i : Int) (by omega) (by omega) (by omega) W
  have hhas : hasB (i : Int) n = true := by unfold hasB; rw [decide_eq_true_eq]; omega
  rw [hhas] at ch
  have hin : i < n := by omega
  have hini : (i : Int) < (n : Int) := by omega
  have ca := fun W => anew_any x W hsx.2
  generalize fromO os j = FO at *
  clear H hb2 b0 b1 hw2 ht hn htg hfr hup hcut a0 a1 a2 hat hx hhas
  go_enter Tryz.func17, Tryz.ntmps17
  go_wp2_with fail
  refine cf.mono ?_
  clear cf
  rintro e w3 ⟨rfl, hb3⟩
  have hs3 := hb3.size
  obtain ⟨w4, hw4⟩ : ∃ w4, w4 = w3.alloc (.cells #[.string (strB tg), .int .i64 fr, .int .i64 up] 79) := ⟨_, rfl⟩
  have b1 : w4.heap[w.heap.size + 1]? = some (.cells #[.int .i64 0, .int .i64 0, .string ⟨#[]⟩] 25 (0, 0)) := by rw [hw4]; exact (Below.heap_alloc _ _ _ (by omega)).trans ((hb3.block _ (by omega)).trans HB1.out)
  have hs4 : w4.heap.size = w3.heap.size + 1 := by rw [hw4]; simp
  have HB4 : Hid (Below w.heap.size w w4) := by show Below _ _ _; rw [hw4]; exact (HB2.out.trans (hb3.mono (by omega))).alloc (by omega) _
  have bo : w4.heap[w3.heap.size]? = some (.cells #[.string (strB tg), .int .i64 fr, .int .i64 up] 79 (0, 0)) := by rw [hw4]; exact World.alloc_heap_new _ _
  obtain ⟨o0, o1, o2, -⟩ := cellsH3 bo
  have hw4' := hw4.symm
  have ch' := ch w4
  clear hw4 hb3 ch
  go_wp2_with fail
  refine ch'.mono ?_
  clear ch'
  rintro e w5 ⟨rfl, hb5⟩
  have b5 := (hb5.block _ (by omega)).trans b1
  have bo5 := (hb5.block _ (by omega)).trans bo
  have hs5 := hb5.size
  obtain ⟨o0', o1', o2', -⟩ := cellsH3 bo5
  have HB5 : Hid (Below w.heap.size w w5) := HB4.out.trans (hb5.mono (by omega))
  have cc' := cc w5 HB5.out
  clear hb5 o0 o1 o2 cc b1 bo bo5
  go_wp2_with fail
  refine cc'.mono ?_
  clear cc'
  rintro e w6 ⟨bs, rfl, hb6, hbs⟩
  obtain ⟨g, n', cp, hvc, rfl⟩ := hbs (by omega)
  have hs6 := hb6.size
  have HB6 : Hid (Below w.heap.size w w6) := HB5.out.trans (hb6.mono (by omega))
  obtain ⟨q0, q1, q2⟩ := HCL.out w6 HB6.out g n' cp hvc
  have b6 := (hb6.block _ (by omega)).trans b5
  have ca' := ca w6
  clear hb6 ca hbs b5
  go_wp2_with fail
  refine ca'.mono ?_
  clear ca'
  rintro e w7 ⟨rfl, hb7⟩
  have b7 := (hb7.block _ (by omega)).trans b6
  obtain ⟨r0, r1, r2, rf⟩ := cellsH3 b7
  obtain ⟨z0, z1, z2⟩ := set3_cells b7 (.int .i64 x.k) (.int .i64 x.n) (.string (strB x.s))
  have HB7 : Hid (Below w.heap.size w (((w7.setCell ⟨w.heap.size + 1, 0, none⟩ (.int .i64 x.k)).setCell ⟨w.heap.size + 1, 1, none⟩ (.int .i64 x.n)).setCell ⟨w.heap.size + 1, 2, none⟩ (.string (strB x.s)))) := set3_below (HB6.out.trans (hb7.mono (by omega))) (by omega) _ _ _
  clear b6 b7 hb7
  go_wp2
  exact bodyPost_ret (v := .tuple #[vlV x, .int .i64 0]) (by simp [results, Tryz.results17, go_sem, z0, z1, z2]) rfl ⟨rfl, HB7.out⟩
end Go.Proofs.YtchpmnmngeebjaaGreatDoor
