/- heap: Alloc. -/
import Derived.Test.YtchpmnmngeebjaaGreatDoorHNew
import Derived.Test.YtchpmnmngeebjaaGreatDoorHAdd
namespace Go.Proofs.YtchpmnmngeebjaaGreatDoor
open Go.RowKit Go.Shelf

/-- What Alloc answers, and what objects there are then. -/
def allocR (most : Nat) (os : List Ob) (o : Ob) : Vl × Int × List Ob :=
  if obB o os.length = false then (⟨0, 0, []⟩, 2, os) else if most < os.length + (allV os).length + (1 + o.2.length) then (⟨0, 0, []⟩, 12, os) else (⟨4, os.length, []⟩, 0, os ++ [o])

abbrev allocW (w : World) (tag : List UInt8) (vl : Value) : World := (w.alloc (.cells #[.int .i64 0, .int .i64 0, .string ⟨#[]⟩] 25)).alloc (.cells #[.string (strB tag), vl] 71)

theorem allocW_facts (w : World) (tag : List UInt8) (vl : Value) : (allocW w tag vl).heap.size = w.heap.size + 2 ∧ Below w.heap.size w (allocW w tag vl) ∧ (allocW w tag vl).heap[w.heap.size]? = some (.cells #[.int .i64 0, .int .i64 0, .string ⟨#[]⟩] 25 (0, 0)) ∧ (allocW w tag vl).heap[w.heap.size + 1]? = some (.cells #[.string (strB tag), vl] 71 (0, 0)) := by
  refine ⟨by simp, ((Below.refl _ w).alloc (Nat.le_refl _) _).alloc (by simp) _, ?_, ?_⟩
  · rw [Below.heap_alloc _ _ _ (by simp)]; exact World.alloc_heap_new _ _
  · have := World.alloc_heap_new (w.alloc (.cells #[.int .i64 0, .int .i64 0, .string ⟨#[]⟩] 25)) (.cells #[.string (strB tag), vl] 71)
    simpa using this

theorem set3_kept {S : Nat → Prop} {N : Nat} {a w : World} (h : KeptS S a w) (hN : a.heap.size ≤ N) (x y z : Value) : KeptS S a (((w.setCell ⟨N, 0, none⟩ x).setCell ⟨N, 1, none⟩ y).setCell ⟨N, 2, none⟩ z) :=
  ((h.set (p := ⟨N, 0, none⟩) x (fun e => by simp only at e; omega)).set (p := ⟨N, 1, none⟩) y (fun e => by simp only at e; omega)).set (p := ⟨N, 2, none⟩) z (fun e => by simp only at e; omega)
theorem set3_other {w : World} {N k : Nat} (hk : k ≠ N) (x y z : Value) : (((w.setCell ⟨N, 0, none⟩ x).setCell ⟨N, 1, none⟩ y).setCell ⟨N, 2, none⟩ z).heap[k]? = w.heap[k]? := by
  rw [Below.heap_setCell _ _ _ _ (by simpa using hk), Below.heap_setCell _ _ _ _ (by simpa using hk), Below.heap_setCell _ _ _ _ (by simpa using hk)]

set_option maxRecDepth 100000 in
set_option maxHeartbeats 4000000 in
theorem alloc_any {S T : Nat → Prop} {most : Nat} {os : List Ob} {h : Nat} {vo vc : Value} (o : Ob) (vl : Value) (w : World) (H : HpIn S w most os h vo vc) (hv : valsIn T w vl o.2) (ho : smallO o) (hl : o.2.length ≤ 1048576) (ht : TabsP w) :
    Calls Tryz.prog 14 #[.pointer (some ⟨h, 0, none⟩), .string (strB o.1), vl] w fun e w' => e = .returned (.tuple #[vlV (allocR most os o).1, .int .i64 (allocR most os o).2.1]) ∧ KeptS S w w' ∧ ∃ vo' vc', HpIn (fun k => S k ∨ w.heap.size ≤ k) w' most (allocR most os o).2.2 h vo' vc' := by
  obtain ⟨tag, l⟩ := o
  simp only at hv hl
  obtain ⟨base, cap, hvl, hcp1, hcp2, -⟩ := hv.at
  subst hvl
  obtain ⟨hz2, hb2, b0, b1⟩ := allocW_facts w tag (.slice base l.length cap)
  obtain ⟨w2, hw2⟩ : ∃ w2, w2 = allocW w tag (.slice base l.length cap) := ⟨_, rfl⟩
  rw [← hw2] at hz2 hb2 b0 b1
  have huse := H.use
  have hmay := H.may
  have hlt := H.lt
  have H2 := H.below hb2
  have ci := isThere_any w2 H2
  obtain ⟨-, c1, c2, -, -⟩ := cells4 H2.blk
  obtain ⟨ob, oc, hvo, ho1, ho2⟩ := own_val H2.objs
  subst hvo
  obtain ⟨p0, p1, -⟩ := cellsH2 b1
  have HB2 : Hid (Below w.heap.size w w2) := hb2
  have HB0 : Hid (w2.heap[w.heap.size]? = some (.cells #[.int .i64 0, .int .i64 0, .string ⟨#[]⟩] 25 (0, 0))) := b0
  have hw2' := hw2.symm
  have HC : Hid (∀ wx, Below w2.heap.size w2 wx → Calls Tryz.prog 38 #[.agg #[.string (strB tag), .slice base l.length cap], .int .i64 (os.length : Int)] wx fun e w'' => e = .returned (.bool (obB (tag, l) os.length)) ∧ Below w2.heap.size w2 w'') := fun wx hx =>
    (mayBe_any T (tag, l) _ os.length wx ((hv.kept hb2.size fun k _ hk => hb2.block k hk).kept hx.size fun k _ hk => hx.block k hk) ho hl ((ht.below hb2 (Nat.le_refl _)).below hx (Nat.le_refl _))).mono fun e w'' ⟨he, hb⟩ => ⟨he, hx.trans (hb.mono hx.size)⟩
  have x0 := cls_cell (n := w2.heap.size) p0 (by simp only; omega)
  have x1 := cls_cell (n := w2.heap.size) p1 (by simp only; omega)
  have x2 := cls_cell (n := w2.heap.size) c2 (by simp only; omega)
  have HH : Hid (HpIn S w most os h (.slice ob os.length oc) vc) := H
  have HP1 : Hid (w2.heap[w.heap.size + 1]? = some (.cells #[.string (strB tag), .slice base l.length cap] 71 (0, 0))) := b1
  have HV : Hid (valsIn T w (.slice base l.length cap) l) := hv
  have HS : Hid (smallO (tag, l)) := ho
  clear H H2 hb2 b0 b1 hw2 ht hv ho
  unfold allocW at hw2'
  cases hob : obB (tag, l) os.length with
  | false =>
    rw [hob] at HC
    have HR : Hid (allocR most os (tag, l) = (⟨0, 0, []⟩, 2, os)) := show _ = _ by unfold allocR; rw [if_pos hob]
    clear hob
    go_enter Tryz.func14, Tryz.ntmps14
    go_wp2_with fail
    refine ci.mono ?_
    clear ci
    rintro e w3 ⟨rfl, rfl⟩
    go_wp2_with fail
    refine wp_region_cls (n := w2.heap.size) (w0 := w2) (Below.refl _ _) (by kernel_rfl) (by kernel_rfl) ?_
    iterate 6 (go_big_quiet_step (fail))
    go_big_quiet_step (exact cls_calls HC.out _)
    iterate 2 (go_big_quiet_step (fail))
    refine wpQuiet_nil ?_
    rintro _ ⟨c, rfl⟩
    have b0 := (c.2.block w.heap.size (by omega)).trans HB0.out
    obtain ⟨r0, r1, r2, rf⟩ := cellsH3 b0
    obtain ⟨z0, z1, z2⟩ := set3_cells b0 (.int .i64 0) (.int .i64 0) (.string ⟨#[]⟩)
    have hbc : Below w.heap.size w (((c.1.setCell ⟨w.heap.size, 0, none⟩ (.int .i64 0)).setCell ⟨w.heap.size, 1, none⟩ (.int .i64 0)).setCell ⟨w.heap.size, 2, none⟩ (.string ⟨#[]⟩)) := set3_below (HB2.out.trans (c.2.mono (by omega))) (by omega) _ _ _
    have HB3 : Hid (Below w.heap.size w (((c.1.setCell ⟨w.heap.size, 0, none⟩ (.int .i64 0)).setCell ⟨w.heap.size, 1, none⟩ (.int .i64 0)).setCell ⟨w.heap.size, 2, none⟩ (.string ⟨#[]⟩))) := hbc
    clear x0 x1 x2 b0 hbc
    go_wp2
    refine bodyPost_ret (v := .tuple #[vlV ⟨0, 0, []⟩, .int .i64 2]) (by simp [results, Tryz.results14, go_sem, z0, z1, z2]) rfl ?_
    rw [HR.out]
    exact ⟨rfl, KeptS.of HB3.out, _, _, (HH.out.below HB3.out).wide fun k _ hk => .inl hk⟩
  | true =>
    rw [hob] at HC
    have HOB : Hid (obB (tag, l) os.length = true) := hob
    clear hob
    have HU : Hid (∀ wx, Below w2.heap.size w2 wx → Calls Tryz.prog 8 #[.pointer (some ⟨h, 0, none⟩)] wx fun e w'' => e = .returned (.int .i64 ((os.length + (allV os).length : Nat) : Int)) ∧ Below w2.heap.size w2 w'') := fun wx hx =>
      (used_any wx ((HH.out.below HB2.out).below hx)).mono fun e w'' ⟨he, hb⟩ => ⟨he, hx.trans (hb.mono hx.size)⟩
    have HE : Hid (∀ wx, Below w2.heap.size w2 wx → Calls Tryz.prog 39 #[.agg #[.string (strB tag), .slice base l.length cap]] wx fun e w'' => e = .returned (.int .i64 (1 + (l.length : Int))) ∧ Below w2.heap.size w2 w'') := fun wx hx =>
      (uses_any (strB tag) base l.length cap (by omega) wx).mono fun e w'' ⟨he, hb⟩ => ⟨he, hx.trans (hb.mono hx.size)⟩
    have x3 := cls_cell (n := w2.heap.size) c1 (by simp only; omega)
    obtain ⟨U, hU⟩ : ∃ U, U = os.length + (allV os).length := ⟨_, rfl⟩
    rw [← hU] at HU huse
    by_cases hfull : most < U + (1 + l.length)
    · have HR : Hid (allocR most os (tag, l) = (⟨0, 0, []⟩, 12, os)) := show _ = _ by unfold allocR; rw [if_neg (by rw [HOB.out]; simp), if_pos (by rw [← hU]; exact hfull)]
      have hfi : (most : Int) < (U : Int) + (1 + (l.length : Int)) := by omega
      clear hU
      go_enter Tryz.func14, Tryz.ntmps14
      go_wp2_with fail
      refine ci.mono ?_
      clear ci
      rintro e w3 ⟨rfl, rfl⟩
      go_wp2_with fail
      refine wp_region_cls (n := w2.heap.size) (w0 := w2) (Below.refl _ _) (by kernel_rfl) (by kernel_rfl) ?_
      iterate 6 (go_big_quiet_step (fail))
      go_big_quiet_step (exact cls_calls HC.out _)
      iterate 2 (go_big_quiet_step (fail))
      refine wpQuiet_nil ?_
      rintro _ ⟨c, rfl⟩
      go_wp2_with fail
      refine wp_region_cls (n := w2.heap.size) (w0 := w2) c.2 (by kernel_rfl) (by kernel_rfl) ?_
      iterate 1 (go_big_quiet_step (fail))
      go_big_quiet_step (exact cls_calls HU.out _)
      iterate 1 (go_big_quiet_step (fail))
      go_big_quiet_step (exact cls_calls HE.out _)
      iterate 7 (go_big_quiet_step (fail))
      refine wpQuiet_nil ?_
      rintro _ ⟨c', rfl⟩
      have b0 := (c'.2.block w.heap.size (by omega)).trans HB0.out
      obtain ⟨r0, r1, r2, rf⟩ := cellsH3 b0
      obtain ⟨z0, z1, z2⟩ := set3_cells b0 (.int .i64 0) (.int .i64 0) (.string ⟨#[]⟩)
      have HB3 : Hid (Below w.heap.size w (((c'.1.setCell ⟨w.heap.size, 0, none⟩ (.int .i64 0)).setCell ⟨w.heap.size, 1, none⟩ (.int .i64 0)).setCell ⟨w.heap.size, 2, none⟩ (.string ⟨#[]⟩))) := set3_below (HB2.out.trans (c'.2.mono (by omega))) (by omega) _ _ _
      clear x0 x1 x2 x3 b0
      go_wp2
      refine bodyPost_ret (v := .tuple #[vlV ⟨0, 0, []⟩, .int .i64 12]) (by simp [results, Tryz.results14, go_sem, z0, z1, z2]) rfl ?_
      rw [HR.out]
      exact ⟨rfl, KeptS.of HB3.out, _, _, (HH.out.below HB3.out).wide fun k _ hk => .inl hk⟩
    · have HR : Hid (allocR most os (tag, l) = (⟨4, os.length, []⟩, 0, os ++ [(tag, l)])) := show _ = _ by unfold allocR; rw [if_neg (by rw [HOB.out]; simp), if_neg (by rw [← hU]; exact hfull)]
      have hfi : ¬ (most : Int) < (U : Int) + (1 + (l.length : Int)) := by omega
      have ca : ∀ W : World, Below w2.heap.size w2 W → Calls Tryz.prog 40 #[.pointer (some ⟨h, 0, none⟩), .agg #[.string (strB tag), .slice base l.length cap]] W fun e w4 => e = .returned (.tuple #[]) ∧ Hid (KeptS S w w4) ∧ Hid (w4.heap[w.heap.size]? = some (.cells #[.int .i64 0, .int .i64 0, .string ⟨#[]⟩] 25 (0, 0))) ∧
          ∃ ob' oc' vc', w4.cell? ⟨h, 2, none⟩ = some (.slice ob' (os.length + 1) oc') ∧ Hid (HpIn (fun k => (S k ∧ k < w.heap.size) ∨ w.heap.size + 2 ≤ k) w4 most (os ++ [(tag, l)]) h (.slice ob' (os.length + 1) oc') vc') := fun W hW => by
        have hbW : Below w.heap.size w W := HB2.out.trans (hW.mono (by omega))
        have hlow := HH.out.low.below hbW
        refine (add_any (fun k => S k ∧ k < w.heap.size) T most os h _ _ (tag, l) _ W hlow (HV.out.kept hbW.size fun k _ hk => hbW.block k hk) HS.out (obB_mono HOB.out (by omega)) (by simp only; omega)).mono ?_
        rintro e w4 ⟨rfl, hk4, vo', vc', H4⟩
        have hsW := hW.size
        obtain ⟨ob', oc', hvo', -⟩ := own_val H4.objs
        rw [List.length_append, List.length_singleton] at hvo'
        subst hvo'
        obtain ⟨-, -, d2, -, -⟩ := cells4 H4.blk
        refine ⟨rfl, ?_, ?_, ob', oc', vc', d2, H4.wide fun k _ hk => ?_⟩
        · exact (KeptS.of hbW).trans hk4 fun i hi hs => hs.1
        · show w4.heap[w.heap.size]? = _
          rw [hk4.block _ (by omega) (fun hs => by have := hs.2; omega), hW.block _ (by omega)]
          exact HB0.out
        · rcases hk with hk | hk
          · exact .inl hk
          · right; omega
      have hwr : wrap64 (os.length : Int) = os.length := by unfold wrap64; omega
      clear hU
      go_enter Tryz.func14, Tryz.ntmps14
      go_wp2_with fail
      refine ci.mono ?_
      clear ci
      rintro e w3 ⟨rfl, rfl⟩
      go_wp2_with fail
      refine wp_region_cls (n := w2.heap.size) (w0 := w2) (Below.refl _ _) (by kernel_rfl) (by kernel_rfl) ?_
      iterate 6 (go_big_quiet_step (fail))
      go_big_quiet_step (exact cls_calls HC.out _)
      iterate 2 (go_big_quiet_step (fail))
      refine wpQuiet_nil ?_
      rintro _ ⟨c, rfl⟩
      go_wp2_with fail
      refine wp_region_cls (n := w2.heap.size) (w0 := w2) c.2 (by kernel_rfl) (by kernel_rfl) ?_
      iterate 1 (go_big_quiet_step (fail))
      go_big_quiet_step (exact cls_calls HU.out _)
      iterate 1 (go_big_quiet_step (fail))
      go_big_quiet_step (exact cls_calls HE.out _)
      iterate 7 (go_big_quiet_step (fail))
      refine wpQuiet_nil ?_
      rintro _ ⟨c', rfl⟩
      have y0 := x0 c'
      have y1 := x1 c'
      have ca' := ca c'.1 c'.2
      clear x0 x1 x2 x3 ca
      go_wp2_with fail
      refine ca'.mono ?_
      clear ca'
      rintro e w4 ⟨rfl, HK4, HB4, ob', oc', vc', d2, H4⟩
      obtain ⟨r0, r1, r2, rf⟩ := cellsH3 HB4.out
      obtain ⟨z0, z1, z2⟩ := set3_cells HB4.out (.int .i64 4) (.int .i64 (os.length : Int)) (.string ⟨#[]⟩)
      have HP : Hid (KeptS S w (((w4.setCell ⟨w.heap.size, 0, none⟩ (.int .i64 4)).setCell ⟨w.heap.size, 1, none⟩ (.int .i64 (os.length : Int))).setCell ⟨w.heap.size, 2, none⟩ (.string ⟨#[]⟩)) ∧ HpIn (fun k => S k ∨ w.heap.size ≤ k) (((w4.setCell ⟨w.heap.size, 0, none⟩ (.int .i64 4)).setCell ⟨w.heap.size, 1, none⟩ (.int .i64 (os.length : Int))).setCell ⟨w.heap.size, 2, none⟩ (.string ⟨#[]⟩)) most (os ++ [(tag, l)]) h (.slice ob' (os.length + 1) oc') vc') := by
        refine ⟨set3_kept HK4.out (Nat.le_refl _) _ _ _, ?_⟩
        exact (H4.out.kept fun k hk _ => set3_other (fun e => by rcases hk with hk | hk; · omega
                                                                 · omega) _ _ _).wide fun k _ hk => by rcases hk with hk | hk; · exact .inl hk.1
                                                                                                       · right; omega
      go_wp2
      refine bodyPost_ret (v := .tuple #[vlV ⟨4, os.length, []⟩, .int .i64 0]) (by simp [results, Tryz.results14, go_sem, z0, z1, z2]) rfl ?_
      rw [HR.out]
      exact ⟨rfl, HP.out.1, _, _, HP.out.2⟩
end Go.Proofs.YtchpmnmngeebjaaGreatDoor
