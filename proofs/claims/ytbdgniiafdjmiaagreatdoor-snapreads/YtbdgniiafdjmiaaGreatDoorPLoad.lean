/- snap: the state of bytes. -/
import Derived.Test.YtbdgniiafdjmiaaGreatDoorPCheck
import Derived.Test.YtbdgniiafdjmiaaGreatDoorPMay
import Derived.Test.YtbdgniiafdjmiaaGreatDoorMR
namespace Go.Proofs.YtbdgniiafdjmiaaGreatDoor
open Go.RowKit Go.Shelf

/-- What Load answers. -/
def LoadRetS (N : Nat) (bs : List UInt8) (e : Ending) (w' : World) : Prop :=
  (ldS bs ≠ 0 ∧ e = .returned (.tuple #[.agg #[.int .i64 0, .int .i64 0, .int .i64 0, .slice none 0 0, .slice none 0 0, .string ⟨#[]⟩, .int .i64 0], .int .i64 (ldS bs : Int)])) ∨ (ldS bs = 0 ∧ mayS (rSn bs 0 0).1 = false ∧ e = .returned (.tuple #[.agg #[.int .i64 0, .int .i64 0, .int .i64 0, .slice none 0 0, .slice none 0 0, .string ⟨#[]⟩, .int .i64 0], .int .i64 2])) ∨
    (ldS bs = 0 ∧ mayS (rSn bs 0 0).1 = true ∧ ∃ bi ni ci bv nv cv, e = .returned (.tuple #[snV (rSn bs 0 0).1 (.slice bi ni ci) (.slice bv nv cv), .int .i64 0]) ∧ SnIn (fun b => N ≤ b) w' (rSn bs 0 0).1 (.slice bi ni ci) (.slice bv nv cv))

theorem okVl_small {v : Vl} (h : okVl v) : smallV v ∧ I64 v.k := by
  obtain ⟨h1, h2⟩ := h
  refine ⟨?_, h1⟩
  unfold oBeh at h2
  split at h2
  · obtain ⟨h3, h4⟩ := h2
    have e := (Prod.mk.inj h4).2
    exact ⟨h3, by rw [← e]; simp⟩
  · split at h2
    · obtain ⟨h3, h4⟩ := h2
      have e := (Prod.mk.inj h4).1
      simp only at h3
      exact ⟨by rw [← e]; omega, by omega⟩
    · have e := Prod.mk.inj h2.2
      exact ⟨by rw [← e.1]; omega, by rw [← e.2]; simp⟩
theorem okSn_small {s : Sn} (h : okSn s) : SmallS s := by
  obtain ⟨h1, h2, h3, h4, h5, h6, h7⟩ := h
  exact ⟨⟨h1, h2, h3, h4⟩, by omega, ⟨fun c hc => ⟨⟨(h6.1 c hc).1, (h6.1 c hc).2.1, (h6.1 c hc).2.2.1⟩, ⟨fun v hv => okVl_small ((h6.1 c hc).2.2.2.1.1 v hv), (h6.1 c hc).2.2.2.1.2⟩, fun v hv => okVl_small ((h6.1 c hc).2.2.2.2.1 v hv), (h6.1 c hc).2.2.2.2.2⟩, h6.2⟩,
    ⟨fun o ho => ⟨by have := (h7.1 o ho).1; omega, fun v hv => okVl_small ((h7.1 o ho).2.1 v hv), (h7.1 o ho).2.2⟩, h7.2⟩⟩
theorem sets7_keep (W : World) (N : Nat) (x0 x1 x2 x3 x4 x5 x6 : Value) (q : Nat) (hq : q ≠ N) : ((((((((W.setCell ⟨N, 0, none⟩ x0).setCell ⟨N, 1, none⟩ x1).setCell ⟨N, 2, none⟩ x2).setCell ⟨N, 3, none⟩ x3).setCell ⟨N, 4, none⟩ x4).setCell ⟨N, 5, none⟩ x5).setCell ⟨N, 6, none⟩ x6)).heap[q]? = W.heap[q]? := by
  rw [Below.heap_setCell _ _ _ _ (by simpa using hq), Below.heap_setCell _ _ _ _ (by simpa using hq), Below.heap_setCell _ _ _ _ (by simpa using hq), Below.heap_setCell _ _ _ _ (by simpa using hq), Below.heap_setCell _ _ _ _ (by simpa using hq), Below.heap_setCell _ _ _ _ (by simpa using hq), Below.heap_setCell _ _ _ _ (by simpa using hq)]
theorem sets7_cells {W : World} {N : Nat} {u0 u1 u2 u3 u4 u5 u6 : Value} {ty : TypeId} (x0 x1 x2 x3 x4 x5 x6 : Value) (h : W.heap[N]? = some (.cells #[u0, u1, u2, u3, u4, u5, u6] ty (0, 0))) : ((((((((W.setCell ⟨N, 0, none⟩ x0).setCell ⟨N, 1, none⟩ x1).setCell ⟨N, 2, none⟩ x2).setCell ⟨N, 3, none⟩ x3).setCell ⟨N, 4, none⟩ x4).setCell ⟨N, 5, none⟩ x5).setCell ⟨N, 6, none⟩ x6)).heap[N]? = some (.cells #[x0, x1, x2, x3, x4, x5, x6] ty (0, 0)) := by
  have h0 : (W.setCell ⟨N, 0, none⟩ x0).heap[N]? = some (.cells #[x0, u1, u2, u3, u4, u5, u6] ty (0, 0)) := csetCell_block _ h
  have h1 : ((W.setCell ⟨N, 0, none⟩ x0).setCell ⟨N, 1, none⟩ x1).heap[N]? = some (.cells #[x0, x1, u2, u3, u4, u5, u6] ty (0, 0)) := csetCell_block _ h0
  have h2 : (((W.setCell ⟨N, 0, none⟩ x0).setCell ⟨N, 1, none⟩ x1).setCell ⟨N, 2, none⟩ x2).heap[N]? = some (.cells #[x0, x1, x2, u3, u4, u5, u6] ty (0, 0)) := csetCell_block _ h1
  have h3 : ((((W.setCell ⟨N, 0, none⟩ x0).setCell ⟨N, 1, none⟩ x1).setCell ⟨N, 2, none⟩ x2).setCell ⟨N, 3, none⟩ x3).heap[N]? = some (.cells #[x0, x1, x2, x3, u4, u5, u6] ty (0, 0)) := csetCell_block _ h2
  have h4 : (((((W.setCell ⟨N, 0, none⟩ x0).setCell ⟨N, 1, none⟩ x1).setCell ⟨N, 2, none⟩ x2).setCell ⟨N, 3, none⟩ x3).setCell ⟨N, 4, none⟩ x4).heap[N]? = some (.cells #[x0, x1, x2, x3, x4, u5, u6] ty (0, 0)) := csetCell_block _ h3
  have h5 : ((((((W.setCell ⟨N, 0, none⟩ x0).setCell ⟨N, 1, none⟩ x1).setCell ⟨N, 2, none⟩ x2).setCell ⟨N, 3, none⟩ x3).setCell ⟨N, 4, none⟩ x4).setCell ⟨N, 5, none⟩ x5).heap[N]? = some (.cells #[x0, x1, x2, x3, x4, x5, u6] ty (0, 0)) := csetCell_block _ h4
  have h6 : (((((((W.setCell ⟨N, 0, none⟩ x0).setCell ⟨N, 1, none⟩ x1).setCell ⟨N, 2, none⟩ x2).setCell ⟨N, 3, none⟩ x3).setCell ⟨N, 4, none⟩ x4).setCell ⟨N, 5, none⟩ x5).setCell ⟨N, 6, none⟩ x6).heap[N]? = some (.cells #[x0, x1, x2, x3, x4, x5, x6] ty (0, 0)) := csetCell_block _ h5
  exact h6
theorem sets7_below {w W : World} {N : Nat} (x0 x1 x2 x3 x4 x5 x6 : Value) (h : Below N w W) : Below N w ((((((((W.setCell ⟨N, 0, none⟩ x0).setCell ⟨N, 1, none⟩ x1).setCell ⟨N, 2, none⟩ x2).setCell ⟨N, 3, none⟩ x3).setCell ⟨N, 4, none⟩ x4).setCell ⟨N, 5, none⟩ x5).setCell ⟨N, 6, none⟩ x6)) :=
  ((((((h.setCell (by simp) _).setCell (by simp) _).setCell (by simp) _).setCell (by simp) _).setCell (by simp) _).setCell (by simp) _).setCell (by simp) _

set_option maxRecDepth 100000 in
set_option maxHeartbeats 8000000 in
theorem pLoad_any (v : Value) (bs : List UInt8) (w : World) (hv : bytesAt w v bs) (hb : bs.length ≤ 140737488355328) (ht : TabsP w) :
    Calls Tryz.prog 14 #[v] w fun e w' => LoadRetS w.heap.size bs e w' ∧ Below w.heap.size w w' := by
  obtain ⟨w0, hw0, hb0, HZ0, h0⟩ := box1 w (.cells #[.int .i64 0, .int .i64 0, .int .i64 0, .slice none 0 0, .slice none 0 0, .string ⟨#[]⟩, .int .i64 0] 27)
  have HW0 : Hid (w0 = w.alloc (.cells #[.int .i64 0, .int .i64 0, .int .i64 0, .slice none 0 0, .slice none 0 0, .string ⟨#[]⟩, .int .i64 0] 27)) := hw0
  have HB0 : Hid (Below w.heap.size w w0) := hb0
  have HY0 : Hid (w0.heap[w.heap.size]? = some (.cells #[.int .i64 0, .int .i64 0, .int .i64 0, .slice none 0 0, .slice none 0 0, .string ⟨#[]⟩, .int .i64 0] 27 (0, 0))) := h0
  have cn := newReader_any v bs w0 (bytesAt_below hv hb0 (Nat.le_refl _)) hb
  have HT : Hid (∀ W, Below w.heap.size w W → TabsP W) := fun W hW => ht.below hW (Nat.le_refl _)
  obtain ⟨vb, vc, rfl, -⟩ := hv
  clear hw0 hb0 h0 ht hb
  go_enter Tryz.func14, Tryz.ntmps14
  go_wp2_with fail
  rw [← HW0.out]
  refine cn.mono ?_
  clear cn
  rintro e W0 ⟨p, base, cap, rfl, hr0, hp0, hp1, hbl0, hbW⟩
  have hz0 := HZ0.out
  have HS0 : Hid (w.heap.size + 1 ≤ W0.heap.size ∧ w.heap.size < p) := ⟨by have := hbW.size; omega, by omega⟩
  have HYW : Hid (W0.heap[w.heap.size]? = some (.cells #[.int .i64 0, .int .i64 0, .int .i64 0, .slice none 0 0, .slice none 0 0, .string ⟨#[]⟩, .int .i64 0] 27 (0, 0))) := (hbW.block _ (by omega)).trans HY0.out
  have HBW : Hid (Below w.heap.size w W0) := HB0.out.trans (hbW.mono HB0.out.size)
  have c := pReadState_any p base cap bs W0 0 0 hr0 hp1 (fun x e => (hbl0 x e).2)
  obtain ⟨X, a1, r1, hX⟩ : ∃ X a1 r1, rSn bs 0 0 = (X, a1, r1) := ⟨_, _, _, rfl⟩
  have HX : Hid (rSn bs 0 0 = (X, a1, r1)) := hX
  rw [hX] at c
  simp only at c
  clear hr0 hp0 hp1 hbl0 hbW hz0 hX
  go_wp2_with fail
  refine c.mono ?_
  clear c
  rintro e V ⟨x, hx, ⟨bi, ni, ci, bv, nv, cv, rfl, hin⟩, hr1, hg1⟩
  subst hx
  obtain ⟨W2, hW2, hb2, HZ2, hM2⟩ := box1 V (.cells #[.int .i64 x.pos, .int .i64 x.st, .int .i64 x.ft, .slice bi ni ci, .slice bv nv cv, .string (strB x.out), .int .i64 x.rd] 27)
  have HW2 : Hid (W2 = V.alloc (.cells #[.int .i64 x.pos, .int .i64 x.st, .int .i64 x.ft, .slice bi ni ci, .slice bv nv cv, .string (strB x.out), .int .i64 x.rd] 27)) := hW2
  have hsV := hg1.size
  have hs0 := HS0.out
  have HYV : Hid (V.heap[w.heap.size]? = some (.cells #[.int .i64 0, .int .i64 0, .int .i64 0, .slice none 0 0, .slice none 0 0, .string ⟨#[]⟩, .int .i64 0] 27 (0, 0))) := (hg1.block _ (by omega) (by simp; omega)).trans HYW.out
  have HBV : Hid (Below w.heap.size w V) := ⟨hg1.os.trans HBW.out.os, hg1.tape.trans HBW.out.tape, hg1.output.trans HBW.out.output, by have := HBW.out.size; omega, fun k hk => (hg1.block k (by have := HBW.out.size; omega) (by simp; omega)).trans (HBW.out.block k hk)⟩
  have HY2 : Hid (W2.heap[w.heap.size]? = some (.cells #[.int .i64 0, .int .i64 0, .int .i64 0, .slice none 0 0, .slice none 0 0, .string ⟨#[]⟩, .int .i64 0] 27 (0, 0))) := (hb2.block _ (by omega)).trans HYV.out
  have HB2 : Hid (Below w.heap.size w W2) := HBV.out.trans (hb2.mono HBV.out.size)
  have HM2 : Hid (W2.heap[V.heap.size]? = some (.cells #[.int .i64 x.pos, .int .i64 x.st, .int .i64 x.ft, .slice bi ni ci, .slice bv nv cv, .string (strB x.out), .int .i64 x.rd] 27 (0, 0))) := hM2
  have HI2 : Hid (SnIn (fun b => W0.heap.size ≤ b) W2 x (.slice bi ni ci) (.slice bv nv cv)) := hin.below hb2
  have HML : Hid (w.heap.size < V.heap.size) := by show _ < _; omega
  have ce := end_any (hr1.below hb2 (Nat.le_refl _))
  obtain ⟨E, hE⟩ : ∃ E, E = endR bs.length a1 r1 := ⟨_, rfl⟩
  rw [← hE] at ce
  have HEE : Hid (ldS bs = E) := by show _ = _; rw [hE]; unfold ldS; rw [HX.out]
  clear hin hr1 hg1 hW2 hb2 HZ2 hM2 hsV hs0 hE
  go_wp2_with fail
  rw [← HW2.out]
  refine ce.mono ?_
  clear ce
  rintro e _ ⟨rfl, k, rfl⟩
  have HY3 : Hid ((W2.drewN k).heap[w.heap.size]? = some (.cells #[.int .i64 0, .int .i64 0, .int .i64 0, .slice none 0 0, .slice none 0 0, .string ⟨#[]⟩, .int .i64 0] 27 (0, 0))) := HY2.out
  have HM3 : Hid ((W2.drewN k).heap[V.heap.size]? = some (.cells #[.int .i64 x.pos, .int .i64 x.st, .int .i64 x.ft, .slice bi ni ci, .slice bv nv cv, .string (strB x.out), .int .i64 x.rd] 27 (0, 0))) := HM2.out
  have HB3 : Hid (Below w.heap.size w (W2.drewN k)) := ⟨HB2.out.os, HB2.out.tape, HB2.out.output, HB2.out.size, HB2.out.block⟩
  have HI3 : Hid (SnIn (fun b => W0.heap.size ≤ b) (W2.drewN k) x (.slice bi ni ci) (.slice bv nv cv)) := HI2.out.kept (Nat.le_refl _) fun _ _ _ => rfl
  generalize W2.drewN k = W3 at HY3 HM3 HB3 HI3 ⊢
  clear HY2 HM2 HB2 HI2
  by_cases hE0 : E = 0
  · subst hE0
    have HSM : Hid (SmallS x) := by have := (ldS_form HEE.out).1; rw [HX.out] at this; exact okSn_small this
    have ci := pCheck_any _ x bi bv ni ci nv cv W3 HI3.out HSM.out (HT.out W3 HB3.out)
    obtain ⟨RC, hRC⟩ : ∃ RC, RC = mayS x := ⟨_, rfl⟩
    rw [← hRC] at ci
    have HRC : Hid (RC = mayS (rSn bs 0 0).1) := by rw [HX.out]; exact hRC
    obtain ⟨d0, d1, d2, d3, d4, d5, d6⟩ := cells7 HM3.out
    clear hRC
    go_wp2_with fail
    refine ci.mono ?_
    clear ci d0 d1 d2 d3 d4 d5 d6
    rintro e W6 ⟨rfl, hb6⟩
    have HY6 : Hid (W6.heap[w.heap.size]? = some (.cells #[.int .i64 0, .int .i64 0, .int .i64 0, .slice none 0 0, .slice none 0 0, .string ⟨#[]⟩, .int .i64 0] 27 (0, 0))) := (hb6.block _ (heap_lt HY3.out)).trans HY3.out
    have HM6 : Hid (W6.heap[V.heap.size]? = some (.cells #[.int .i64 x.pos, .int .i64 x.st, .int .i64 x.ft, .slice bi ni ci, .slice bv nv cv, .string (strB x.out), .int .i64 x.rd] 27 (0, 0))) := (hb6.block _ (heap_lt HM3.out)).trans HM3.out
    have HI6 : Hid (SnIn (fun b => W0.heap.size ≤ b) W6 x (.slice bi ni ci) (.slice bv nv cv)) := HI3.out.below hb6
    have HB6 : Hid (Below w.heap.size w W6) := HB3.out.trans (hb6.mono HB3.out.size)
    obtain ⟨u0, u1, u2, u3, u4, u5, u6, HYU⟩ : ∃ u0 u1 u2 u3 u4 u5 u6, Hid (W6.heap[w.heap.size]? = some (.cells #[u0, u1, u2, u3, u4, u5, u6] 27 (0, 0))) := ⟨_, _, _, _, _, _, _, HY6.out⟩
    clear HY6
    obtain ⟨y0, y1, y2, y3, y4, y5, y6⟩ := cells7 HYU.out
    have yf := cfrozen HYU.out
    clear hb6
    cases RC with
    | true =>
      simp only [errR, if_true]
      obtain ⟨d0, d1, d2, d3, d4, d5, d6⟩ := cells7 HM6.out
      have HE : Hid (Below w.heap.size w (((((((W6.setCell ⟨w.heap.size, 0, none⟩ (.int .i64 x.pos)).setCell ⟨w.heap.size, 1, none⟩ (.int .i64 x.st)).setCell ⟨w.heap.size, 2, none⟩ (.int .i64 x.ft)).setCell ⟨w.heap.size, 3, none⟩ (.slice bi ni ci)).setCell ⟨w.heap.size, 4, none⟩ (.slice bv nv cv)).setCell ⟨w.heap.size, 5, none⟩ (.string (strB x.out))).setCell ⟨w.heap.size, 6, none⟩ (.int .i64 x.rd))) := sets7_below _ _ _ _ _ _ _ HB6.out
      have HIE : Hid (SnIn (fun b => w.heap.size ≤ b) (((((((W6.setCell ⟨w.heap.size, 0, none⟩ (.int .i64 x.pos)).setCell ⟨w.heap.size, 1, none⟩ (.int .i64 x.st)).setCell ⟨w.heap.size, 2, none⟩ (.int .i64 x.ft)).setCell ⟨w.heap.size, 3, none⟩ (.slice bi ni ci)).setCell ⟨w.heap.size, 4, none⟩ (.slice bv nv cv)).setCell ⟨w.heap.size, 5, none⟩ (.string (strB x.out))).setCell ⟨w.heap.size, 6, none⟩ (.int .i64 x.rd)) x (.slice bi ni ci) (.slice bv nv cv)) := by
        have h7 := HI6.out.kept (w' := (((((((W6.setCell ⟨w.heap.size, 0, none⟩ (.int .i64 x.pos)).setCell ⟨w.heap.size, 1, none⟩ (.int .i64 x.st)).setCell ⟨w.heap.size, 2, none⟩ (.int .i64 x.ft)).setCell ⟨w.heap.size, 3, none⟩ (.slice bi ni ci)).setCell ⟨w.heap.size, 4, none⟩ (.slice bv nv cv)).setCell ⟨w.heap.size, 5, none⟩ (.string (strB x.out))).setCell ⟨w.heap.size, 6, none⟩ (.int .i64 x.rd))) (by simp) fun q hq _ => sets7_keep W6 w.heap.size _ _ _ _ _ _ _ q (by have := HS0.out.1; omega)
        exact h7.wide fun q _ hq => by have := HS0.out.1; omega
      obtain ⟨z0, z1, z2, z3, z4, z5, z6⟩ := cells7 (sets7_cells (.int .i64 x.pos) (.int .i64 x.st) (.int .i64 x.ft) (.slice bi ni ci) (.slice bv nv cv) (.string (strB x.out)) (.int .i64 x.rd) HYU.out)
      go_wp2
      refine bodyPost_ret (v := .tuple #[.agg #[.int .i64 x.pos, .int .i64 x.st, .int .i64 x.ft, .slice bi ni ci, .slice bv nv cv, .string (strB x.out), .int .i64 x.rd], .int .i64 0]) (by simp [results, Tryz.results14, go_sem, z0, z1, z2, z3, z4, z5, z6]) rfl ?_
      refine ⟨.inr (.inr ⟨HEE.out, HRC.out.symm, bi, ni, ci, bv, nv, cv, ?_, ?_⟩), HE.out⟩
      · rw [HX.out]
      · rw [HX.out]; exact HIE.out
    | false =>
      simp only [errR, Bool.false_eq_true, if_false]
      have HE : Hid (Below w.heap.size w (((((((W6.setCell ⟨w.heap.size, 0, none⟩ (.int .i64 0)).setCell ⟨w.heap.size, 1, none⟩ (.int .i64 0)).setCell ⟨w.heap.size, 2, none⟩ (.int .i64 0)).setCell ⟨w.heap.size, 3, none⟩ (.slice none 0 0)).setCell ⟨w.heap.size, 4, none⟩ (.slice none 0 0)).setCell ⟨w.heap.size, 5, none⟩ (.string ⟨#[]⟩)).setCell ⟨w.heap.size, 6, none⟩ (.int .i64 0))) := sets7_below _ _ _ _ _ _ _ HB6.out
      obtain ⟨z0, z1, z2, z3, z4, z5, z6⟩ := cells7 (sets7_cells (.int .i64 0) (.int .i64 0) (.int .i64 0) (.slice none 0 0) (.slice none 0 0) (.string ⟨#[]⟩) (.int .i64 0) HYU.out)
      go_wp2
      refine bodyPost_ret (v := .tuple #[.agg #[.int .i64 0, .int .i64 0, .int .i64 0, .slice none 0 0, .slice none 0 0, .string ⟨#[]⟩, .int .i64 0], .int .i64 2]) (by simp [results, Tryz.results14, go_sem, z0, z1, z2, z3, z4, z5, z6]) rfl ?_
      exact ⟨.inr (.inl ⟨HEE.out, HRC.out.symm, rfl⟩), HE.out⟩
  · have hEb : ((E : Int) == 0) = false := by rw [beq_eq_false_iff_ne]; omega
    have hEn : ((E : Int) != 0) = true := by rw [bne, hEb]; rfl
    have hEi : ¬ (E : Int) = 0 := by omega
    have HE0 : Hid (E ≠ 0) := hE0
    obtain ⟨u0, u1, u2, u3, u4, u5, u6, HYU⟩ : ∃ u0 u1 u2 u3 u4 u5 u6, Hid (W3.heap[w.heap.size]? = some (.cells #[u0, u1, u2, u3, u4, u5, u6] 27 (0, 0))) := ⟨_, _, _, _, _, _, _, HY3.out⟩
    clear HY3
    obtain ⟨y0, y1, y2, y3, y4, y5, y6⟩ := cells7 HYU.out
    have yf := cfrozen HYU.out
    have HE : Hid (Below w.heap.size w (((((((W3.setCell ⟨w.heap.size, 0, none⟩ (.int .i64 0)).setCell ⟨w.heap.size, 1, none⟩ (.int .i64 0)).setCell ⟨w.heap.size, 2, none⟩ (.int .i64 0)).setCell ⟨w.heap.size, 3, none⟩ (.slice none 0 0)).setCell ⟨w.heap.size, 4, none⟩ (.slice none 0 0)).setCell ⟨w.heap.size, 5, none⟩ (.string ⟨#[]⟩)).setCell ⟨w.heap.size, 6, none⟩ (.int .i64 0))) := sets7_below _ _ _ _ _ _ _ HB3.out
    obtain ⟨z0, z1, z2, z3, z4, z5, z6⟩ := cells7 (sets7_cells (.int .i64 0) (.int .i64 0) (.int .i64 0) (.slice none 0 0) (.slice none 0 0) (.string ⟨#[]⟩) (.int .i64 0) HYU.out)
    clear hE0
    go_wp2
    refine bodyPost_ret (v := .tuple #[.agg #[.int .i64 0, .int .i64 0, .int .i64 0, .slice none 0 0, .slice none 0 0, .string ⟨#[]⟩, .int .i64 0], .int .i64 (E : Int)]) (by simp [results, Tryz.results14, go_sem, z0, z1, z2, z3, z4, z5, z6]) rfl ?_
    exact ⟨.inl ⟨by rw [HEE.out]; exact HE0.out, by rw [HEE.out]⟩, HE.out⟩
end Go.Proofs.YtbdgniiafdjmiaaGreatDoor
