/- snap: the document's own look whether two states are the same: of two that are. -/
import Derived.Test.YtbdgniiafdjmiaaGreatDoorPModel
import Derived.Test.YtbdgniiafdjmiaaGreatDoorHSame
import Derived.Deep.DeepCutAuto
import Derived.Test.YtbdgniiafdjmiaaGreatDoorCMix2
namespace Go.Proofs.YtbdgniiafdjmiaaGreatDoor
open Go.RowKit Go.Shelf

/-- Two calls in blocks of their own. -/
def TwoAt (x : Cal) (u3 u4 u5 u6 : Value) (w : World) (v6 v7 : Value) (wx : World) : Prop :=
  ∃ p q, v6 = .pointer (some ⟨p, 0, none⟩) ∧ v7 = .pointer (some ⟨q, 0, none⟩) ∧ wx.heap[p]? = some (.cells #[.int .i64 x.unit, .int .i64 x.at0, .int .i64 x.mark, u3, u4] 49 (0, 0)) ∧ wx.heap[q]? = some (.cells #[.int .i64 x.unit, .int .i64 x.at0, .int .i64 x.mark, u5, u6] 49 (0, 0)) ∧ Below w.heap.size w wx

theorem sets5_keep (W : World) (N : Nat) (x0 x1 x2 x3 x4 : Value) (q : Nat) (hq : q ≠ N) : (((((W.setCell ⟨N, 0, none⟩ x0).setCell ⟨N, 1, none⟩ x1).setCell ⟨N, 2, none⟩ x2).setCell ⟨N, 3, none⟩ x3).setCell ⟨N, 4, none⟩ x4).heap[q]? = W.heap[q]? := by
  rw [Below.heap_setCell _ _ _ _ (by simpa using hq), Below.heap_setCell _ _ _ _ (by simpa using hq), Below.heap_setCell _ _ _ _ (by simpa using hq), Below.heap_setCell _ _ _ _ (by simpa using hq), Below.heap_setCell _ _ _ _ (by simpa using hq)]
theorem sets5_cells {W : World} {N : Nat} {u0 u1 u2 u3 u4 : Value} {ty : TypeId} (x0 x1 x2 x3 x4 : Value) (h : W.heap[N]? = some (.cells #[u0, u1, u2, u3, u4] ty (0, 0))) : (((((W.setCell ⟨N, 0, none⟩ x0).setCell ⟨N, 1, none⟩ x1).setCell ⟨N, 2, none⟩ x2).setCell ⟨N, 3, none⟩ x3).setCell ⟨N, 4, none⟩ x4).heap[N]? = some (.cells #[x0, x1, x2, x3, x4] ty (0, 0)) := by
  have h0 : (W.setCell ⟨N, 0, none⟩ x0).heap[N]? = some (.cells #[x0, u1, u2, u3, u4] ty (0, 0)) := csetCell_block _ h
  have h1 : ((W.setCell ⟨N, 0, none⟩ x0).setCell ⟨N, 1, none⟩ x1).heap[N]? = some (.cells #[x0, x1, u2, u3, u4] ty (0, 0)) := csetCell_block _ h0
  have h2 : (((W.setCell ⟨N, 0, none⟩ x0).setCell ⟨N, 1, none⟩ x1).setCell ⟨N, 2, none⟩ x2).heap[N]? = some (.cells #[x0, x1, x2, u3, u4] ty (0, 0)) := csetCell_block _ h1
  have h3 : ((((W.setCell ⟨N, 0, none⟩ x0).setCell ⟨N, 1, none⟩ x1).setCell ⟨N, 2, none⟩ x2).setCell ⟨N, 3, none⟩ x3).heap[N]? = some (.cells #[x0, x1, x2, x3, u4] ty (0, 0)) := csetCell_block _ h2
  exact csetCell_block _ h3
theorem sets5_below {w W : World} {B N : Nat} (x0 x1 x2 x3 x4 : Value) (h : Below B w W) (hN : B ≤ N) : Below B w (((((W.setCell ⟨N, 0, none⟩ x0).setCell ⟨N, 1, none⟩ x1).setCell ⟨N, 2, none⟩ x2).setCell ⟨N, 3, none⟩ x3).setCell ⟨N, 4, none⟩ x4) :=
  ((((h.setCell hN _).setCell hN _).setCell hN _).setCell hN _).setCell hN _

set_option maxRecDepth 100000 in
set_option maxHeartbeats 8000000 in
theorem pSame_any (S T : Nat → Prop) (s : Sn) (b1 b2 b3 b4 : Option Addr) (n1 c1 n2 c2 n3 c3 n4 c4 : Nat) (w : World) (h1 : SnIn S w s (.slice b1 n1 c1) (.slice b2 n2 c2)) (h2 : SnIn T w s (.slice b3 n3 c3) (.slice b4 n4 c4)) (hsm : SmallS s) :
    Calls Tryz.prog 16 #[snV s (.slice b1 n1 c1) (.slice b2 n2 c2), snV s (.slice b3 n3 c3) (.slice b4 n4 c4)] w fun e w' => e = .returned (.bool true) ∧ Below w.heap.size w w' := by
  obtain ⟨w1, hw1, hb1, HZ1, hA, hB⟩ := box2 w (.cells #[.int .i64 s.pos, .int .i64 s.st, .int .i64 s.ft, .slice b1 n1 c1, .slice b2 n2 c2, .string (strB s.out), .int .i64 s.rd] 27) (.cells #[.int .i64 s.pos, .int .i64 s.st, .int .i64 s.ft, .slice b3 n3 c3, .slice b4 n4 c4, .string (strB s.out), .int .i64 s.rd] 27)
  have HW1 : Hid (w1 = (w.alloc (.cells #[.int .i64 s.pos, .int .i64 s.st, .int .i64 s.ft, .slice b1 n1 c1, .slice b2 n2 c2, .string (strB s.out), .int .i64 s.rd] 27)).alloc (.cells #[.int .i64 s.pos, .int .i64 s.st, .int .i64 s.ft, .slice b3 n3 c3, .slice b4 n4 c4, .string (strB s.out), .int .i64 s.rd] 27)) := hw1
  have HB1 : Hid (Below w.heap.size w w1) := hb1
  have hz := HZ1.out
  have HZS : Hid (w1.heap.size = w.heap.size + 2) := hz
  obtain ⟨hn1, H1⟩ : n1 = s.calls.length ∧ Hid (∀ i (hi : i < s.calls.length), ∃ b o, b1 = some ⟨b, o, none⟩ ∧ S b ∧ b < w.heap.size ∧ calE S w b (o + i * 5) s.calls[i]) := by obtain ⟨b, c, e, _, _, h⟩ := h1.calls.at; cases e; exact ⟨rfl, h⟩
  obtain ⟨hn3, H3⟩ : n3 = s.calls.length ∧ Hid (∀ i (hi : i < s.calls.length), ∃ b o, b3 = some ⟨b, o, none⟩ ∧ T b ∧ b < w.heap.size ∧ calE T w b (o + i * 5) s.calls[i]) := by obtain ⟨b, c, e, _, _, h⟩ := h2.calls.at; cases e; exact ⟨rfl, h⟩
  have HF : Hid (∀ W, Below w1.heap.size w1 W → W.cell? ⟨w.heap.size, 3, none⟩ = some (.slice b1 n1 c1) ∧ W.cell? ⟨w.heap.size + 1, 3, none⟩ = some (.slice b3 n3 c3)) := fun W hW =>
    ⟨(cells7 ((hW.block _ (by omega)).trans hA)).2.2.2.1, (cells7 ((hW.block _ (by omega)).trans hB)).2.2.2.1⟩
  have ch : Calls Tryz.prog 38 #[.slice b2 n2 c2, .slice b4 n4 c4] w1 fun e w' => e = .returned (.bool true) ∧ Below w1.heap.size w1 w' := same_any06 S T s.heap _ _ w1 (objsIn_of (h1.below hb1).heap) (objsIn_of (h2.below hb1).heap) hsm.heap.2 (fun o ho => (hsm.heap.1 o ho).2.2)
  have HCV : Hid (∀ (W : World) (l : List Vl) (u v : Value), Below w.heap.size w W → valsR S w u l → valsR T w v l → l.length ≤ 1048576 → Calls Tryz.prog 39 #[u, v] W fun e w' => e = .returned (.bool true) ∧ Below W.heap.size W w') := fun W l u v hW hu hv hl => sameVals_any S T l u v W (valsIn_of (rowIn.kept hu (valE_keeps S) hW.size fun q _ hq => hW.block q hq)) (valsIn_of (rowIn.kept hv (valE_keeps T) hW.size fun q _ hq => hW.block q hq)) hl
  have HSM : Hid (∀ c ∈ s.calls, c.slots.length ≤ 1048576 ∧ c.stack.length ≤ 1048576) := fun c hc => ⟨(hsm.calls.1 c hc).2.1.2, (hsm.calls.1 c hc).2.2.2⟩
  have hln : (s.calls.length : Int) ≤ 1048576 := by have := hsm.calls.2; omega
  obtain ⟨k0, k1, k2, k3, k4, k5, k6⟩ := cells7 hA
  obtain ⟨l0, l1, l2, l3, l4, l5, l6⟩ := cells7 hB
  subst hn1
  subst hn3
  obtain ⟨so, hso⟩ : ∃ so, so = strB s.out := ⟨_, rfl⟩
  have HSO : Hid (so = strB s.out) := hso
  clear hw1 hb1 HZ1 hz hA hB h1 h2 hsm hso
  go_enter Tryz.func16, Tryz.ntmps16
  go_wp2_with fail
  rw [← HW1.out]
  refine ch.mono ?_
  clear ch k0 k1 k2 k4 k5 k6 l0 l1 l2 l4 l5 l6 k3 l3
  rintro e w2 ⟨rfl, hb2⟩
  have HB2 : Hid (Below w1.heap.size w1 w2) := hb2
  obtain ⟨k3, l3⟩ := HF.out w2 hb2
  clear hb2
  go_wp2
  clear k3 l3
  go_loopw [5] (fun vi wr => ∃ i : Nat, i ≤ s.calls.length ∧ vi = .int .i64 (i : Int) ∧ Below w1.heap.size w1 wr) (fun vi _ => s.calls.length - (intOf vi).toNat)
  case atStart => exact ⟨0, Nat.zero_le _, rfl, HB2.out⟩
  case round =>
    obtain ⟨i, hi, rfl, hbr⟩ := hrel
    have HB : Hid (Below w1.heap.size w1 wr) := hbr
    have HBw : Hid (Below w.heap.size w wr) := HB1.out.trans (hbr.mono HB1.out.size)
    obtain ⟨k3, l3⟩ := HF.out wr hbr
    clear hbr
    by_cases hlt : i < s.calls.length
    · have hi2 : (i : Int) < s.calls.length := by omega
      obtain ⟨ba, oa, rfl, -, hla, hxa⟩ := H1.out i hlt
      obtain ⟨bb, ob, rfl, -, hlb, hxb⟩ := H3.out i hlt
      have hk := HSM.out s.calls[i] (List.getElem_mem hlt)
      obtain ⟨x, hx⟩ : ∃ x, x = s.calls[i] := ⟨_, rfl⟩
      rw [← hx] at hxa hxb hk
      have HK : Hid (x.slots.length ≤ 1048576 ∧ x.stack.length ≤ 1048576) := hk
      obtain ⟨e0, e1, e2, ⟨u3, e3, hu3⟩, u4, e4, hu4⟩ := hxa
      obtain ⟨g0, g1, g2, ⟨u5, g3, hu5⟩, u6, g4, hu6⟩ := hxb
      have HU : Hid (valsR S w u3 x.slots ∧ valsR S w u4 x.stack ∧ valsR T w u5 x.slots ∧ valsR T w u6 x.stack) := ⟨hu3, hu4, hu5, hu6⟩
      obtain ⟨p3, q3, rfl, -⟩ := hu3.at
      obtain ⟨p4, q4, rfl, -⟩ := hu4.at
      obtain ⟨p5, q5, rfl, -⟩ := hu5.at
      obtain ⟨p6, q6, rfl, -⟩ := hu6.at
      have hcc : ∀ q, wr.cell? ⟨ba, q, none⟩ = w.cell? ⟨ba, q, none⟩ := fun q => below_cell HBw.out hla
      have hdd : ∀ q, wr.cell? ⟨bb, q, none⟩ = w.cell? ⟨bb, q, none⟩ := fun q => below_cell HBw.out hlb
      rw [← hcc] at e0 e1 e2 e3 e4
      rw [← hdd] at g0 g1 g2 g3 g4
      clear hcc hdd hx hk hu3 hu4 hu5 hu6
      obtain ⟨m3, hm3⟩ : ∃ m, m = x.slots.length := ⟨_, rfl⟩
      obtain ⟨m4, hm4⟩ : ∃ m, m = x.stack.length := ⟨_, rfl⟩
      rw [← hm3] at e3 g3 HU
      rw [← hm4] at e4 g4 HU
      clear hm3 hm4
      go_upto_region 6 with fail
      go_cut [6, 7] (fun v6 v7 wx => TwoAt x (.slice p3 m3 q3) (.slice p4 m4 q4) (.slice p5 m3 q5) (.slice p6 m4 q6) wr v6 v7 wx)
      case first =>
        have hba : ba < wr.heap.size := Nat.lt_of_lt_of_le hla HBw.out.size
        have hbb : bb < wr.heap.size := Nat.lt_of_lt_of_le hlb HBw.out.size
        have hww : w.heap.size + 1 < wr.heap.size := by have := HB.out.size; have := HZS.out; omega
        have x0 := cls_cell (n := wr.heap.size) e0 hba
        have x1 := cls_cell (n := wr.heap.size) e1 hba
        have x2 := cls_cell (n := wr.heap.size) e2 hba
        have x3 := cls_cell (n := wr.heap.size) e3 hba
        have x4 := cls_cell (n := wr.heap.size) e4 hba
        have y0 := cls_cell (n := wr.heap.size) g0 hbb
        have y1 := cls_cell (n := wr.heap.size) g1 hbb
        have y2 := cls_cell (n := wr.heap.size) g2 hbb
        have y3 := cls_cell (n := wr.heap.size) g3 hbb
        have y4 := cls_cell (n := wr.heap.size) g4 hbb
        have hw0 : w.heap.size < wr.heap.size := by omega
        have t3 := cls_cell (n := wr.heap.size) k3 hw0
        have t4 := cls_cell (n := wr.heap.size) l3 hww
        clear e0 e1 e2 e3 e4 g0 g1 g2 g3 g4 k3 l3
        refine mix_begin (n := 14) (S := fun w' => ∃ c : Cls wr.heap.size wr, w' = c.1) (by kernel_rfl) rfl rfl ?_
        obtain ⟨wd, hwd⟩ : ∃ wd, wd = wr.drew := ⟨_, rfl⟩
        rw [← hwd]
        have HZ0 : Hid (Below wr.heap.size wr wd) := by rw [hwd]; exact (Below.refl _ _).drew
        clear hwd
        refine mix_seg (fuel := 4) (fuel' := 14) (idx := [0, 1, 2, 3, 4, 5, 6, 7, 8, 9]) (by kernel_rfl) rfl rfl rfl (fun _ _ _ _ _ h => h) ⟨⟨wd, HZ0.out⟩, rfl⟩ ?_
        show wpQuiet _ _ _ _ [_, _, _, _, _, _, _, _, _, _] _
        iterate 10 (go_big_quiet_step (fail))
        refine wpQuiet_nil ?_
        refine cmix_two (fuel := 3) (fuel' := 4) (i := 10) (k := 11) rfl rfl (by kernel_rfl) rfl rfl rfl (by rfl) (by rfl) ?_ ?_
        · intro K hK
          go_simp
          obtain ⟨z1, hz, hb, -, hg⟩ := box1 wd (.cells #[.int .i64 0, .int .i64 0, .int .i64 0, .slice none 0 0, .slice none 0 0] 49)
          rw [← hz]
          obtain ⟨pp, hbe⟩ : ∃ b, b = (World.heap wd).size := ⟨_, rfl⟩
          have HPE1 : Hid ((World.heap wd).size = pp) := hbe.symm
          rw [← hbe] at hg ⊢
          have HZ1 : Hid (Below wr.heap.size wr z1) := HZ0.out.trans (hb.mono HZ0.out.size)
          have HP1 : Hid (z1.heap[pp]? = some (.cells #[.int .i64 0, .int .i64 0, .int .i64 0, .slice none 0 0, .slice none 0 0] 49 (0, 0))) := hg
          have HPL : Hid (wr.heap.size ≤ pp) := by show _ ≤ _; rw [hbe]; exact HZ0.out.size
          refine hK.out _ _ ⟨⟨z1, HZ1.out⟩, rfl⟩ ?_
          clear hK K hz hb hg hbe
          refine mix_loud (fuel := 2) (fuel' := 3) (i := 11) rfl (by kernel_rfl) rfl rfl (by rfl) ?_
          intro K hK
          go_simp
          obtain ⟨z2, hz, hb, -, hg⟩ := box1 z1 (.cells #[.int .i64 0, .int .i64 0, .int .i64 0, .slice none 0 0, .slice none 0 0] 49)
          rw [← hz]
          obtain ⟨qq, hbe⟩ : ∃ b, b = (World.heap z1).size := ⟨_, rfl⟩
          have HQE2 : Hid ((World.heap z1).size = qq) := hbe.symm
          rw [← hbe] at hg ⊢
          have HZ2 : Hid (Below wr.heap.size wr z2) := HZ1.out.trans (hb.mono HZ1.out.size)
          have HQ2 : Hid (z2.heap[qq]? = some (.cells #[.int .i64 0, .int .i64 0, .int .i64 0, .slice none 0 0, .slice none 0 0] 49 (0, 0))) := hg
          have HQL : Hid (wr.heap.size ≤ qq) := by show _ ≤ _; rw [hbe]; exact HZ1.out.size
          have HP2 : Hid (z2.heap[pp]? = some (.cells #[.int .i64 0, .int .i64 0, .int .i64 0, .slice none 0 0, .slice none 0 0] 49 (0, 0))) := (hb.block _ (heap_lt HP1.out)).trans HP1.out
          have HNE : Hid (pp ≠ qq) := by have := heap_lt HP1.out; show _ ≠ _; rw [hbe]; omega
          refine hK.out _ _ ⟨⟨z2, HZ2.out⟩, rfl⟩ ?_
          clear hK K hz hb hg hbe
          refine mix_loud (fuel := 1) (fuel' := 2) (i := 12) rfl (by kernel_rfl) rfl rfl (by rfl) ?_
          obtain ⟨c0, c1, c2, c3, c4⟩ := cells5p HP2.out
          have cf := cfrozen HP2.out
          intro K hK
          go_simp
          obtain ⟨z3, hz⟩ : ∃ zz, zz = (((((z2.setCell ⟨pp, 0, none⟩ (.int .i64 x.unit)).setCell ⟨pp, 1, none⟩ (.int .i64 x.at0)).setCell ⟨pp, 2, none⟩ (.int .i64 x.mark)).setCell ⟨pp, 3, none⟩ (.slice p3 m3 q3)).setCell ⟨pp, 4, none⟩ (.slice p4 m4 q4)) := ⟨_, rfl⟩
          rw [← hz]
          have HZ3 : Hid (Below wr.heap.size wr z3) := by rw [hz]; exact sets5_below _ _ _ _ _ HZ2.out HPL.out
          have HP3 : Hid (z3.heap[pp]? = some (.cells #[.int .i64 x.unit, .int .i64 x.at0, .int .i64 x.mark, .slice p3 m3 q3, .slice p4 m4 q4] 49 (0, 0))) := by rw [hz]; exact sets5_cells _ _ _ _ _ HP2.out
          have HQ3 : Hid (z3.heap[qq]? = some (.cells #[.int .i64 0, .int .i64 0, .int .i64 0, .slice none 0 0, .slice none 0 0] 49 (0, 0))) := by rw [hz]; exact (sets5_keep _ _ _ _ _ _ _ _ (by have := HNE.out; omega)).trans HQ2.out
          refine hK.out _ _ ⟨⟨z3, HZ3.out⟩, rfl⟩ ?_
          clear hK K hz c0 c1 c2 c3 c4 cf
          refine mix_loud (fuel := 0) (fuel' := 1) (i := 13) rfl (by kernel_rfl) rfl rfl (by rfl) ?_
          obtain ⟨c0, c1, c2, c3, c4⟩ := cells5p HQ3.out
          have cf := cfrozen HQ3.out
          intro K hK
          go_simp
          obtain ⟨z4, hz⟩ : ∃ zz, zz = (((((z3.setCell ⟨qq, 0, none⟩ (.int .i64 x.unit)).setCell ⟨qq, 1, none⟩ (.int .i64 x.at0)).setCell ⟨qq, 2, none⟩ (.int .i64 x.mark)).setCell ⟨qq, 3, none⟩ (.slice p5 m3 q5)).setCell ⟨qq, 4, none⟩ (.slice p6 m4 q6)) := ⟨_, rfl⟩
          rw [← hz]
          have HZ4 : Hid (Below wr.heap.size wr z4) := by rw [hz]; exact sets5_below _ _ _ _ _ HZ3.out HQL.out
          have HQ4 : Hid (z4.heap[qq]? = some (.cells #[.int .i64 x.unit, .int .i64 x.at0, .int .i64 x.mark, .slice p5 m3 q5, .slice p6 m4 q6] 49 (0, 0))) := by rw [hz]; exact sets5_cells _ _ _ _ _ HQ3.out
          have HP4 : Hid (z4.heap[pp]? = some (.cells #[.int .i64 x.unit, .int .i64 x.at0, .int .i64 x.mark, .slice p3 m3 q3, .slice p4 m4 q4] 49 (0, 0))) := by rw [hz]; exact (sets5_keep _ _ _ _ _ _ _ _ (by have := HNE.out; omega)).trans HP3.out
          refine hK.out _ _ ⟨⟨z4, HZ4.out⟩, rfl⟩ ?_
          clear hK K hz c0 c1 c2 c3 c4 cf
          refine mix_done (by kernel_rfl) ?_
          have HT : Hid (TwoAt x (.slice p3 m3 q3) (.slice p4 m4 q4) (.slice p5 m3 q5) (.slice p6 m4 q6) wr (.pointer (some ⟨pp, 0, none⟩)) (.pointer (some ⟨qq, 0, none⟩)) _) := ⟨pp, qq, rfl, rfl, HP4.out, HQ4.out, HZ4.out⟩
          go_wp2_with fail
          go_meet
          exact HT.out
        · intro K hK
          go_simp
          obtain ⟨z5, hz, hb, -, hg⟩ := box1 wd (.cells #[.int .i64 0, .int .i64 0, .int .i64 0, .slice none 0 0, .slice none 0 0] 49)
          rw [← hz]
          obtain ⟨qq, hbe⟩ : ∃ b, b = (World.heap wd).size := ⟨_, rfl⟩
          have HQE5 : Hid ((World.heap wd).size = qq) := hbe.symm
          rw [← hbe] at hg ⊢
          have HZ5 : Hid (Below wr.heap.size wr z5) := HZ0.out.trans (hb.mono HZ0.out.size)
          have HQ5 : Hid (z5.heap[qq]? = some (.cells #[.int .i64 0, .int .i64 0, .int .i64 0, .slice none 0 0, .slice none 0 0] 49 (0, 0))) := hg
          have HQL : Hid (wr.heap.size ≤ qq) := by show _ ≤ _; rw [hbe]; exact HZ0.out.size
          refine hK.out _ _ ⟨⟨z5, HZ5.out⟩, rfl⟩ ?_
          clear hK K hz hb hg hbe
          refine mix_loud (fuel := 2) (fuel' := 3) (i := 10) rfl (by kernel_rfl) rfl rfl (by rfl) ?_
          intro K hK
          go_simp
          obtain ⟨z6, hz, hb, -, hg⟩ := box1 z5 (.cells #[.int .i64 0, .int .i64 0, .int .i64 0, .slice none 0 0, .slice none 0 0] 49)
          rw [← hz]
          obtain ⟨pp, hbe⟩ : ∃ b, b = (World.heap z5).size := ⟨_, rfl⟩
          have HPE6 : Hid ((World.heap z5).size = pp) := hbe.symm
          rw [← hbe] at hg ⊢
          have HZ6 : Hid (Below wr.heap.size wr z6) := HZ5.out.trans (hb.mono HZ5.out.size)
          have HP6 : Hid (z6.heap[pp]? = some (.cells #[.int .i64 0, .int .i64 0, .int .i64 0, .slice none 0 0, .slice none 0 0] 49 (0, 0))) := hg
          have HPL : Hid (wr.heap.size ≤ pp) := by show _ ≤ _; rw [hbe]; exact HZ5.out.size
          have HQ6 : Hid (z6.heap[qq]? = some (.cells #[.int .i64 0, .int .i64 0, .int .i64 0, .slice none 0 0, .slice none 0 0] 49 (0, 0))) := (hb.block _ (heap_lt HQ5.out)).trans HQ5.out
          have HNE : Hid (qq ≠ pp) := by have := heap_lt HQ5.out; show _ ≠ _; rw [hbe]; omega
          refine hK.out _ _ ⟨⟨z6, HZ6.out⟩, rfl⟩ ?_
          clear hK K hz hb hg hbe
          refine mix_loud (fuel := 1) (fuel' := 2) (i := 12) rfl (by kernel_rfl) rfl rfl (by rfl) ?_
          obtain ⟨c0, c1, c2, c3, c4⟩ := cells5p HP6.out
          have cf := cfrozen HP6.out
          intro K hK
          go_simp
          obtain ⟨z7, hz⟩ : ∃ zz, zz = (((((z6.setCell ⟨pp, 0, none⟩ (.int .i64 x.unit)).setCell ⟨pp, 1, none⟩ (.int .i64 x.at0)).setCell ⟨pp, 2, none⟩ (.int .i64 x.mark)).setCell ⟨pp, 3, none⟩ (.slice p3 m3 q3)).setCell ⟨pp, 4, none⟩ (.slice p4 m4 q4)) := ⟨_, rfl⟩
          rw [← hz]
          have HZ7 : Hid (Below wr.heap.size wr z7) := by rw [hz]; exact sets5_below _ _ _ _ _ HZ6.out HPL.out
          have HP7 : Hid (z7.heap[pp]? = some (.cells #[.int .i64 x.unit, .int .i64 x.at0, .int .i64 x.mark, .slice p3 m3 q3, .slice p4 m4 q4] 49 (0, 0))) := by rw [hz]; exact sets5_cells _ _ _ _ _ HP6.out
          have HQ7 : Hid (z7.heap[qq]? = some (.cells #[.int .i64 0, .int .i64 0, .int .i64 0, .slice none 0 0, .slice none 0 0] 49 (0, 0))) := by rw [hz]; exact (sets5_keep _ _ _ _ _ _ _ _ (by have := HNE.out; omega)).trans HQ6.out
          refine hK.out _ _ ⟨⟨z7, HZ7.out⟩, rfl⟩ ?_
          clear hK K hz c0 c1 c2 c3 c4 cf
          refine mix_loud (fuel := 0) (fuel' := 1) (i := 13) rfl (by kernel_rfl) rfl rfl (by rfl) ?_
          obtain ⟨c0, c1, c2, c3, c4⟩ := cells5p HQ7.out
          have cf := cfrozen HQ7.out
          intro K hK
          go_simp
          obtain ⟨z8, hz⟩ : ∃ zz, zz = (((((z7.setCell ⟨qq, 0, none⟩ (.int .i64 x.unit)).setCell ⟨qq, 1, none⟩ (.int .i64 x.at0)).setCell ⟨qq, 2, none⟩ (.int .i64 x.mark)).setCell ⟨qq, 3, none⟩ (.slice p5 m3 q5)).setCell ⟨qq, 4, none⟩ (.slice p6 m4 q6)) := ⟨_, rfl⟩
          rw [← hz]
          have HZ8 : Hid (Below wr.heap.size wr z8) := by rw [hz]; exact sets5_below _ _ _ _ _ HZ7.out HQL.out
          have HQ8 : Hid (z8.heap[qq]? = some (.cells #[.int .i64 x.unit, .int .i64 x.at0, .int .i64 x.mark, .slice p5 m3 q5, .slice p6 m4 q6] 49 (0, 0))) := by rw [hz]; exact sets5_cells _ _ _ _ _ HQ7.out
          have HP8 : Hid (z8.heap[pp]? = some (.cells #[.int .i64 x.unit, .int .i64 x.at0, .int .i64 x.mark, .slice p3 m3 q3, .slice p4 m4 q4] 49 (0, 0))) := by rw [hz]; exact (sets5_keep _ _ _ _ _ _ _ _ (by have := HNE.out; omega)).trans HP7.out
          refine hK.out _ _ ⟨⟨z8, HZ8.out⟩, rfl⟩ ?_
          clear hK K hz c0 c1 c2 c3 c4 cf
          refine mix_done (by kernel_rfl) ?_
          have HT : Hid (TwoAt x (.slice p3 m3 q3) (.slice p4 m4 q4) (.slice p5 m3 q5) (.slice p6 m4 q6) wr (.pointer (some ⟨pp, 0, none⟩)) (.pointer (some ⟨qq, 0, none⟩)) _) := ⟨pp, qq, rfl, rfl, HP8.out, HQ8.out, HZ8.out⟩
          go_wp2_with fail
          go_meet
          exact HT.out
      case rest =>
        obtain ⟨p, q, rfl, rfl, hp, hq, hbx⟩ := hcut
        have HBX : Hid (Below wr.heap.size wr wc) := hbx
        have HBXw : Hid (Below w.heap.size w wc) := HBw.out.trans (hbx.mono HBw.out.size)
        have HPP : Hid (wc.heap[p]? = some (.cells #[.int .i64 x.unit, .int .i64 x.at0, .int .i64 x.mark, .slice p3 m3 q3, .slice p4 m4 q4] 49 (0, 0))) := hp
        have HQQ : Hid (wc.heap[q]? = some (.cells #[.int .i64 x.unit, .int .i64 x.at0, .int .i64 x.mark, .slice p5 m3 q5, .slice p6 m4 q6] 49 (0, 0))) := hq
        obtain ⟨a0, a1, a2, a3, a4⟩ := cells5p hp
        obtain ⟨d0, d1, d2, d3, d4⟩ := cells5p hq
        have c9 := HCV.out wc x.slots _ _ HBXw.out HU.out.1 HU.out.2.2.1 HK.out.1
        clear hp hq hbx e0 e1 e2 e3 e4 g0 g1 g2 g3 g4 k3 l3
        go_wp2_with fail
        refine c9.mono ?_
        clear c9 a0 a1 a2 a3 a4 d0 d1 d2 d3 d4
        rintro e w3 ⟨rfl, hb3⟩
        have HB3 : Hid (Below wc.heap.size wc w3) := hb3
        have HB3w : Hid (Below w.heap.size w w3) := HBXw.out.trans (hb3.mono HBXw.out.size)
        obtain ⟨a0, a1, a2, a3, a4⟩ := cells5p ((hb3.block _ (heap_lt HPP.out)).trans HPP.out)
        obtain ⟨d0, d1, d2, d3, d4⟩ := cells5p ((hb3.block _ (heap_lt HQQ.out)).trans HQQ.out)
        have c9 := HCV.out w3 x.stack _ _ HB3w.out HU.out.2.1 HU.out.2.2.2 HK.out.2
        clear hb3
        go_wp2_with fail
        refine c9.mono ?_
        clear c9 a0 a1 a2 a3 a4 d0 d1 d2 d3 d4
        rintro e w4 ⟨rfl, hb4⟩
        have HB4 : Hid (Below w1.heap.size w1 w4) := HB.out.trans ((HBX.out.trans ((HB3.out.trans (hb4.mono HB3.out.size)).mono HBX.out.size)).mono HB.out.size)
        clear hb4
        go_wp2
        exact ⟨⟨i + 1, by omega, by go_num, HB4.out⟩, by simp [intOf]; omega⟩
    · obtain rfl : i = s.calls.length := by omega
      have hi2 : ¬ (s.calls.length : Int) < s.calls.length := by omega
      go_wp2
      go_ret
      exact ⟨rfl, HBw.out⟩
end Go.Proofs.YtbdgniiafdjmiaaGreatDoor
