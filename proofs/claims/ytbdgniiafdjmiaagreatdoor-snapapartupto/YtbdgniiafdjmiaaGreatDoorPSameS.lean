/- snap: the document's own look whether two states are the same, of any two. -/
import Derived.Test.YtbdgniiafdjmiaaGreatDoorPSameG
namespace Go.Proofs.YtbdgniiafdjmiaaGreatDoor
open Go.RowKit Go.Shelf

instance : DecidableEq Cal := fun a b => if h : a.unit = b.unit ∧ a.at0 = b.at0 ∧ a.mark = b.mark ∧ a.slots = b.slots ∧ a.stack = b.stack then isTrue (by cases a; cases b; simp_all) else isFalse (fun e => h (by rw [e]; exact ⟨rfl, rfl, rfl, rfl, rfl⟩))
/-- Two calls in blocks of their own. -/
def TwoAt2 (x y : Cal) (u3 u4 u5 u6 : Value) (w : World) (v6 v7 : Value) (wx : World) : Prop :=
  ∃ p q, v6 = .pointer (some ⟨p, 0, none⟩) ∧ v7 = .pointer (some ⟨q, 0, none⟩) ∧ wx.heap[p]? = some (.cells #[.int .i64 x.unit, .int .i64 x.at0, .int .i64 x.mark, u3, u4] 49 (0, 0)) ∧ wx.heap[q]? = some (.cells #[.int .i64 y.unit, .int .i64 y.at0, .int .i64 y.mark, u5, u6] 49 (0, 0)) ∧ Below w.heap.size w wx

set_option maxRecDepth 100000 in
set_option maxHeartbeats 8000000 in
theorem pSameS_any (S T : Nat → Prop) (s t : Sn) (b1 b2 b3 b4 : Option Addr) (n1 c1 n2 c2 n3 c3 n4 c4 : Nat) (w : World) (h1 : SnIn S w s (.slice b1 n1 c1) (.slice b2 n2 c2)) (h2 : SnIn T w t (.slice b3 n3 c3) (.slice b4 n4 c4)) (hsm : SmallS s) (htm : SmallS t) :
    Calls Tryz.prog 16 #[snV s (.slice b1 n1 c1) (.slice b2 n2 c2), snV t (.slice b3 n3 c3) (.slice b4 n4 c4)] w fun e w' => Says s t e ∧ Below w.heap.size w w' := by
  obtain ⟨w1, hw1, hb1, HZ1, hA, hB⟩ := box2 w (.cells #[.int .i64 s.pos, .int .i64 s.st, .int .i64 s.ft, .slice b1 n1 c1, .slice b2 n2 c2, .string (strB s.out), .int .i64 s.rd] 27) (.cells #[.int .i64 t.pos, .int .i64 t.st, .int .i64 t.ft, .slice b3 n3 c3, .slice b4 n4 c4, .string (strB t.out), .int .i64 t.rd] 27)
  have HW1 : Hid (w1 = (w.alloc (.cells #[.int .i64 s.pos, .int .i64 s.st, .int .i64 s.ft, .slice b1 n1 c1, .slice b2 n2 c2, .string (strB s.out), .int .i64 s.rd] 27)).alloc (.cells #[.int .i64 t.pos, .int .i64 t.st, .int .i64 t.ft, .slice b3 n3 c3, .slice b4 n4 c4, .string (strB t.out), .int .i64 t.rd] 27)) := hw1
  have HB1 : Hid (Below w.heap.size w w1) := hb1
  have hz := HZ1.out
  have HZS : Hid (w1.heap.size = w.heap.size + 2) := hz
  obtain ⟨hn1, H1⟩ : n1 = s.calls.length ∧ Hid (∀ i (hi : i < s.calls.length), ∃ b o, b1 = some ⟨b, o, none⟩ ∧ S b ∧ b < w.heap.size ∧ calE S w b (o + i * 5) s.calls[i]) := by obtain ⟨b, c, e, _, _, h⟩ := h1.calls.at; cases e; exact ⟨rfl, h⟩
  obtain ⟨hn3, H3⟩ : n3 = t.calls.length ∧ Hid (∀ i (hi : i < t.calls.length), ∃ b o, b3 = some ⟨b, o, none⟩ ∧ T b ∧ b < w.heap.size ∧ calE T w b (o + i * 5) t.calls[i]) := by obtain ⟨b, c, e, _, _, h⟩ := h2.calls.at; cases e; exact ⟨rfl, h⟩
  have HF : Hid (∀ W, Below w1.heap.size w1 W → W.cell? ⟨w.heap.size, 3, none⟩ = some (.slice b1 n1 c1) ∧ W.cell? ⟨w.heap.size + 1, 3, none⟩ = some (.slice b3 n3 c3)) := fun W hW =>
    ⟨(cells7 ((hW.block _ (by omega)).trans hA)).2.2.2.1, (cells7 ((hW.block _ (by omega)).trans hB)).2.2.2.1⟩
  have ch := psameObs_any S T s.heap t.heap (.slice b2 n2 c2) (.slice b4 n4 c4) w1 (h1.below hb1).heap (h2.below hb1).heap hsm.heap.2 htm.heap.2 (fun o ho => (hsm.heap.1 o ho).2.2) (fun o ho => (htm.heap.1 o ho).2.2)
  have HCV : Hid (∀ (W : World) (l m : List Vl) (u v : Value) (d : Bool), Below w.heap.size w W → valsR S w u l → valsR T w v m → l.length ≤ 1048576 → m.length ≤ 1048576 → d = decide (l = m) → Calls Tryz.prog 39 #[u, v] W fun e w' => e = .returned (.bool d) ∧ Below W.heap.size W w') := fun W l m u v d hW hu hv hl hm hd => psameValsD S T l m u v W (rowIn.kept hu (valE_keeps S) hW.size fun q _ hq => hW.block q hq) (rowIn.kept hv (valE_keeps T) hW.size fun q _ hq => hW.block q hq) hl hm d hd
  have HSM : Hid ((∀ c ∈ s.calls, c.slots.length ≤ 1048576 ∧ c.stack.length ≤ 1048576) ∧ ∀ c ∈ t.calls, c.slots.length ≤ 1048576 ∧ c.stack.length ≤ 1048576) := ⟨fun c hc => ⟨(hsm.calls.1 c hc).2.1.2, (hsm.calls.1 c hc).2.2.2⟩, fun c hc => ⟨(htm.calls.1 c hc).2.1.2, (htm.calls.1 c hc).2.2.2⟩⟩
  have hln : (s.calls.length : Int) ≤ 1048576 := by have := hsm.calls.2; omega
  have hln2 : (t.calls.length : Int) ≤ 1048576 := by have := htm.calls.2; omega
  obtain ⟨k0, k1, k2, k3, k4, k5, k6⟩ := cells7 hA
  obtain ⟨l0, l1, l2, l3, l4, l5, l6⟩ := cells7 hB
  subst hn1
  subst hn3
  clear hw1 hb1 HZ1 hz hA hB h1 h2 hsm htm
  by_cases j0 : s.pos = t.pos
  · by_cases j1 : s.st = t.st
    · by_cases j2 : s.ft = t.ft
      · by_cases j3 : s.out = t.out
        · by_cases j4 : s.rd = t.rd
          · have HFST : Hid (s.pos = t.pos ∧ s.st = t.st ∧ s.ft = t.ft ∧ s.out = t.out ∧ s.rd = t.rd) := ⟨j0, j1, j2, j3, j4⟩
            have a0 : (s.pos == t.pos) = true := by rw [j0]; simp
            have d0 : (s.pos != t.pos) = false := by rw [j0]; simp
            have a1 : (s.st == t.st) = true := by rw [j1]; simp
            have d1 : (s.st != t.st) = false := by rw [j1]; simp
            have a2 : (s.ft == t.ft) = true := by rw [j2]; simp
            have d2 : (s.ft != t.ft) = false := by rw [j2]; simp
            have a3 : (s.out == t.out) = true := by rw [j3]; simp
            have d3 : (s.out != t.out) = false := by rw [j3]; simp
            have a4 : (s.rd == t.rd) = true := by rw [j4]; simp
            have d4 : (s.rd != t.rd) = false := by rw [j4]; simp
            clear j0 j1 j2 j3 j4
            go_enter Tryz.func16, Tryz.ntmps16
            go_wp2_with fail
            rw [← HW1.out]
            refine ch.mono ?_
            clear ch k0 k1 k2 k3 k4 k5 k6 l0 l1 l2 l3 l4 l5 l6 a0 a1 a2 a3 a4 d0 d1 d2 d3 d4
            rintro e w2 ⟨⟨r, rfl, hr⟩, hb2⟩
            have HB2 : Hid (Below w1.heap.size w1 w2) := hb2
            have HBw2 : Hid (Below w.heap.size w w2) := HB1.out.trans (hb2.mono HB1.out.size)
            have HR : Hid (r = true ↔ s.heap = t.heap) := hr
            obtain ⟨k3, l3⟩ := HF.out w2 hb2
            clear hb2 hr
            cases r with
            | false =>
              have HNE : Hid (s ≠ t) := fun e => by have := HR.out.2 (by rw [e]); cases this
              go_wp2
              go_ret
              exact ⟨⟨false, rfl, by simp [HNE.out]⟩, HBw2.out⟩
            | true =>
              have HH : Hid (s.heap = t.heap) := HR.out.1 rfl
              by_cases hcl : s.calls.length = t.calls.length
              · have hclI : (s.calls.length : Int) = t.calls.length := by omega
                go_wp2
                clear k3 l3
                go_loopw [5] (fun vi wr => ∃ i : Nat, i ≤ s.calls.length ∧ vi = .int .i64 (i : Int) ∧ s.calls.take i = t.calls.take i ∧ Below w1.heap.size w1 wr) (fun vi _ => s.calls.length - (intOf vi).toNat)
                case atStart => exact ⟨0, Nat.zero_le _, rfl, by simp, HB2.out⟩
                case round =>
                  obtain ⟨i, hi, rfl, htk, hbr⟩ := hrel
                  have HB : Hid (Below w1.heap.size w1 wr) := hbr
                  have HTK : Hid (s.calls.take i = t.calls.take i) := htk
                  have HBw : Hid (Below w.heap.size w wr) := HB1.out.trans (hbr.mono HB1.out.size)
                  obtain ⟨k3, l3⟩ := HF.out wr hbr
                  clear hbr htk
                  by_cases hlt : i < s.calls.length
                  · have hi2 : (i : Int) < s.calls.length := by omega
                    have hi3 : (i : Int) < t.calls.length := by omega
                    have hltt : i < t.calls.length := by omega
                    obtain ⟨ba, oa, rfl, -, hla, hxa⟩ := H1.out i hlt
                    obtain ⟨bb, ob, rfl, -, hlb, hxb⟩ := H3.out i hltt
                    have hk := HSM.out.1 s.calls[i] (List.getElem_mem hlt)
                    have hk2 := HSM.out.2 t.calls[i] (List.getElem_mem hltt)
                    obtain ⟨x, hx⟩ : ∃ x, x = s.calls[i] := ⟨_, rfl⟩
                    obtain ⟨y, hy⟩ : ∃ y, y = t.calls[i] := ⟨_, rfl⟩
                    have HX : Hid (x = s.calls[i] ∧ y = t.calls[i]) := ⟨hx, hy⟩
                    have HNX : Hid (x ≠ y → s ≠ t) := fun h e => h (by
                      have h1 := HX.out.1
                      simp only [e] at h1
                      rw [h1]; exact HX.out.2.symm)
                    rw [← hx] at hxa hk
                    rw [← hy] at hxb hk2
                    have HK : Hid ((x.slots.length ≤ 1048576 ∧ x.stack.length ≤ 1048576) ∧ y.slots.length ≤ 1048576 ∧ y.stack.length ≤ 1048576) := ⟨hk, hk2⟩
                    obtain ⟨e0, e1, e2, ⟨u3, e3, hu3⟩, u4, e4, hu4⟩ := hxa
                    obtain ⟨g0, g1, g2, ⟨u5, g3, hu5⟩, u6, g4, hu6⟩ := hxb
                    have HU : Hid (valsR S w u3 x.slots ∧ valsR S w u4 x.stack ∧ valsR T w u5 y.slots ∧ valsR T w u6 y.stack) := ⟨hu3, hu4, hu5, hu6⟩
                    obtain ⟨p3, q3, rfl, -⟩ := hu3.at
                    obtain ⟨p4, q4, rfl, -⟩ := hu4.at
                    obtain ⟨p5, q5, rfl, -⟩ := hu5.at
                    obtain ⟨p6, q6, rfl, -⟩ := hu6.at
                    have hcc : ∀ q, wr.cell? ⟨ba, q, none⟩ = w.cell? ⟨ba, q, none⟩ := fun q => below_cell HBw.out hla
                    have hdd : ∀ q, wr.cell? ⟨bb, q, none⟩ = w.cell? ⟨bb, q, none⟩ := fun q => below_cell HBw.out hlb
                    rw [← hcc] at e0 e1 e2 e3 e4
                    rw [← hdd] at g0 g1 g2 g3 g4
                    clear hcc hdd hx hy hk hk2 hu3 hu4 hu5 hu6
                    obtain ⟨m3, hm3⟩ : ∃ m, m = x.slots.length := ⟨_, rfl⟩
                    obtain ⟨m4, hm4⟩ : ∃ m, m = x.stack.length := ⟨_, rfl⟩
                    obtain ⟨m5, hm5⟩ : ∃ m, m = y.slots.length := ⟨_, rfl⟩
                    obtain ⟨m6, hm6⟩ : ∃ m, m = y.stack.length := ⟨_, rfl⟩
                    rw [← hm3] at e3
                    rw [← hm4] at e4
                    rw [← hm5] at g3
                    rw [← hm6] at g4
                    rw [← hm3, ← hm4, ← hm5, ← hm6] at HU
                    clear hm3 hm4 hm5 hm6
                    go_upto_region 6 with fail
                    go_cut [6, 7] (fun v6 v7 wx => TwoAt2 x y (.slice p3 m3 q3) (.slice p4 m4 q4) (.slice p5 m5 q5) (.slice p6 m6 q6) wr v6 v7 wx)
                    case first =>
                      have hba : ba < wr.heap.size := Nat.lt_of_lt_of_le hla HBw.out.size
                      have hbb : bb < wr.heap.size := Nat.lt_of_lt_of_le hlb HBw.out.size
                      have hww : w.heap.size + 1 < wr.heap.size := by have := HB.out.size; have := HZS.out; omega
                      have x0 := cls_cell (n := wr.heap.size) e0 hba
                      have x1 := cls_cell (n := wr.heap.size) e1 hba
                      have x2 := cls_cell (n := wr.heap.size) e2 hba
                      have x3 := cls_cell (n := wr.heap.size) e3 hba
                      have x4 := cls_cell (n := wr.heap.size) e4 hba
                      have y0 := cls_cell (n := wr.heap.size) g0 hbb
                      have y1 := cls_cell (n := wr.heap.size) g1 hbb
                      have y2 := cls_cell (n := wr.heap.size) g2 hbb
                      have y3 := cls_cell (n := wr.heap.size) g3 hbb
                      have y4 := cls_cell (n := wr.heap.size) g4 hbb
                      have hw0 : w.heap.size < wr.heap.size := by omega
                      have t3 := cls_cell (n := wr.heap.size) k3 hw0
                      have t4 := cls_cell (n := wr.heap.size) l3 hww
                      clear e0 e1 e2 e3 e4 g0 g1 g2 g3 g4 k3 l3
                      refine mix_begin (n := 14) (S := fun w' => ∃ c : Cls wr.heap.size wr, w' = c.1) (by kernel_rfl) rfl rfl ?_
                      obtain ⟨wd, hwd⟩ : ∃ wd, wd = wr.drew := ⟨_, rfl⟩
                      rw [← hwd]
                      have HZ0 : Hid (Below wr.heap.size wr wd) := by rw [hwd]; exact (Below.refl _ _).drew
                      clear hwd
                      refine mix_seg (fuel := 4) (fuel' := 14) (idx := [0, 1, 2, 3, 4, 5, 6, 7, 8, 9]) (by kernel_rfl) rfl rfl rfl (fun _ _ _ _ _ h => h) ⟨⟨wd, HZ0.out⟩, rfl⟩ ?_
                      show wpQuiet _ _ _ _ [_, _, _, _, _, _, _, _, _, _] _
                      iterate 10 (go_big_quiet_step (fail))
                      refine wpQuiet_nil ?_
                      refine cmix_two (fuel := 3) (fuel' := 4) (i := 10) (k := 11) rfl rfl (by kernel_rfl) rfl rfl rfl (by rfl) (by rfl) ?_ ?_
                      · intro K hK
                        go_simp
                        obtain ⟨z1, hz, hb, -, hg⟩ := box1 wd (.cells #[.int .i64 0, .int .i64 0, .int .i64 0, .slice none 0 0, .slice none 0 0] 49)
                        rw [← hz]
                        obtain ⟨pp, hbe⟩ : ∃ b, b = (World.heap wd).size := ⟨_, rfl⟩
                        have HPE1 : Hid ((World.heap wd).size = pp) := hbe.symm
                        rw [← hbe] at hg ⊢
                        have HZ1 : Hid (Below wr.heap.size wr z1) := HZ0.out.trans (hb.mono HZ0.out.size)
                        have HP1 : Hid (z1.heap[pp]? = some (.cells #[.int .i64 0, .int .i64 0, .int .i64 0, .slice none 0 0, .slice none 0 0] 49 (0, 0))) := hg
                        have HPL : Hid (wr.heap.size ≤ pp) := by show _ ≤ _; rw [hbe]; exact HZ0.out.size
                        refine hK.out _ _ ⟨⟨z1, HZ1.out⟩, rfl⟩ ?_
                        clear hK K hz hb hg hbe
                        refine mix_loud (fuel := 2) (fuel' := 3) (i := 11) rfl (by kernel_rfl) rfl rfl (by rfl) ?_
                        intro K hK
                        go_simp
                        obtain ⟨z2, hz, hb, -, hg⟩ := box1 z1 (.cells #[.int .i64 0, .int .i64 0, .int .i64 0, .slice none 0 0, .slice none 0 0] 49)
                        rw [← hz]
                        obtain ⟨qq, hbe⟩ : ∃ b, b = (World.heap z1).size := ⟨_, rfl⟩
                        have HQE2 : Hid ((World.heap z1).size = qq) := hbe.symm
                        rw [← hbe] at hg ⊢
                        have HZ2 : Hid (Below wr.heap.size wr z2) := HZ1.out.trans (hb.mono HZ1.out.size)
                        have HQ2 : Hid (z2.heap[qq]? = some (.cells #[.int .i64 0, .int .i64 0, .int .i64 0, .slice none 0 0, .slice none 0 0] 49 (0, 0))) := hg
                        have HQL : Hid (wr.heap.size ≤ qq) := by show _ ≤ _; rw [hbe]; exact HZ1.out.size
                        have HP2 : Hid (z2.heap[pp]? = some (.cells #[.int .i64 0, .int .i64 0, .int .i64 0, .slice none 0 0, .slice none 0 0] 49 (0, 0))) := (hb.block _ (heap_lt HP1.out)).trans HP1.out
                        have HNE : Hid (pp ≠ qq) := by have := heap_lt HP1.out; show _ ≠ _; rw [hbe]; omega
                        refine hK.out _ _ ⟨⟨z2, HZ2.out⟩, rfl⟩ ?_
                        clear hK K hz hb hg hbe
                        refine mix_loud (fuel := 1) (fuel' := 2) (i := 12) rfl (by kernel_rfl) rfl rfl (by rfl) ?_
                        obtain ⟨c0, c1, c2, c3, c4⟩ := cells5p HP2.out
                        have cf := cfrozen HP2.out
                        intro K hK
                        go_simp
                        obtain ⟨z3, hz⟩ : ∃ zz, zz = (((((z2.setCell ⟨pp, 0, none⟩ (.int .i64 x.unit)).setCell ⟨pp, 1, none⟩ (.int .i64 x.at0)).setCell ⟨pp, 2, none⟩ (.int .i64 x.mark)).setCell ⟨pp, 3, none⟩ (.slice p3 m3 q3)).setCell ⟨pp, 4, none⟩ (.slice p4 m4 q4)) := ⟨_, rfl⟩
                        rw [← hz]
                        have HZ3 : Hid (Below wr.heap.size wr z3) := by rw [hz]; exact sets5_below _ _ _ _ _ HZ2.out HPL.out
                        have HP3 : Hid (z3.heap[pp]? = some (.cells #[.int .i64 x.unit, .int .i64 x.at0, .int .i64 x.mark, .slice p3 m3 q3, .slice p4 m4 q4] 49 (0, 0))) := by rw [hz]; exact sets5_cells _ _ _ _ _ HP2.out
                        have HQ3 : Hid (z3.heap[qq]? = some (.cells #[.int .i64 0, .int .i64 0, .int .i64 0, .slice none 0 0, .slice none 0 0] 49 (0, 0))) := by rw [hz]; exact (sets5_keep _ _ _ _ _ _ _ _ (by have := HNE.out; omega)).trans HQ2.out
                        refine hK.out _ _ ⟨⟨z3, HZ3.out⟩, rfl⟩ ?_
                        clear hK K hz c0 c1 c2 c3 c4 cf
                        refine mix_loud (fuel := 0) (fuel' := 1) (i := 13) rfl (by kernel_rfl) rfl rfl (by rfl) ?_
                        obtain ⟨c0, c1, c2, c3, c4⟩ := cells5p HQ3.out
                        have cf := cfrozen HQ3.out
                        intro K hK
                        go_simp
                        obtain ⟨z4, hz⟩ : ∃ zz, zz = (((((z3.setCell ⟨qq, 0, none⟩ (.int .i64 y.unit)).setCell ⟨qq, 1, none⟩ (.int .i64 y.at0)).setCell ⟨qq, 2, none⟩ (.int .i64 y.mark)).setCell ⟨qq, 3, none⟩ (.slice p5 m5 q5)).setCell ⟨qq, 4, none⟩ (.slice p6 m6 q6)) := ⟨_, rfl⟩
                        rw [← hz]
                        have HZ4 : Hid (Below wr.heap.size wr z4) := by rw [hz]; exact sets5_below _ _ _ _ _ HZ3.out HQL.out
                        have HQ4 : Hid (z4.heap[qq]? = some (.cells #[.int .i64 y.unit, .int .i64 y.at0, .int .i64 y.mark, .slice p5 m5 q5, .slice p6 m6 q6] 49 (0, 0))) := by rw [hz]; exact sets5_cells _ _ _ _ _ HQ3.out
                        have HP4 : Hid (z4.heap[pp]? = some (.cells #[.int .i64 x.unit, .int .i64 x.at0, .int .i64 x.mark, .slice p3 m3 q3, .slice p4 m4 q4] 49 (0, 0))) := by rw [hz]; exact (sets5_keep _ _ _ _ _ _ _ _ (by have := HNE.out; omega)).trans HP3.out
                        refine hK.out _ _ ⟨⟨z4, HZ4.out⟩, rfl⟩ ?_
                        clear hK K hz c0 c1 c2 c3 c4 cf
                        refine mix_done (by kernel_rfl) ?_
                        have HT : Hid (TwoAt2 x y (.slice p3 m3 q3) (.slice p4 m4 q4) (.slice p5 m5 q5) (.slice p6 m6 q6) wr (.pointer (some ⟨pp, 0, none⟩)) (.pointer (some ⟨qq, 0, none⟩)) _) := ⟨pp, qq, rfl, rfl, HP4.out, HQ4.out, HZ4.out⟩
                        go_wp2_with fail
                        go_meet
                        exact HT.out
                      · intro K hK
                        go_simp
                        obtain ⟨z5, hz, hb, -, hg⟩ := box1 wd (.cells #[.int .i64 0, .int .i64 0, .int .i64 0, .slice none 0 0, .slice none 0 0] 49)
                        rw [← hz]
                        obtain ⟨qq, hbe⟩ : ∃ b, b = (World.heap wd).size := ⟨_, rfl⟩
                        have HQE5 : Hid ((World.heap wd).size = qq) := hbe.symm
                        rw [← hbe] at hg ⊢
                        have HZ5 : Hid (Below wr.heap.size wr z5) := HZ0.out.trans (hb.mono HZ0.out.size)
                        have HQ5 : Hid (z5.heap[qq]? = some (.cells #[.int .i64 0, .int .i64 0, .int .i64 0, .slice none 0 0, .slice none 0 0] 49 (0, 0))) := hg
                        have HQL : Hid (wr.heap.size ≤ qq) := by show _ ≤ _; rw [hbe]; exact HZ0.out.size
                        refine hK.out _ _ ⟨⟨z5, HZ5.out⟩, rfl⟩ ?_
                        clear hK K hz hb hg hbe
                        refine mix_loud (fuel := 2) (fuel' := 3) (i := 10) rfl (by kernel_rfl) rfl rfl (by rfl) ?_
                        intro K hK
                        go_simp
                        obtain ⟨z6, hz, hb, -, hg⟩ := box1 z5 (.cells #[.int .i64 0, .int .i64 0, .int .i64 0, .slice none 0 0, .slice none 0 0] 49)
                        rw [← hz]
                        obtain ⟨pp, hbe⟩ : ∃ b, b = (World.heap z5).size := ⟨_, rfl⟩
                        have HPE6 : Hid ((World.heap z5).size = pp) := hbe.symm
                        rw [← hbe] at hg ⊢
                        have HZ6 : Hid (Below wr.heap.size wr z6) := HZ5.out.trans (hb.mono HZ5.out.size)
                        have HP6 : Hid (z6.heap[pp]? = some (.cells #[.int .i64 0, .int .i64 0, .int .i64 0, .slice none 0 0, .slice none 0 0] 49 (0, 0))) := hg
                        have HPL : Hid (wr.heap.size ≤ pp) := by show _ ≤ _; rw [hbe]; exact HZ5.out.size
                        have HQ6 : Hid (z6.heap[qq]? = some (.cells #[.int .i64 0, .int .i64 0, .int .i64 0, .slice none 0 0, .slice none 0 0] 49 (0, 0))) := (hb.block _ (heap_lt HQ5.out)).trans HQ5.out
                        have HNE : Hid (qq ≠ pp) := by have := heap_lt HQ5.out; show _ ≠ _; rw [hbe]; omega
                        refine hK.out _ _ ⟨⟨z6, HZ6.out⟩, rfl⟩ ?_
                        clear hK K hz hb hg hbe
                        refine mix_loud (fuel := 1) (fuel' := 2) (i := 12) rfl (by kernel_rfl) rfl rfl (by rfl) ?_
                        obtain ⟨c0, c1, c2, c3, c4⟩ := cells5p HP6.out
                        have cf := cfrozen HP6.out
                        intro K hK
                        go_simp
                        obtain ⟨z7, hz⟩ : ∃ zz, zz = (((((z6.setCell ⟨pp, 0, none⟩ (.int .i64 x.unit)).setCell ⟨pp, 1, none⟩ (.int .i64 x.at0)).setCell ⟨pp, 2, none⟩ (.int .i64 x.mark)).setCell ⟨pp, 3, none⟩ (.slice p3 m3 q3)).setCell ⟨pp, 4, none⟩ (.slice p4 m4 q4)) := ⟨_, rfl⟩
                        rw [← hz]
                        have HZ7 : Hid (Below wr.heap.size wr z7) := by rw [hz]; exact sets5_below _ _ _ _ _ HZ6.out HPL.out
                        have HP7 : Hid (z7.heap[pp]? = some (.cells #[.int .i64 x.unit, .int .i64 x.at0, .int .i64 x.mark, .slice p3 m3 q3, .slice p4 m4 q4] 49 (0, 0))) := by rw [hz]; exact sets5_cells _ _ _ _ _ HP6.out
                        have HQ7 : Hid (z7.heap[qq]? = some (.cells #[.int .i64 0, .int .i64 0, .int .i64 0, .slice none 0 0, .slice none 0 0] 49 (0, 0))) := by rw [hz]; exact (sets5_keep _ _ _ _ _ _ _ _ (by have := HNE.out; omega)).trans HQ6.out
                        refine hK.out _ _ ⟨⟨z7, HZ7.out⟩, rfl⟩ ?_
                        clear hK K hz c0 c1 c2 c3 c4 cf
                        refine mix_loud (fuel := 0) (fuel' := 1) (i := 13) rfl (by kernel_rfl) rfl rfl (by rfl) ?_
                        obtain ⟨c0, c1, c2, c3, c4⟩ := cells5p HQ7.out
                        have cf := cfrozen HQ7.out
                        intro K hK
                        go_simp
                        obtain ⟨z8, hz⟩ : ∃ zz, zz = (((((z7.setCell ⟨qq, 0, none⟩ (.int .i64 y.unit)).setCell ⟨qq, 1, none⟩ (.int .i64 y.at0)).setCell ⟨qq, 2, none⟩ (.int .i64 y.mark)).setCell ⟨qq, 3, none⟩ (.slice p5 m5 q5)).setCell ⟨qq, 4, none⟩ (.slice p6 m6 q6)) := ⟨_, rfl⟩
                        rw [← hz]
                        have HZ8 : Hid (Below wr.heap.size wr z8) := by rw [hz]; exact sets5_below _ _ _ _ _ HZ7.out HQL.out
                        have HQ8 : Hid (z8.heap[qq]? = some (.cells #[.int .i64 y.unit, .int .i64 y.at0, .int .i64 y.mark, .slice p5 m5 q5, .slice p6 m6 q6] 49 (0, 0))) := by rw [hz]; exact sets5_cells _ _ _ _ _ HQ7.out
                        have HP8 : Hid (z8.heap[pp]? = some (.cells #[.int .i64 x.unit, .int .i64 x.at0, .int .i64 x.mark, .slice p3 m3 q3, .slice p4 m4 q4] 49 (0, 0))) := by rw [hz]; exact (sets5_keep _ _ _ _ _ _ _ _ (by have := HNE.out; omega)).trans HP7.out
                        refine hK.out _ _ ⟨⟨z8, HZ8.out⟩, rfl⟩ ?_
                        clear hK K hz c0 c1 c2 c3 c4 cf
                        refine mix_done (by kernel_rfl) ?_
                        have HT : Hid (TwoAt2 x y (.slice p3 m3 q3) (.slice p4 m4 q4) (.slice p5 m5 q5) (.slice p6 m6 q6) wr (.pointer (some ⟨pp, 0, none⟩)) (.pointer (some ⟨qq, 0, none⟩)) _) := ⟨pp, qq, rfl, rfl, HP8.out, HQ8.out, HZ8.out⟩
                        go_wp2_with fail
                        go_meet
                        exact HT.out
                    case rest =>
                      obtain ⟨p, q, rfl, rfl, hp, hq, hbx⟩ := hcut
                      have HBX : Hid (Below wr.heap.size wr wc) := hbx
                      have HBXw : Hid (Below w.heap.size w wc) := HBw.out.trans (hbx.mono HBw.out.size)
                      have HPP : Hid (wc.heap[p]? = some (.cells #[.int .i64 x.unit, .int .i64 x.at0, .int .i64 x.mark, .slice p3 m3 q3, .slice p4 m4 q4] 49 (0, 0))) := hp
                      have HQQ : Hid (wc.heap[q]? = some (.cells #[.int .i64 y.unit, .int .i64 y.at0, .int .i64 y.mark, .slice p5 m5 q5, .slice p6 m6 q6] 49 (0, 0))) := hq
                      obtain ⟨a0, a1, a2, a3, a4⟩ := cells5p hp
                      obtain ⟨d0, d1, d2, d3, d4⟩ := cells5p hq
                      obtain ⟨D3, hD3⟩ : ∃ d, d = decide (x.slots = y.slots) := ⟨_, rfl⟩
                      obtain ⟨D4, hD4⟩ : ∃ d, d = decide (x.stack = y.stack) := ⟨_, rfl⟩
                      have c9 := HCV.out wc x.slots y.slots _ _ D3 HBXw.out HU.out.1 HU.out.2.2.1 HK.out.1.1 HK.out.2.1 hD3
                      have C4 : Hid (∀ W, Below w.heap.size w W → Calls Tryz.prog 39 #[.slice p4 m4 q4, .slice p6 m6 q6] W fun e w' => e = .returned (.bool D4) ∧ Below W.heap.size W w') := fun W hW => HCV.out W x.stack y.stack _ _ D4 hW HU.out.2.1 HU.out.2.2.2 HK.out.1.2 HK.out.2.2 hD4
                      have HD3 : Hid (D3 = decide (x.slots = y.slots)) := hD3
                      have HD4 : Hid (D4 = decide (x.stack = y.stack)) := hD4
                      clear hp hq hbx e0 e1 e2 e3 e4 g0 g1 g2 g3 g4 k3 l3 hD3 hD4
                      by_cases hu : x.unit = y.unit
                      · by_cases ha : x.at0 = y.at0
                        · by_cases hm : x.mark = y.mark
                          · rw [← hu] at d0
                            rw [← ha] at d1
                            rw [← hm] at d2
                            have HEQ : Hid (x.unit = y.unit ∧ x.at0 = y.at0 ∧ x.mark = y.mark) := ⟨hu, ha, hm⟩
                            clear hu ha hm
                            go_wp2_with fail
                            refine c9.mono ?_
                            clear c9 a0 a1 a2 a3 a4 d0 d1 d2 d3 d4
                            rintro e w3 ⟨rfl, hb3⟩
                            have HB3 : Hid (Below wc.heap.size wc w3) := hb3
                            have HB3w : Hid (Below w.heap.size w w3) := HBXw.out.trans (hb3.mono HBXw.out.size)
                            obtain ⟨a0, a1, a2, a3, a4⟩ := cells5p ((hb3.block _ (heap_lt HPP.out)).trans HPP.out)
                            obtain ⟨d0, d1, d2, d3, d4⟩ := cells5p ((hb3.block _ (heap_lt HQQ.out)).trans HQQ.out)
                            clear hb3
                            cases D3 with
                            | false =>
                              have HNE : Hid (s ≠ t) := HNX.out fun e => of_decide_eq_false HD3.out.symm (by rw [e])
                              go_wp2
                              go_ret
                              exact ⟨⟨false, rfl, by simp [HNE.out]⟩, HB3w.out⟩
                            | true =>
                              have c9 := C4.out w3 HB3w.out
                              go_wp2_with fail
                              refine c9.mono ?_
                              clear c9 a0 a1 a2 a3 a4 d0 d1 d2 d3 d4
                              rintro e w4 ⟨rfl, hb4⟩
                              have HB4 : Hid (Below w1.heap.size w1 w4) := HB.out.trans ((HBX.out.trans ((HB3.out.trans (hb4.mono HB3.out.size)).mono HBX.out.size)).mono HB.out.size)
                              have HB4w : Hid (Below w.heap.size w w4) := HB3w.out.trans (hb4.mono HB3w.out.size)
                              clear hb4
                              cases D4 with
                              | false =>
                                have HNE : Hid (s ≠ t) := HNX.out fun e => of_decide_eq_false HD4.out.symm (by rw [e])
                                go_wp2
                                go_ret
                                exact ⟨⟨false, rfl, by simp [HNE.out]⟩, HB4w.out⟩
                              | true =>
                                have HTN : Hid (s.calls.take (i + 1) = t.calls.take (i + 1)) := by
                                  have h0 : x = y := by
                                    obtain ⟨z0, z1, z2⟩ := HEQ.out
                                    have z3 : x.slots = y.slots := of_decide_eq_true HD3.out.symm
                                    have z4 : x.stack = y.stack := of_decide_eq_true HD4.out.symm
                                    cases x
                                    cases y
                                    simp only at z0 z1 z2 z3 z4
                                    rw [z0, z1, z2, z3, z4]
                                  show _ = _
                                  rw [List.take_succ_eq_append_getElem hlt, List.take_succ_eq_append_getElem hltt, HTK.out, ← HX.out.1, ← HX.out.2, h0]
                                go_wp2
                                exact ⟨⟨i + 1, by omega, by go_num, HTN.out, HB4.out⟩, by simp [intOf]; omega⟩
                          · have hbq : (x.mark == y.mark) = false := by rw [beq_eq_false_iff_ne]; exact hm
                            have hbn : (x.mark != y.mark) = true := by simp [bne, hbq]
                            have HNE : Hid (s ≠ t) := HNX.out fun e => hm (by rw [e])
                            rw [← hu] at d0
                            rw [← ha] at d1
                            clear c9
                            go_wp2
                            go_ret
                            exact ⟨⟨false, rfl, by simp [HNE.out]⟩, HBXw.out⟩
                        · have hbq : (x.at0 == y.at0) = false := by rw [beq_eq_false_iff_ne]; exact ha
                          have hbn : (x.at0 != y.at0) = true := by simp [bne, hbq]
                          have HNE : Hid (s ≠ t) := HNX.out fun e => ha (by rw [e])
                          rw [← hu] at d0
                          clear c9
                          go_wp2
                          go_ret
                          exact ⟨⟨false, rfl, by simp [HNE.out]⟩, HBXw.out⟩
                      · have hbq : (x.unit == y.unit) = false := by rw [beq_eq_false_iff_ne]; exact hu
                        have hbn : (x.unit != y.unit) = true := by simp [bne, hbq]
                        have HNE : Hid (s ≠ t) := HNX.out fun e => hu (by rw [e])
                        clear c9
                        go_wp2
                        go_ret
                        exact ⟨⟨false, rfl, by simp [HNE.out]⟩, HBXw.out⟩
                  · obtain rfl : i = s.calls.length := by omega
                    have hi2 : ¬ (s.calls.length : Int) < s.calls.length := by omega
                    have HE : Hid (s = t) := by
                      have h9 : s.calls = t.calls := by
                        have := HTK.out
                        rw [List.take_length, hcl, List.take_length] at this
                        exact this
                      obtain ⟨z0, z1, z2, z5, z6⟩ := HFST.out
                      have z4 := HH.out
                      cases s
                      cases t
                      simp only at z0 z1 z2 z4 z5 z6 h9
                      show _ = _
                      rw [z0, z1, z2, z4, z5, z6, h9]
                    go_wp2
                    go_ret
                    exact ⟨⟨true, rfl, by simp [HE.out]⟩, HBw.out⟩
              · have hclI : ¬ (s.calls.length : Int) = t.calls.length := by omega
                have hclB : ((s.calls.length : Int) == t.calls.length) = false := by rw [beq_eq_false_iff_ne]; exact hclI
                have hclN : ((s.calls.length : Int) != t.calls.length) = true := by simp [bne, hclB]
                have HNE : Hid (s ≠ t) := fun e => hcl (by rw [e])
                go_wp2
                go_ret
                exact ⟨⟨false, rfl, by simp [HNE.out]⟩, HBw2.out⟩
          · have hbb : (s.rd == t.rd) = false := by rw [beq_eq_false_iff_ne]; exact j4
            have hnn : (s.rd != t.rd) = true := by simp [bne, hbb]
            have a0 : (s.pos == t.pos) = true := by rw [j0]; simp
            have d0 : (s.pos != t.pos) = false := by rw [j0]; simp
            clear j0
            have a1 : (s.st == t.st) = true := by rw [j1]; simp
            have d1 : (s.st != t.st) = false := by rw [j1]; simp
            clear j1
            have a2 : (s.ft == t.ft) = true := by rw [j2]; simp
            have d2 : (s.ft != t.ft) = false := by rw [j2]; simp
            clear j2
            have a3 : (s.out == t.out) = true := by rw [j3]; simp
            have d3 : (s.out != t.out) = false := by rw [j3]; simp
            clear j3
            have HNE : Hid (s ≠ t) := fun e => j4 (by rw [e])
            clear ch
            go_enter Tryz.func16, Tryz.ntmps16
            go_wp2
            go_ret
            refine ⟨⟨false, rfl, by simp [HNE.out]⟩, ?_⟩
            have h9 := HB1.out
            rw [HW1.out] at h9
            exact h9
        · have hbb : (s.out == t.out) = false := by rw [beq_eq_false_iff_ne]; exact j3
          have hnn : (s.out != t.out) = true := by simp [bne, hbb]
          have a0 : (s.pos == t.pos) = true := by rw [j0]; simp
          have d0 : (s.pos != t.pos) = false := by rw [j0]; simp
          clear j0
          have a1 : (s.st == t.st) = true := by rw [j1]; simp
          have d1 : (s.st != t.st) = false := by rw [j1]; simp
          clear j1
          have a2 : (s.ft == t.ft) = true := by rw [j2]; simp
          have d2 : (s.ft != t.ft) = false := by rw [j2]; simp
          clear j2
          have HNE : Hid (s ≠ t) := fun e => j3 (by rw [e])
          clear ch
          go_enter Tryz.func16, Tryz.ntmps16
          go_wp2
          go_ret
          refine ⟨⟨false, rfl, by simp [HNE.out]⟩, ?_⟩
          have h9 := HB1.out
          rw [HW1.out] at h9
          exact h9
      · have hbb : (s.ft == t.ft) = false := by rw [beq_eq_false_iff_ne]; exact j2
        have hnn : (s.ft != t.ft) = true := by simp [bne, hbb]
        have a0 : (s.pos == t.pos) = true := by rw [j0]; simp
        have d0 : (s.pos != t.pos) = false := by rw [j0]; simp
        clear j0
        have a1 : (s.st == t.st) = true := by rw [j1]; simp
        have d1 : (s.st != t.st) = false := by rw [j1]; simp
        clear j1
        have HNE : Hid (s ≠ t) := fun e => j2 (by rw [e])
        clear ch
        go_enter Tryz.func16, Tryz.ntmps16
        go_wp2
        go_ret
        refine ⟨⟨false, rfl, by simp [HNE.out]⟩, ?_⟩
        have h9 := HB1.out
        rw [HW1.out] at h9
        exact h9
    · have hbb : (s.st == t.st) = false := by rw [beq_eq_false_iff_ne]; exact j1
      have hnn : (s.st != t.st) = true := by simp [bne, hbb]
      have a0 : (s.pos == t.pos) = true := by rw [j0]; simp
      have d0 : (s.pos != t.pos) = false := by rw [j0]; simp
      clear j0
      have HNE : Hid (s ≠ t) := fun e => j1 (by rw [e])
      clear ch
      go_enter Tryz.func16, Tryz.ntmps16
      go_wp2
      go_ret
      refine ⟨⟨false, rfl, by simp [HNE.out]⟩, ?_⟩
      have h9 := HB1.out
      rw [HW1.out] at h9
      exact h9
  · have hbb : (s.pos == t.pos) = false := by rw [beq_eq_false_iff_ne]; exact j0
    have hnn : (s.pos != t.pos) = true := by simp [bne, hbb]
    have HNE : Hid (s ≠ t) := fun e => j0 (by rw [e])
    clear ch
    go_enter Tryz.func16, Tryz.ntmps16
    go_wp2
    go_ret
    refine ⟨⟨false, rfl, by simp [HNE.out]⟩, ?_⟩
    have h9 := HB1.out
    rw [HW1.out] at h9
    exact h9
end Go.Proofs.YtbdgniiafdjmiaaGreatDoor
