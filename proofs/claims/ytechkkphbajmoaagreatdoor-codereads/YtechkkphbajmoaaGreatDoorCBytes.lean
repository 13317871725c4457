/- code: a code's bytes. -/
import Derived.Test.YtechkkphbajmoaaGreatDoorMC
import Derived.Test.YtechkkphbajmoaaGreatDoorMD
namespace Go.Proofs.YtechkkphbajmoaaGreatDoor
open Go.RowKit Go.Shelf

def cdB (c : Cd) : List UInt8 := allB txB c.strs ++ (allB shB c.shapes ++ (allB unB c.units ++ numB c.main))
/-- All numbers of a code are such as an int is. -/
structure IntsC (c : Cd) : Prop where
  main : I64 c.main
  unit : ∀ u ∈ c.units, I64 u.params ∧ I64 u.slots ∧ I64 u.stack
  ins : ∀ u ∈ c.units, ∀ y ∈ u.ins, I64 y.op ∧ I64 y.a
  var : ∀ u ∈ c.units, ∀ y ∈ u.vars, I64 y.slot ∧ I64 y.lo ∧ I64 y.hi
/-- What Bytes answers. -/
def BytesRet (N : Nat) (c : Cd) (e : Ending) (w' : World) : Prop :=
  (rightC c = false ∧ e = .returned (.tuple #[.slice none 0 0, .int .i64 2])) ∨ (rightC c = true ∧ ∃ v, e = .returned (.tuple #[v, .int .i64 0]) ∧ w'.ownsRow N 5 1 v (cdB c).length (Lib.byteCells (cdB c)))

set_option maxRecDepth 100000 in
set_option maxHeartbeats 4000000 in
theorem cBytes_any (S : Nat → Prop) (c : Cd) (bs bh bu : Option Addr) (ns cs nh ch nu cu : Nat) (w : World) (hin : CodeIn S w c (.slice bs ns cs) (.slice bh nh ch) (.slice bu nu cu)) (hS : ∀ q, S q → q < w.heap.size) (hsm : SmallC c) (hints : IntsC c) (hb : (cdB c).length ≤ 140737488355328) (ht : TabsP w) (hot : OpT w) :
    Calls Tryz.prog 13 #[cdV (.slice bs ns cs) (.slice bh nh ch) (.slice bu nu cu) c.main] w fun e w' => BytesRet w.heap.size c e w' ∧ Below w.heap.size w w' := by
  obtain ⟨m, hm⟩ : ∃ m, m = c.main := ⟨_, rfl⟩
  rw [← hm]
  obtain ⟨w2, hw2, hb2, HZ2, h0⟩ := box1 w (.cells #[.slice bs ns cs, .slice bh nh ch, .slice bu nu cu, .int .i64 m] 26)
  have HW2 : Hid (w2 = w.alloc (.cells #[.slice bs ns cs, .slice bh nh ch, .slice bu nu cu, .int .i64 m] 26)) := hw2
  have HB2 : Hid (Below w.heap.size w w2) := hb2
  have HBX : Hid (w2.heap[w.heap.size]? = some (.cells #[.slice bs ns cs, .slice bh nh ch, .slice bu nu cu, .int .i64 m] 26 (0, 0))) := h0
  have HLT : Hid (w.heap.size < w2.heap.size) := by have := HZ2.out; show _ < _; omega
  have c1 : Calls Tryz.prog 22 #[.agg #[.slice bs ns cs, .slice bh nh ch, .slice bu nu cu, .int .i64 m]] w2 fun e w' => e = .returned (.bool (rightC c)) ∧ Below w2.heap.size w2 w' := by
    rw [hm]; exact cIsRight_any S c bs bh bu ns cs nh ch nu cu w2 (hin.below hb2) hsm (ht.below hb2 (Nat.le_refl _)) (hot.below hb2 (Nat.le_refl _))
  obtain ⟨R, hR⟩ : ∃ R, R = rightC c := ⟨_, rfl⟩
  have HRE : Hid (R = rightC c) := hR
  rw [← hR] at c1
  have HCIN : Hid (∀ W, Below w.heap.size w W → CodeIn S W c (.slice bs ns cs) (.slice bh nh ch) (.slice bu nu cu)) := fun W hW => hin.below hW
  have HSB : Hid (∀ q, S q → q < w.heap.size) := hS
  have HSM : Hid (SmallC c) := hsm
  have HI : Hid (IntsC c) := hints
  have HMM : Hid (m = c.main) := hm
  have HBb : Hid ((allB txB c.strs).length + (allB shB c.shapes).length + (allB unB c.units).length + (numB m).length ≤ 140737488355328) := by
    have h1 := hb
    unfold cdB at h1
    rw [← hm] at h1
    simp only [List.length_append] at h1
    show _ ≤ _
    omega
  have cn : ∀ W, Calls Tryz.prog 36 #[.int .i64 m] W fun e w' => ∃ v, e = .returned v ∧ w'.ownsRow W.heap.size 5 1 v (numB m).length (Lib.byteCells (numB m)) ∧ Below W.heap.size W w' := fun W => cNumber_any m (by rw [hm]; exact hints.main.1) (by rw [hm]; exact hints.main.2) W
  have CN : Hid (∀ W, Calls Tryz.prog 36 #[.int .i64 m] W fun e w' => ∃ v, e = .returned v ∧ w'.ownsRow W.heap.size 5 1 v (numB m).length (Lib.byteCells (numB m)) ∧ Below W.heap.size W w') := cn
  clear hw2 hb2 h0 hR hin hS hsm hints hb ht hot HZ2 hm cn
  cases R with
  | false =>
    go_enter Tryz.func13, Tryz.ntmps13
    go_wp2_with fail
    rw [← HW2.out]
    refine c1.mono ?_
    clear c1
    rintro e v1 ⟨rfl, hb1⟩
    have HV1 : Hid (Below w.heap.size w v1) := HB2.out.trans (hb1.mono HB2.out.size)
    clear hb1
    go_wp2
    go_ret2
    exact ⟨.inl ⟨HRE.out.symm, rfl⟩, HV1.out⟩
  | true =>
    obtain ⟨N, hN⟩ : ∃ N, N = w.heap.size := ⟨_, rfl⟩
    have HN : Hid (N = w.heap.size) := hN
    go_enter Tryz.func13, Tryz.ntmps13
    go_wp2_with fail
    rw [← HW2.out]
    refine c1.mono ?_
    clear c1 hN
    rintro e v1 ⟨rfl, hb1⟩
    have HX1 : Hid (v1.heap[w.heap.size]? = some (.cells #[.slice bs ns cs, .slice bh nh ch, .slice bu nu cu, .int .i64 m] 26 (0, 0))) := (hb1.block _ HLT.out).trans HBX.out
    have HV1 : Hid (Below w.heap.size w v1) := HB2.out.trans (hb1.mono HB2.out.size)
    have hr0 : v1.ownsRow w.heap.size 5 1 (.slice none 0 0) ([] : List UInt8).length (Lib.byteCells []) := World.ownsRow_nil _ _ _ _
    have HR0 : Hid (v1.ownsRow w.heap.size 5 1 (.slice none 0 0) ([] : List UInt8).length (Lib.byteCells [])) := hr0
    have ca := cAllStr1_any w.heap.size (.slice none 0 0) [] S c.strs (.slice bs ns cs) txB v1 hr0 HV1.out.size (HCIN.out v1 HV1.out).strs HSB.out (fun i hi W v0 us0 r1 r2 _ r4 => cPutStr1_any w.heap.size v0 us0 c.strs[i] (HSM.out.strs _ (List.getElem_mem hi)) W r1 r2 r4) (by have := HBb.out; simp only [List.length_nil]; omega)
    obtain ⟨a0, a1, a2, a3⟩ := bcells4 HX1.out
    rw [List.nil_append] at ca
    clear hb1 hr0
    go_wp2_with fail
    refine ca.mono ?_
    clear ca a0 a1 a2 a3
    rintro e v2 ⟨p2, rfl, h2⟩
    have HX2 : Hid (v2.heap[w.heap.size]? = some (.cells #[.slice bs ns cs, .slice bh nh ch, .slice bu nu cu, .int .i64 m] 26 (0, 0))) := h2.other HR0.out HX1.out (by decide)
    have HL2 : Hid (Below w.heap.size w v2) := HV1.out.trans (h2.low HR0.out HV1.out.size)
    have H2 : Hid (v2.ownsRow w.heap.size 5 1 p2 (allB txB c.strs).length (Lib.byteCells (allB txB c.strs))) := h2.row
    obtain ⟨n2, b2, c2, rfl⟩ := own_form1 h2.row
    have ca := cAllShape_any w.heap.size (.slice b2 n2 c2) (allB txB c.strs) S c.shapes (.slice bh nh ch) shB v2 H2.out HL2.out.size (HCIN.out v2 HL2.out).shapes HSB.out (fun i hi bf nf cf W v0 us0 r1 r2 r3 r4 r5 => cPutShape_any w.heap.size v0 us0 S c.shapes[i] bf nf cf W r1 r2 (rowIn.kept r5 (strE_keeps S) r3.size fun q hq _ => r3.block q (HSB.out q hq)) HSB.out (HSM.out.shape _ (List.getElem_mem hi)) (HSM.out.field _ (List.getElem_mem hi)) r4) (by have := HBb.out; omega)
    obtain ⟨a0, a1, a2, a3⟩ := bcells4 HX2.out
    clear h2
    go_wp2_with fail
    refine ca.mono ?_
    clear ca a0 a1 a2 a3
    rintro e v3 ⟨p3, rfl, h3⟩
    have HX3 : Hid (v3.heap[w.heap.size]? = some (.cells #[.slice bs ns cs, .slice bh nh ch, .slice bu nu cu, .int .i64 m] 26 (0, 0))) := h3.other H2.out HX2.out (by decide)
    have HL3 : Hid (Below w.heap.size w v3) := HL2.out.trans (h3.low H2.out HL2.out.size)
    obtain ⟨U3, hU3⟩ : ∃ U, U = allB txB c.strs ++ allB shB c.shapes := ⟨_, rfl⟩
    rw [← hU3] at h3
    have HU3 : Hid (U3 = allB txB c.strs ++ allB shB c.shapes) := hU3
    have H3 : Hid (v3.ownsRow w.heap.size 5 1 p3 U3.length (Lib.byteCells U3)) := h3.row
    obtain ⟨n3, b3, c3, rfl⟩ := own_form1 h3.row
    have ca := cAllUnit_any w.heap.size (.slice b3 n3 c3) U3 S c.units (.slice bu nu cu) unB v3 H3.out HL3.out.size (HCIN.out v3 HL3.out).units HSB.out (fun i hi bi ni ci bv nv cv W v0 us0 r1 r2 r3 r4 r5 r6 => cPutUnit_any w.heap.size v0 us0 c.units[i] bi ni ci bv nv cv W r1 r2 S (rowIn.kept r5 (insE_keeps S) r3.size fun q hq _ => r3.block q (HSB.out q hq)) (rowIn.kept r6 (varE_keeps S) r3.size fun q hq _ => r3.block q (HSB.out q hq)) HSB.out (HI.out.ins _ (List.getElem_mem hi)) (fun y hy => ⟨HSM.out.var _ (List.getElem_mem hi) y hy, HI.out.var _ (List.getElem_mem hi) y hy⟩) (HSM.out.unit _ (List.getElem_mem hi)) (HI.out.unit _ (List.getElem_mem hi)).1 (HI.out.unit _ (List.getElem_mem hi)).2.1 (HI.out.unit _ (List.getElem_mem hi)).2.2 r4) (by have := HBb.out; rw [HU3.out, List.length_append]; omega)
    obtain ⟨a0, a1, a2, a3⟩ := bcells4 HX3.out
    clear h3 hU3
    go_wp2_with fail
    refine ca.mono ?_
    clear ca a0 a1 a2 a3
    rintro e v4 ⟨p4, rfl, h4⟩
    have HX4 : Hid (v4.heap[w.heap.size]? = some (.cells #[.slice bs ns cs, .slice bh nh ch, .slice bu nu cu, .int .i64 m] 26 (0, 0))) := h4.other H3.out HX3.out (by decide)
    have HL4 : Hid (Below w.heap.size w v4) := HL3.out.trans (h4.low H3.out HL3.out.size)
    obtain ⟨U4, hU4⟩ : ∃ U, U = U3 ++ allB unB c.units := ⟨_, rfl⟩
    rw [← hU4] at h4
    have HU4 : Hid (U4 = U3 ++ allB unB c.units) := hU4
    have H4 : Hid (v4.ownsRow w.heap.size 5 1 p4 U4.length (Lib.byteCells U4)) := h4.row
    obtain ⟨n4, b4, c4, rfl⟩ := own_form1 h4.row
    have cm := CN.out v4
    obtain ⟨L, hL⟩ : ∃ L, L = numB m := ⟨_, rfl⟩
    rw [← hL] at cm
    have HLL : Hid (L = numB m) := hL
    obtain ⟨a0, a1, a2, a3⟩ := bcells4 HX4.out
    clear h4 hU4 hL
    go_wp2_with fail
    refine cm.mono ?_
    clear cm a0 a1 a2 a3
    rintro e v5 ⟨p5, rfl, ho, hb5⟩
    obtain ⟨b5, c5, rfl⟩ := own_form0 ho
    have HO : Hid (v5.ownsRow v4.heap.size 5 1 (.slice b5 L.length c5) L.length (Lib.byteCells L)) := ho
    have HB5 : Hid (Below v4.heap.size v4 v5) := hb5
    clear ho hb5
    go_wp2_with fail
    obtain ⟨v6, hv6, hb6, -, hg6⟩ := box1 v5 (.cells #[.slice b5 L.length c5] 39)
    rw [← hv6]
    have hb46 : Below v4.heap.size v4 v6 := HB5.out.trans (hb6.mono HB5.out.size)
    refine (cPutOwn_any w.heap.size _ U4 v5.heap.size 1 [(.slice b5 L.length c5, L)] v4 v6 H4.out HL4.out.size hb46 hg6 (fun p hp => ?_) (by simp) (by have h1 := HBb.out; rw [← HLL.out] at h1; rw [HU4.out, HU3.out]; simp only [flatP, List.map_cons, List.map_nil, List.flatten_cons, List.flatten_nil, List.append_nil, List.length_append]; omega)).mono ?_
    · obtain rfl : p = (.slice b5 L.length c5, L) := by simpa using hp
      exact own_stay HO.out hb6
    rintro e v7 ⟨p7, rfl, h7⟩
    have h7' := OwnTo.behind hb46 h7
    have HL7 : Hid (Below w.heap.size w v7) := HL4.out.trans (h7'.low H4.out HL4.out.size)
    have H7 : Hid (v7.ownsRow w.heap.size 5 1 p7 (cdB c).length (Lib.byteCells (cdB c))) := by
      have h8 := h7'.row
      have e8 : U4 ++ flatP [(Value.slice b5 L.length c5, L)] = cdB c := by
        rw [HU4.out, HU3.out, HLL.out, HMM.out]
        simp only [flatP, List.map_cons, List.map_nil, List.flatten_cons, List.flatten_nil, List.append_nil, cdB, List.append_assoc]
      rw [e8] at h8
      exact h8
    clear hv6 hb6 hg6 hb46 h7 h7'
    go_wp2
    go_ret2
    exact ⟨.inr ⟨HRE.out.symm, _, rfl, H7.out⟩, HL7.out⟩
end Go.Proofs.YtechkkphbajmoaaGreatDoor
