/- code: an instruction, a variable, a unit, put behind bytes of one's own. -/
import Derived.Test.YtechkkphbajmoaaGreatDoorCPut2
import Derived.Test.YtechkkphbajmoaaGreatDoorWMix
namespace Go.Proofs.YtechkkphbajmoaaGreatDoor
open Go.RowKit Go.Shelf

def insB (x : In7) : List UInt8 := numB x.op ++ numB x.a
def vrB (x : Vr) : List UInt8 := txB x.name ++ (numB x.slot ++ (numB x.lo ++ numB x.hi))

set_option maxRecDepth 100000 in
set_option maxHeartbeats 8000000 in
theorem cPutIns_any (B : Nat) (v : Value) (us : List UInt8) (x : In7) (w : World) (hown : w.ownsRow B 5 1 v us.length (Lib.byteCells us)) (hB : B ≤ w.heap.size) (j0 : -9223372036854775808 ≤ x.op ∧ x.op ≤ 9223372036854775807) (j1 : -9223372036854775808 ≤ x.a ∧ x.a ≤ 9223372036854775807) (hb : us.length + (insB x).length ≤ 140737488355328) :
    Calls Tryz.prog 77 #[v, inV x] w fun e w' => ∃ v', e = .returned v' ∧ OwnTo B w v w' v' (us ++ insB x) := by
  obtain ⟨w1, hw1, hb1, HZ1, h1⟩ := box1 w (.cells #[.int .i64 x.op, .int .i64 x.a] 62)
  have HW1 : Hid (w1 = w.alloc (.cells #[.int .i64 x.op, .int .i64 x.a] 62)) := hw1
  have HB1 : Hid (Below w.heap.size w w1) := hb1
  have HBX : Hid (w1.heap[w.heap.size]? = some (.cells #[.int .i64 x.op, .int .i64 x.a] 62 (0, 0))) := h1
  have HLT : Hid (w.heap.size < w1.heap.size) := by have := HZ1.out; show _ < _; omega
  have HOWN : Hid (w.ownsRow B 5 1 v us.length (Lib.byteCells us)) := hown
  obtain ⟨R, hR⟩ : ∃ R, R = insB x := ⟨_, rfl⟩
  rw [← hR] at hb ⊢
  have HRB : Hid (R = insB x) := hR
  have HBb : Hid (us.length + R.length ≤ 140737488355328) := hb
  have HCF : Hid (∀ W, Below w1.heap.size w1 W → W.cell? ⟨w.heap.size, 0, none⟩ = some (.int .i64 x.op) ∧ W.cell? ⟨w.heap.size, 1, none⟩ = some (.int .i64 x.a)) := fun W hW => by
    obtain ⟨f0, f1⟩ := bcells2 ((hW.block _ HLT.out).trans HBX.out)
    exact ⟨f0, f1⟩
  haveI hne : Nonempty (ClsP (fun W => W.cell? ⟨w.heap.size, 0, none⟩ = some (.int .i64 x.op) ∧ W.cell? ⟨w.heap.size, 1, none⟩ = some (.int .i64 x.a))) := ⟨⟨w1, HCF.out w1 (Below.refl _ _)⟩⟩
  have X0 : ∀ c : ClsP (fun W => W.cell? ⟨w.heap.size, 0, none⟩ = some (.int .i64 x.op) ∧ W.cell? ⟨w.heap.size, 1, none⟩ = some (.int .i64 x.a)), c.1.cell? ⟨w.heap.size, 0, none⟩ = some (.int .i64 x.op) := fun c => c.2.1
  have X1 : ∀ c : ClsP (fun W => W.cell? ⟨w.heap.size, 0, none⟩ = some (.int .i64 x.op) ∧ W.cell? ⟨w.heap.size, 1, none⟩ = some (.int .i64 x.a)), c.1.cell? ⟨w.heap.size, 1, none⟩ = some (.int .i64 x.a) := fun c => c.2.2
  have C0 : Hid (∀ W, Calls Tryz.prog 36 #[.int .i64 x.op] W fun e w' => ∃ v, e = .returned v ∧ w'.ownsRow W.heap.size 5 1 v (numB x.op).length (Lib.byteCells (numB x.op)) ∧ Below W.heap.size W w') := fun W => cNumber_any x.op j0.1 j0.2 W
  have C1 : Hid (∀ W, Calls Tryz.prog 36 #[.int .i64 x.a] W fun e w' => ∃ v, e = .returned v ∧ w'.ownsRow W.heap.size 5 1 v (numB x.a).length (Lib.byteCells (numB x.a)) ∧ Below W.heap.size W w') := fun W => cNumber_any x.a j1.1 j1.2 W
  obtain ⟨L0, hL0⟩ : ∃ L, L = numB x.op := ⟨_, rfl⟩
  rw [← hL0] at C0
  obtain ⟨L1, hL1⟩ : ∃ L, L = numB x.a := ⟨_, rfl⟩
  rw [← hL1] at C1
  have HLS : Hid (L0 = numB x.op ∧ L1 = numB x.a) := ⟨hL0, hL1⟩
  obtain ⟨bb, cc, rfl⟩ := own_form0 hown
  clear hw1 hb1 h1 hown hb hR hL0 hL1 j0 j1
  go_enter Tryz.func77, Tryz.ntmps77
  go_upto_region 1 with fail
  rw [← HW1.out]
  refine mix_begin (n := 10) (S := fun w' => ∃ c : ClsP (fun W => W.cell? ⟨w.heap.size, 0, none⟩ = some (.int .i64 x.op) ∧ W.cell? ⟨w.heap.size, 1, none⟩ = some (.int .i64 x.a)), w' = c.1) (by kernel_rfl) rfl rfl ?_
  refine mix_seg (fuel := 5) (fuel' := 10) (idx := [0, 1, 2, 4, 5]) (by kernel_rfl) rfl rfl rfl (fun _ _ _ _ _ h => h) ⟨⟨w1.drew, HCF.out w1.drew (Below.refl _ _).drew⟩, rfl⟩ ?_
  show wpQuiet _ _ _ _ [_, _, _, _, _] _
  iterate 5 (go_big_quiet_step (fail))
  refine wpQuiet_nil ?_
  have HV0 : Hid (Below w1.heap.size w1 w1.drew) := (Below.refl _ _).drew
  clear X0 X1
  refine mix_loud (fuel := 4) (fuel' := 5) (i := 3) rfl (by kernel_rfl) rfl rfl (by rfl) ?_
  intro K hK
  go_simp
  refine (C0.out w1.drew).mono ?_
  rintro e z0 ⟨p0, rfl, ho, hb⟩
  obtain ⟨b0, c0, rfl⟩ := own_form0 ho
  have HO0 : Hid (z0.ownsRow (World.heap w1.drew).size 5 1 (.slice b0 L0.length c0) L0.length (Lib.byteCells L0)) := ho
  have HZB0 : Hid (Below (World.heap w1.drew).size w1.drew z0) := hb
  have HV1 : Hid (Below w1.heap.size w1 z0) := HV0.out.trans (hb.mono HV0.out.size)
  clear ho hb
  (try go_simp)
  refine hK.out _ _ ⟨⟨z0, HCF.out z0 HV1.out⟩, rfl⟩ ?_
  clear hK K
  refine mix_loud (fuel := 3) (fuel' := 4) (i := 6) rfl (by kernel_rfl) rfl rfl (by rfl) ?_
  intro K hK
  go_simp
  refine (C1.out z0).mono ?_
  rintro e z1 ⟨p1, rfl, ho, hb⟩
  obtain ⟨b1, c1, rfl⟩ := own_form0 ho
  have HO1 : Hid (z1.ownsRow (World.heap z0).size 5 1 (.slice b1 L1.length c1) L1.length (Lib.byteCells L1)) := ho
  have HZB1 : Hid (Below (World.heap z0).size z0 z1) := hb
  have HV2 : Hid (Below w1.heap.size w1 z1) := HV1.out.trans (hb.mono HV1.out.size)
  clear ho hb
  (try go_simp)
  refine hK.out _ _ ⟨⟨z1, HCF.out z1 HV2.out⟩, rfl⟩ ?_
  clear hK K
  refine mix_loud (fuel := 2) (fuel' := 3) (i := 7) rfl (by kernel_rfl) rfl rfl (by rfl) ?_
  intro K hK
  go_simp
  obtain ⟨zb, hzb, hbb, -, hgb⟩ := box1 z1 (.cells #[.slice b0 L0.length c0, .slice b1 L1.length c1] 39)
  rw [← hzb]
  have HVb : Hid (Below w1.heap.size w1 zb) := HV2.out.trans (hbb.mono HV2.out.size)
  have HGB : Hid (zb.heap[(World.heap z1).size]? = some (.cells #[.slice b0 L0.length c0, .slice b1 L1.length c1] 39 (0, 0))) := hgb
  have HBBB : Hid (Below (World.heap z1).size z1 zb) := hbb
  refine hK.out _ _ ⟨⟨zb, HCF.out zb HVb.out⟩, rfl⟩ ?_
  clear hK K hzb hbb hgb
  have q0 : zb.ownsRow w.heap.size 5 1 (.slice b0 L0.length c0) L0.length (Lib.byteCells L0) := own_base (own_stay (own_stay HO0.out HZB1.out) HBBB.out) (Nat.le_trans HB1.out.size HV0.out.size)
  have q1 : zb.ownsRow w.heap.size 5 1 (.slice b1 L1.length c1) L1.length (Lib.byteCells L1) := own_base (own_stay HO1.out HBBB.out) (Nat.le_trans HB1.out.size HV1.out.size)
  have cp := cPutOwn_any B (.slice bb us.length cc) us (World.heap z1).size 2 [(.slice b0 L0.length c0, L0), (.slice b1 L1.length c1, L1)] w zb HOWN.out hB (HB1.out.trans (HVb.out.mono HB1.out.size)) HGB.out (fun p hp => by
    simp only [List.mem_cons, List.not_mem_nil, or_false] at hp
    rcases hp with rfl | rfl
    · exact q0
    · exact q1) (by simp) (by
    have h2 := HBb.out
    rw [HRB.out] at h2
    obtain ⟨e0, e1⟩ := HLS.out
    simp only [insB, ← e0, ← e1, List.length_append] at h2
    simp only [flatP, List.map_cons, List.map_nil, List.flatten_cons, List.flatten_nil, List.append_nil, List.length_append]
    omega)
  clear q0 q1
  refine mix_loud (fuel := 1) (fuel' := 2) (i := 8) rfl (by kernel_rfl) rfl rfl (by rfl) ?_
  intro K hK
  go_simp
  refine cp.mono ?_
  clear cp
  rintro e zp ⟨vp, rfl, hop⟩
  have HOP : Hid (OwnTo B w (.slice bb us.length cc) zp vp (us ++ flatP [(.slice b0 L0.length c0, L0), (.slice b1 L1.length c1, L1)])) := OwnTo.behind (HB1.out.trans (HVb.out.mono HB1.out.size)) hop
  have hboxp : zp.heap[w.heap.size]? = some (.cells #[.int .i64 x.op, .int .i64 x.a] 62 (0, 0)) := hop.other (own_stay HOWN.out (HB1.out.trans (HVb.out.mono HB1.out.size))) ((HVb.out.block _ HLT.out).trans HBX.out) (by decide)
  have HBXP : Hid (zp.heap[w.heap.size]? = some (.cells #[.int .i64 x.op, .int .i64 x.a] 62 (0, 0))) := hboxp
  obtain ⟨f0, f1⟩ := bcells2 hboxp
  (try go_simp)
  refine hK.out _ _ ⟨⟨zp, f0, f1⟩, rfl⟩ ?_
  clear hK K hop hboxp f0 f1
  refine mix_seg (fuel := 0) (fuel' := 1) (idx := [9]) (by kernel_rfl) rfl rfl rfl (fun _ _ _ _ _ h => h) ⟨⟨zp, by obtain ⟨f0, f1⟩ := bcells2 HBXP.out; exact ⟨f0, f1⟩⟩, rfl⟩ ?_
  show wpQuiet _ _ _ _ [_] _
  iterate 1 (go_big_quiet_step (fail))
  refine wpQuiet_nil ?_
  refine mix_done (by kernel_rfl) ?_
  go_wp2
  go_ret
  refine ⟨_, rfl, ?_⟩
  have h9 := HOP.out
  have h8 := HRB.out
  obtain ⟨e0, e1⟩ := HLS.out
  simp only [flatP, List.map_cons, List.map_nil, List.flatten_cons, List.flatten_nil, List.append_nil, e0, e1] at h9
  rw [h8]
  exact h9

set_option maxRecDepth 100000 in
set_option maxHeartbeats 8000000 in
theorem cPutVar_any (B : Nat) (v : Value) (us : List UInt8) (x : Vr) (w : World) (hown : w.ownsRow B 5 1 v us.length (Lib.byteCells us)) (hB : B ≤ w.heap.size) (j0 : x.name.length ≤ 1048576) (j1 : -9223372036854775808 ≤ x.slot ∧ x.slot ≤ 9223372036854775807) (j2 : -9223372036854775808 ≤ x.lo ∧ x.lo ≤ 9223372036854775807) (j3 : -9223372036854775808 ≤ x.hi ∧ x.hi ≤ 9223372036854775807) (hb : us.length + (vrB x).length ≤ 140737488355328) :
    Calls Tryz.prog 79 #[v, vrV x] w fun e w' => ∃ v', e = .returned v' ∧ OwnTo B w v w' v' (us ++ vrB x) := by
  obtain ⟨w1, hw1, hb1, HZ1, h1⟩ := box1 w (.cells #[.string (strB x.name), .int .i64 x.slot, .int .i64 x.lo, .int .i64 x.hi] 121)
  have HW1 : Hid (w1 = w.alloc (.cells #[.string (strB x.name), .int .i64 x.slot, .int .i64 x.lo, .int .i64 x.hi] 121)) := hw1
  have HB1 : Hid (Below w.heap.size w w1) := hb1
  have HBX : Hid (w1.heap[w.heap.size]? = some (.cells #[.string (strB x.name), .int .i64 x.slot, .int .i64 x.lo, .int .i64 x.hi] 121 (0, 0))) := h1
  have HLT : Hid (w.heap.size < w1.heap.size) := by have := HZ1.out; show _ < _; omega
  have HOWN : Hid (w.ownsRow B 5 1 v us.length (Lib.byteCells us)) := hown
  obtain ⟨R, hR⟩ : ∃ R, R = vrB x := ⟨_, rfl⟩
  rw [← hR] at hb ⊢
  have HRB : Hid (R = vrB x) := hR
  have HBb : Hid (us.length + R.length ≤ 140737488355328) := hb
  have HCF : Hid (∀ W, Below w1.heap.size w1 W → W.cell? ⟨w.heap.size, 0, none⟩ = some (.string (strB x.name)) ∧ W.cell? ⟨w.heap.size, 1, none⟩ = some (.int .i64 x.slot) ∧ W.cell? ⟨w.heap.size, 2, none⟩ = some (.int .i64 x.lo) ∧ W.cell? ⟨w.heap.size, 3, none⟩ = some (.int .i64 x.hi)) := fun W hW => by
    obtain ⟨f0, f1, f2, f3⟩ := bcells4 ((hW.block _ HLT.out).trans HBX.out)
    exact ⟨f0, f1, f2, f3⟩
  haveI hne : Nonempty (ClsP (fun W => W.cell? ⟨w.heap.size, 0, none⟩ = some (.string (strB x.name)) ∧ W.cell? ⟨w.heap.size, 1, none⟩ = some (.int .i64 x.slot) ∧ W.cell? ⟨w.heap.size, 2, none⟩ = some (.int .i64 x.lo) ∧ W.cell? ⟨w.heap.size, 3, none⟩ = some (.int .i64 x.hi))) := ⟨⟨w1, HCF.out w1 (Below.refl _ _)⟩⟩
  have X0 : ∀ c : ClsP (fun W => W.cell? ⟨w.heap.size, 0, none⟩ = some (.string (strB x.name)) ∧ W.cell? ⟨w.heap.size, 1, none⟩ = some (.int .i64 x.slot) ∧ W.cell? ⟨w.heap.size, 2, none⟩ = some (.int .i64 x.lo) ∧ W.cell? ⟨w.heap.size, 3, none⟩ = some (.int .i64 x.hi)), c.1.cell? ⟨w.heap.size, 0, none⟩ = some (.string (strB x.name)) := fun c => c.2.1
  have X1 : ∀ c : ClsP (fun W => W.cell? ⟨w.heap.size, 0, none⟩ = some (.string (strB x.name)) ∧ W.cell? ⟨w.heap.size, 1, none⟩ = some (.int .i64 x.slot) ∧ W.cell? ⟨w.heap.size, 2, none⟩ = some (.int .i64 x.lo) ∧ W.cell? ⟨w.heap.size, 3, none⟩ = some (.int .i64 x.hi)), c.1.cell? ⟨w.heap.size, 1, none⟩ = some (.int .i64 x.slot) := fun c => c.2.2.1
  have X2 : ∀ c : ClsP (fun W => W.cell? ⟨w.heap.size, 0, none⟩ = some (.string (strB x.name)) ∧ W.cell? ⟨w.heap.size, 1, none⟩ = some (.int .i64 x.slot) ∧ W.cell? ⟨w.heap.size, 2, none⟩ = some (.int .i64 x.lo) ∧ W.cell? ⟨w.heap.size, 3, none⟩ = some (.int .i64 x.hi)), c.1.cell? ⟨w.heap.size, 2, none⟩ = some (.int .i64 x.lo) := fun c => c.2.2.2.1
  have X3 : ∀ c : ClsP (fun W => W.cell? ⟨w.heap.size, 0, none⟩ = some (.string (strB x.name)) ∧ W.cell? ⟨w.heap.size, 1, none⟩ = some (.int .i64 x.slot) ∧ W.cell? ⟨w.heap.size, 2, none⟩ = some (.int .i64 x.lo) ∧ W.cell? ⟨w.heap.size, 3, none⟩ = some (.int .i64 x.hi)), c.1.cell? ⟨w.heap.size, 3, none⟩ = some (.int .i64 x.hi) := fun c => c.2.2.2.2
  have C0 : Hid (∀ W, Calls Tryz.prog 31 #[.string (strB x.name)] W fun e w' => ∃ v, e = .returned v ∧ w'.ownsRow W.heap.size 5 1 v (txB x.name).length (Lib.byteCells (txB x.name)) ∧ Below W.heap.size W w') := fun W => cText_any x.name j0 W
  have C1 : Hid (∀ W, Calls Tryz.prog 36 #[.int .i64 x.slot] W fun e w' => ∃ v, e = .returned v ∧ w'.ownsRow W.heap.size 5 1 v (numB x.slot).length (Lib.byteCells (numB x.slot)) ∧ Below W.heap.size W w') := fun W => cNumber_any x.slot j1.1 j1.2 W
  have C2 : Hid (∀ W, Calls Tryz.prog 36 #[.int .i64 x.lo] W fun e w' => ∃ v, e = .returned v ∧ w'.ownsRow W.heap.size 5 1 v (numB x.lo).length (Lib.byteCells (numB x.lo)) ∧ Below W.heap.size W w') := fun W => cNumber_any x.lo j2.1 j2.2 W
  have C3 : Hid (∀ W, Calls Tryz.prog 36 #[.int .i64 x.hi] W fun e w' => ∃ v, e = .returned v ∧ w'.ownsRow W.heap.size 5 1 v (numB x.hi).length (Lib.byteCells (numB x.hi)) ∧ Below W.heap.size W w') := fun W => cNumber_any x.hi j3.1 j3.2 W
  obtain ⟨L0, hL0⟩ : ∃ L, L = txB x.name := ⟨_, rfl⟩
  rw [← hL0] at C0
  obtain ⟨L1, hL1⟩ : ∃ L, L = numB x.slot := ⟨_, rfl⟩
  rw [← hL1] at C1
  obtain ⟨L2, hL2⟩ : ∃ L, L = numB x.lo := ⟨_, rfl⟩
  rw [← hL2] at C2
  obtain ⟨L3, hL3⟩ : ∃ L, L = numB x.hi := ⟨_, rfl⟩
  rw [← hL3] at C3
  have HLS : Hid (L0 = txB x.name ∧ L1 = numB x.slot ∧ L2 = numB x.lo ∧ L3 = numB x.hi) := ⟨hL0, hL1, hL2, hL3⟩
  obtain ⟨bb, cc, rfl⟩ := own_form0 hown
  clear hw1 hb1 h1 hown hb hR hL0 hL1 hL2 hL3 j0 j1 j2 j3
  go_enter Tryz.func79, Tryz.ntmps79
  go_upto_region 1 with fail
  rw [← HW1.out]
  refine mix_begin (n := 16) (S := fun w' => ∃ c : ClsP (fun W => W.cell? ⟨w.heap.size, 0, none⟩ = some (.string (strB x.name)) ∧ W.cell? ⟨w.heap.size, 1, none⟩ = some (.int .i64 x.slot) ∧ W.cell? ⟨w.heap.size, 2, none⟩ = some (.int .i64 x.lo) ∧ W.cell? ⟨w.heap.size, 3, none⟩ = some (.int .i64 x.hi)), w' = c.1) (by kernel_rfl) rfl rfl ?_
  refine mix_seg (fuel := 7) (fuel' := 16) (idx := [0, 1, 2, 4, 5, 7, 8, 10, 11]) (by kernel_rfl) rfl rfl rfl (fun _ _ _ _ _ h => h) ⟨⟨w1.drew, HCF.out w1.drew (Below.refl _ _).drew⟩, rfl⟩ ?_
  show wpQuiet _ _ _ _ [_, _, _, _, _, _, _, _, _] _
  iterate 9 (go_big_quiet_step (fail))
  refine wpQuiet_nil ?_
  have HV0 : Hid (Below w1.heap.size w1 w1.drew) := (Below.refl _ _).drew
  clear X0 X1 X2 X3
  refine mix_loud (fuel := 6) (fuel' := 7) (i := 3) rfl (by kernel_rfl) rfl rfl (by rfl) ?_
  intro K hK
  go_simp
  refine (C0.out w1.drew).mono ?_
  rintro e z0 ⟨p0, rfl, ho, hb⟩
  obtain ⟨b0, c0, rfl⟩ := own_form0 ho
  have HO0 : Hid (z0.ownsRow (World.heap w1.drew).size 5 1 (.slice b0 L0.length c0) L0.length (Lib.byteCells L0)) := ho
  have HZB0 : Hid (Below (World.heap w1.drew).size w1.drew z0) := hb
  have HV1 : Hid (Below w1.heap.size w1 z0) := HV0.out.trans (hb.mono HV0.out.size)
  clear ho hb
  (try go_simp)
  refine hK.out _ _ ⟨⟨z0, HCF.out z0 HV1.out⟩, rfl⟩ ?_
  clear hK K
  refine mix_loud (fuel := 5) (fuel' := 6) (i := 6) rfl (by kernel_rfl) rfl rfl (by rfl) ?_
  intro K hK
  go_simp
  refine (C1.out z0).mono ?_
  rintro e z1 ⟨p1, rfl, ho, hb⟩
  obtain ⟨b1, c1, rfl⟩ := own_form0 ho
  have HO1 : Hid (z1.ownsRow (World.heap z0).size 5 1 (.slice b1 L1.length c1) L1.length (Lib.byteCells L1)) := ho
  have HZB1 : Hid (Below (World.heap z0).size z0 z1) := hb
  have HV2 : Hid (Below w1.heap.size w1 z1) := HV1.out.trans (hb.mono HV1.out.size)
  clear ho hb
  (try go_simp)
  refine hK.out _ _ ⟨⟨z1, HCF.out z1 HV2.out⟩, rfl⟩ ?_
  clear hK K
  refine mix_loud (fuel := 4) (fuel' := 5) (i := 9) rfl (by kernel_rfl) rfl rfl (by rfl) ?_
  intro K hK
  go_simp
  refine (C2.out z1).mono ?_
  rintro e z2 ⟨p2, rfl, ho, hb⟩
  obtain ⟨b2, c2, rfl⟩ := own_form0 ho
  have HO2 : Hid (z2.ownsRow (World.heap z1).size 5 1 (.slice b2 L2.length c2) L2.length (Lib.byteCells L2)) := ho
  have HZB2 : Hid (Below (World.heap z1).size z1 z2) := hb
  have HV3 : Hid (Below w1.heap.size w1 z2) := HV2.out.trans (hb.mono HV2.out.size)
  clear ho hb
  (try go_simp)
  refine hK.out _ _ ⟨⟨z2, HCF.out z2 HV3.out⟩, rfl⟩ ?_
  clear hK K
  refine mix_loud (fuel := 3) (fuel' := 4) (i := 12) rfl (by kernel_rfl) rfl rfl (by rfl) ?_
  intro K hK
  go_simp
  refine (C3.out z2).mono ?_
  rintro e z3 ⟨p3, rfl, ho, hb⟩
  obtain ⟨b3, c3, rfl⟩ := own_form0 ho
  have HO3 : Hid (z3.ownsRow (World.heap z2).size 5 1 (.slice b3 L3.length c3) L3.length (Lib.byteCells L3)) := ho
  have HZB3 : Hid (Below (World.heap z2).size z2 z3) := hb
  have HV4 : Hid (Below w1.heap.size w1 z3) := HV3.out.trans (hb.mono HV3.out.size)
  clear ho hb
  (try go_simp)
  refine hK.out _ _ ⟨⟨z3, HCF.out z3 HV4.out⟩, rfl⟩ ?_
  clear hK K
  refine mix_loud (fuel := 2) (fuel' := 3) (i := 13) rfl (by kernel_rfl) rfl rfl (by rfl) ?_
  intro K hK
  go_simp
  obtain ⟨zb, hzb, hbb, -, hgb⟩ := box1 z3 (.cells #[.slice b0 L0.length c0, .slice b1 L1.length c1, .slice b2 L2.length c2, .slice b3 L3.length c3] 39)
  rw [← hzb]
  have HVb : Hid (Below w1.heap.size w1 zb) := HV4.out.trans (hbb.mono HV4.out.size)
  have HGB : Hid (zb.heap[(World.heap z3).size]? = some (.cells #[.slice b0 L0.length c0, .slice b1 L1.length c1, .slice b2 L2.length c2, .slice b3 L3.length c3] 39 (0, 0))) := hgb
  have HBBB : Hid (Below (World.heap z3).size z3 zb) := hbb
  refine hK.out _ _ ⟨⟨zb, HCF.out zb HVb.out⟩, rfl⟩ ?_
  clear hK K hzb hbb hgb
  have q0 : zb.ownsRow w.heap.size 5 1 (.slice b0 L0.length c0) L0.length (Lib.byteCells L0) := own_base (own_stay (own_stay (own_stay (own_stay HO0.out HZB1.out) HZB2.out) HZB3.out) HBBB.out) (Nat.le_trans HB1.out.size HV0.out.size)
  have q1 : zb.ownsRow w.heap.size 5 1 (.slice b1 L1.length c1) L1.length (Lib.byteCells L1) := own_base (own_stay (own_stay (own_stay HO1.out HZB2.out) HZB3.out) HBBB.out) (Nat.le_trans HB1.out.size HV1.out.size)
  have q2 : zb.ownsRow w.heap.size 5 1 (.slice b2 L2.length c2) L2.length (Lib.byteCells L2) := own_base (own_stay (own_stay HO2.out HZB3.out) HBBB.out) (Nat.le_trans HB1.out.size HV2.out.size)
  have q3 : zb.ownsRow w.heap.size 5 1 (.slice b3 L3.length c3) L3.length (Lib.byteCells L3) := own_base (own_stay HO3.out HBBB.out) (Nat.le_trans HB1.out.size HV3.out.size)
  have cp := cPutOwn_any B (.slice bb us.length cc) us (World.heap z3).size 4 [(.slice b0 L0.length c0, L0), (.slice b1 L1.length c1, L1), (.slice b2 L2.length c2, L2), (.slice b3 L3.length c3, L3)] w zb HOWN.out hB (HB1.out.trans (HVb.out.mono HB1.out.size)) HGB.out (fun p hp => by
    simp only [List.mem_cons, List.not_mem_nil, or_false] at hp
    rcases hp with rfl | rfl | rfl | rfl
    · exact q0
    · exact q1
    · exact q2
    · exact q3) (by simp) (by
    have h2 := HBb.out
    rw [HRB.out] at h2
    obtain ⟨e0, e1, e2, e3⟩ := HLS.out
    simp only [vrB, ← e0, ← e1, ← e2, ← e3, List.length_append] at h2
    simp only [flatP, List.map_cons, List.map_nil, List.flatten_cons, List.flatten_nil, List.append_nil, List.length_append]
    omega)
  clear q0 q1 q2 q3
  refine mix_loud (fuel := 1) (fuel' := 2) (i := 14) rfl (by kernel_rfl) rfl rfl (by rfl) ?_
  intro K hK
  go_simp
  refine cp.mono ?_
  clear cp
  rintro e zp ⟨vp, rfl, hop⟩
  have HOP : Hid (OwnTo B w (.slice bb us.length cc) zp vp (us ++ flatP [(.slice b0 L0.length c0, L0), (.slice b1 L1.length c1, L1), (.slice b2 L2.length c2, L2), (.slice b3 L3.length c3, L3)])) := OwnTo.behind (HB1.out.trans (HVb.out.mono HB1.out.size)) hop
  have hboxp : zp.heap[w.heap.size]? = some (.cells #[.string (strB x.name), .int .i64 x.slot, .int .i64 x.lo, .int .i64 x.hi] 121 (0, 0)) := hop.other (own_stay HOWN.out (HB1.out.trans (HVb.out.mono HB1.out.size))) ((HVb.out.block _ HLT.out).trans HBX.out) (by decide)
  have HBXP : Hid (zp.heap[w.heap.size]? = some (.cells #[.string (strB x.name), .int .i64 x.slot, .int .i64 x.lo, .int .i64 x.hi] 121 (0, 0))) := hboxp
  obtain ⟨f0, f1, f2, f3⟩ := bcells4 hboxp
  (try go_simp)
  refine hK.out _ _ ⟨⟨zp, f0, f1, f2, f3⟩, rfl⟩ ?_
  clear hK K hop hboxp f0 f1 f2 f3
  refine mix_seg (fuel := 0) (fuel' := 1) (idx := [15]) (by kernel_rfl) rfl rfl rfl (fun _ _ _ _ _ h => h) ⟨⟨zp, by obtain ⟨f0, f1, f2, f3⟩ := bcells4 HBXP.out; exact ⟨f0, f1, f2, f3⟩⟩, rfl⟩ ?_
  show wpQuiet _ _ _ _ [_] _
  iterate 1 (go_big_quiet_step (fail))
  refine wpQuiet_nil ?_
  refine mix_done (by kernel_rfl) ?_
  go_wp2
  go_ret
  refine ⟨_, rfl, ?_⟩
  have h9 := HOP.out
  have h8 := HRB.out
  obtain ⟨e0, e1, e2, e3⟩ := HLS.out
  simp only [flatP, List.map_cons, List.map_nil, List.flatten_cons, List.flatten_nil, List.append_nil, e0, e1, e2, e3] at h9
  rw [h8]
  exact h9

end Go.Proofs.YtechkkphbajmoaaGreatDoor
