/- snap: a state's bytes. -/
import Derived.Test.YtbdgniiafdjmiaaGreatDoorPCheck
import Derived.Test.YtbdgniiafdjmiaaGreatDoorPMay
import Derived.Test.YtbdgniiafdjmiaaGreatDoorMP
namespace Go.Proofs.YtbdgniiafdjmiaaGreatDoor
open Go.RowKit Go.Shelf

/-- What Bytes answers. -/
def BytesRetS (N : Nat) (s : Sn) (e : Ending) (w' : World) : Prop :=
  (mayS s = false ∧ e = .returned (.tuple #[.slice none 0 0, .int .i64 2])) ∨ (mayS s = true ∧ ∃ v, e = .returned (.tuple #[v, .int .i64 0]) ∧ w'.ownsRow N 5 1 v (snB s).length (Lib.byteCells (snB s)))

set_option maxRecDepth 100000 in
set_option maxHeartbeats 8000000 in
theorem pBytes_any (S : Nat → Prop) (s : Sn) (bc bh : Option Addr) (nc cc nh ch : Nat) (w : World) (hin : SnIn S w s (.slice bc nc cc) (.slice bh nh ch)) (hS : ∀ q, S q → q < w.heap.size) (hsm : SmallS s) (ht : TabsP w) :
    Calls Tryz.prog 10 #[snV s (.slice bc nc cc) (.slice bh nh ch)] w fun e w' => BytesRetS w.heap.size s e w' ∧ Below w.heap.size w w' := by
  obtain ⟨w2, hw2, hb2, HZ2, h0⟩ := box1 w (.cells #[.int .i64 s.pos, .int .i64 s.st, .int .i64 s.ft, .slice bc nc cc, .slice bh nh ch, .string (strB s.out), .int .i64 s.rd] 27)
  have HW2 : Hid (w2 = w.alloc (.cells #[.int .i64 s.pos, .int .i64 s.st, .int .i64 s.ft, .slice bc nc cc, .slice bh nh ch, .string (strB s.out), .int .i64 s.rd] 27)) := hw2
  have HB2 : Hid (Below w.heap.size w w2) := hb2
  have HBX : Hid (w2.heap[w.heap.size]? = some (.cells #[.int .i64 s.pos, .int .i64 s.st, .int .i64 s.ft, .slice bc nc cc, .slice bh nh ch, .string (strB s.out), .int .i64 s.rd] 27 (0, 0))) := h0
  have HLT : Hid (w.heap.size < w2.heap.size) := by have := HZ2.out; show _ < _; omega
  have c1 := pCheck_any S s bc bh nc cc nh ch w2 (hin.below hb2) hsm (ht.below hb2 (Nat.le_refl _))
  have HCIN : Hid (∀ W, Below w.heap.size w W → SnIn S W s (.slice bc nc cc) (.slice bh nh ch)) := fun W hW => hin.below hW
  have HSB : Hid (∀ q, S q → q < w.heap.size) := hS
  have HSM : Hid (SmallS s) := hsm
  have hn := hsm.nums
  have C0 : Hid (∀ W, Calls Tryz.prog 18 #[.int .i64 s.pos] W fun e w' => ∃ v, e = .returned v ∧ w'.ownsRow W.heap.size 5 1 v (numB s.pos).length (Lib.byteCells (numB s.pos)) ∧ Below W.heap.size W w') := fun W => pNumber_any s.pos hn.1.1 hn.1.2 W
  have C1 : Hid (∀ W, Calls Tryz.prog 19 #[.int .i64 s.st] W fun e w' => ∃ v, e = .returned v ∧ w'.ownsRow W.heap.size 5 1 v (numB s.st).length (Lib.byteCells (numB s.st)) ∧ Below W.heap.size W w') := fun W => pNumberS_any s.st hn.2.1.1 hn.2.1.2 W
  have C2 : Hid (∀ W, Calls Tryz.prog 20 #[.int .i64 s.ft] W fun e w' => ∃ v, e = .returned v ∧ w'.ownsRow W.heap.size 5 1 v (numB s.ft).length (Lib.byteCells (numB s.ft)) ∧ Below W.heap.size W w') := fun W => pNumberF_any s.ft hn.2.2.1.1 hn.2.2.1.2 W
  have C3 : Hid (∀ W, Calls Tryz.prog 18 #[.int .i64 s.rd] W fun e w' => ∃ v, e = .returned v ∧ w'.ownsRow W.heap.size 5 1 v (numB s.rd).length (Lib.byteCells (numB s.rd)) ∧ Below W.heap.size W w') := fun W => pNumber_any s.rd hn.2.2.2.1 hn.2.2.2.2 W
  have C4 : Hid (∀ W, Calls Tryz.prog 21 #[.string (strB s.out)] W fun e w' => ∃ v, e = .returned v ∧ w'.ownsRow W.heap.size 5 1 v (txB s.out).length (Lib.byteCells (txB s.out)) ∧ Below W.heap.size W w') := fun W => pText_any s.out hsm.out W
  cases hR : mayS s with
  | false =>
    rw [hR] at c1
    have HRE : Hid (mayS s = false) := hR
    clear hw2 hb2 h0 hin hS hsm ht HZ2 hn hR C0 C1 C2 C3 C4
    go_enter Tryz.func10, Tryz.ntmps10
    go_wp2_with fail
    rw [← HW2.out]
    refine c1.mono ?_
    clear c1
    rintro e v1 ⟨rfl, hb1⟩
    have HV1 : Hid (Below w.heap.size w v1) := HB2.out.trans (hb1.mono HB2.out.size)
    clear hb1
    simp only [errR, Bool.false_eq_true, if_false]
    go_wp2
    go_ret2
    exact ⟨.inl ⟨HRE.out, rfl⟩, HV1.out⟩
  | true =>
    rw [hR] at c1
    have HRE : Hid (mayS s = true) := hR
    have hlen := may_len hR hsm
    have HLEN : Hid ((snB s).length ≤ 140737488355328) := hlen
    obtain ⟨L0, hL0⟩ : ∃ L, L = numB s.pos := ⟨_, rfl⟩
    rw [← hL0] at C0
    obtain ⟨L1, hL1⟩ : ∃ L, L = numB s.st := ⟨_, rfl⟩
    rw [← hL1] at C1
    obtain ⟨L2, hL2⟩ : ∃ L, L = numB s.ft := ⟨_, rfl⟩
    rw [← hL2] at C2
    obtain ⟨L3, hL3⟩ : ∃ L, L = numB s.rd := ⟨_, rfl⟩
    rw [← hL3] at C3
    obtain ⟨L4, hL4⟩ : ∃ L, L = txB s.out := ⟨_, rfl⟩
    rw [← hL4] at C4
    have HSN : Hid (snB s = (L0 ++ (L1 ++ (L2 ++ (L3 ++ L4)))) ++ (allB calB s.calls ++ allB objB s.heap)) := by
      show _ = _
      rw [hL0, hL1, hL2, hL3, hL4]
      simp only [snB, List.append_assoc]
    have HBb : Hid (L0.length + L1.length + L2.length + L3.length + L4.length + (allB calB s.calls).length + (allB objB s.heap).length ≤ 140737488355328) := by
      have h1 := hlen
      rw [HSN.out] at h1
      simp only [List.length_append] at h1
      show _ ≤ _
      omega
    clear hw2 hb2 h0 hin hS hsm ht HZ2 hn hR hlen hL0 hL1 hL2 hL3 hL4
    obtain ⟨N, hN⟩ : ∃ N, N = w.heap.size := ⟨_, rfl⟩
    have HN : Hid (N = w.heap.size) := hN
    go_enter Tryz.func10, Tryz.ntmps10
    go_wp2_with fail
    rw [← HW2.out]
    refine c1.mono ?_
    clear c1 hN
    rintro e v1 ⟨rfl, hb1⟩
    have HX1 : Hid (v1.heap[w.heap.size]? = some (.cells #[.int .i64 s.pos, .int .i64 s.st, .int .i64 s.ft, .slice bc nc cc, .slice bh nh ch, .string (strB s.out), .int .i64 s.rd] 27 (0, 0))) := (hb1.block _ HLT.out).trans HBX.out
    have HV1 : Hid (Below w.heap.size w v1) := HB2.out.trans (hb1.mono HB2.out.size)
    have HLT1 : Hid (w.heap.size < v1.heap.size) := Nat.lt_of_lt_of_le HLT.out hb1.size
    have HR0 : Hid (v1.ownsRow w.heap.size 5 1 (.slice none 0 0) ([] : List UInt8).length (Lib.byteCells [])) := World.ownsRow_nil _ _ _ _
    have HCF : Hid (∀ W, Below v1.heap.size v1 W → W.cell? ⟨w.heap.size, 0, none⟩ = some (.int .i64 s.pos) ∧ W.cell? ⟨w.heap.size, 1, none⟩ = some (.int .i64 s.st) ∧ W.cell? ⟨w.heap.size, 2, none⟩ = some (.int .i64 s.ft) ∧ W.cell? ⟨w.heap.size, 3, none⟩ = some (.slice bc nc cc) ∧ W.cell? ⟨w.heap.size, 4, none⟩ = some (.slice bh nh ch) ∧ W.cell? ⟨w.heap.size, 5, none⟩ = some (.string (strB s.out)) ∧ W.cell? ⟨w.heap.size, 6, none⟩ = some (.int .i64 s.rd)) := fun W hW => cells7 ((hW.block _ HLT1.out).trans HX1.out)
    haveI hne : Nonempty (ClsP (fun W => W.cell? ⟨w.heap.size, 0, none⟩ = some (.int .i64 s.pos) ∧ W.cell? ⟨w.heap.size, 1, none⟩ = some (.int .i64 s.st) ∧ W.cell? ⟨w.heap.size, 2, none⟩ = some (.int .i64 s.ft) ∧ W.cell? ⟨w.heap.size, 3, none⟩ = some (.slice bc nc cc) ∧ W.cell? ⟨w.heap.size, 4, none⟩ = some (.slice bh nh ch) ∧ W.cell? ⟨w.heap.size, 5, none⟩ = some (.string (strB s.out)) ∧ W.cell? ⟨w.heap.size, 6, none⟩ = some (.int .i64 s.rd))) := ⟨⟨v1, HCF.out v1 (Below.refl _ _)⟩⟩
    have X0 : ∀ c : ClsP (fun W => W.cell? ⟨w.heap.size, 0, none⟩ = some (.int .i64 s.pos) ∧ W.cell? ⟨w.heap.size, 1, none⟩ = some (.int .i64 s.st) ∧ W.cell? ⟨w.heap.size, 2, none⟩ = some (.int .i64 s.ft) ∧ W.cell? ⟨w.heap.size, 3, none⟩ = some (.slice bc nc cc) ∧ W.cell? ⟨w.heap.size, 4, none⟩ = some (.slice bh nh ch) ∧ W.cell? ⟨w.heap.size, 5, none⟩ = some (.string (strB s.out)) ∧ W.cell? ⟨w.heap.size, 6, none⟩ = some (.int .i64 s.rd)), c.1.cell? ⟨w.heap.size, 0, none⟩ = some (.int .i64 s.pos) := fun c => c.2.1
    have X1 : ∀ c : ClsP (fun W => W.cell? ⟨w.heap.size, 0, none⟩ = some (.int .i64 s.pos) ∧ W.cell? ⟨w.heap.size, 1, none⟩ = some (.int .i64 s.st) ∧ W.cell? ⟨w.heap.size, 2, none⟩ = some (.int .i64 s.ft) ∧ W.cell? ⟨w.heap.size, 3, none⟩ = some (.slice bc nc cc) ∧ W.cell? ⟨w.heap.size, 4, none⟩ = some (.slice bh nh ch) ∧ W.cell? ⟨w.heap.size, 5, none⟩ = some (.string (strB s.out)) ∧ W.cell? ⟨w.heap.size, 6, none⟩ = some (.int .i64 s.rd)), c.1.cell? ⟨w.heap.size, 1, none⟩ = some (.int .i64 s.st) := fun c => c.2.2.1
    have X2 : ∀ c : ClsP (fun W => W.cell? ⟨w.heap.size, 0, none⟩ = some (.int .i64 s.pos) ∧ W.cell? ⟨w.heap.size, 1, none⟩ = some (.int .i64 s.st) ∧ W.cell? ⟨w.heap.size, 2, none⟩ = some (.int .i64 s.ft) ∧ W.cell? ⟨w.heap.size, 3, none⟩ = some (.slice bc nc cc) ∧ W.cell? ⟨w.heap.size, 4, none⟩ = some (.slice bh nh ch) ∧ W.cell? ⟨w.heap.size, 5, none⟩ = some (.string (strB s.out)) ∧ W.cell? ⟨w.heap.size, 6, none⟩ = some (.int .i64 s.rd)), c.1.cell? ⟨w.heap.size, 2, none⟩ = some (.int .i64 s.ft) := fun c => c.2.2.2.1
    have X6 : ∀ c : ClsP (fun W => W.cell? ⟨w.heap.size, 0, none⟩ = some (.int .i64 s.pos) ∧ W.cell? ⟨w.heap.size, 1, none⟩ = some (.int .i64 s.st) ∧ W.cell? ⟨w.heap.size, 2, none⟩ = some (.int .i64 s.ft) ∧ W.cell? ⟨w.heap.size, 3, none⟩ = some (.slice bc nc cc) ∧ W.cell? ⟨w.heap.size, 4, none⟩ = some (.slice bh nh ch) ∧ W.cell? ⟨w.heap.size, 5, none⟩ = some (.string (strB s.out)) ∧ W.cell? ⟨w.heap.size, 6, none⟩ = some (.int .i64 s.rd)), c.1.cell? ⟨w.heap.size, 6, none⟩ = some (.int .i64 s.rd) := fun c => c.2.2.2.2.2.2.2
    have X5 : ∀ c : ClsP (fun W => W.cell? ⟨w.heap.size, 0, none⟩ = some (.int .i64 s.pos) ∧ W.cell? ⟨w.heap.size, 1, none⟩ = some (.int .i64 s.st) ∧ W.cell? ⟨w.heap.size, 2, none⟩ = some (.int .i64 s.ft) ∧ W.cell? ⟨w.heap.size, 3, none⟩ = some (.slice bc nc cc) ∧ W.cell? ⟨w.heap.size, 4, none⟩ = some (.slice bh nh ch) ∧ W.cell? ⟨w.heap.size, 5, none⟩ = some (.string (strB s.out)) ∧ W.cell? ⟨w.heap.size, 6, none⟩ = some (.int .i64 s.rd)), c.1.cell? ⟨w.heap.size, 5, none⟩ = some (.string (strB s.out)) := fun c => c.2.2.2.2.2.2.1
    clear hb1
    simp only [errR, if_true]
    go_upto_region 4 with fail
    refine mix_begin (n := 18) (S := fun w' => ∃ c : ClsP (fun W => W.cell? ⟨w.heap.size, 0, none⟩ = some (.int .i64 s.pos) ∧ W.cell? ⟨w.heap.size, 1, none⟩ = some (.int .i64 s.st) ∧ W.cell? ⟨w.heap.size, 2, none⟩ = some (.int .i64 s.ft) ∧ W.cell? ⟨w.heap.size, 3, none⟩ = some (.slice bc nc cc) ∧ W.cell? ⟨w.heap.size, 4, none⟩ = some (.slice bh nh ch) ∧ W.cell? ⟨w.heap.size, 5, none⟩ = some (.string (strB s.out)) ∧ W.cell? ⟨w.heap.size, 6, none⟩ = some (.int .i64 s.rd)), w' = c.1) (by kernel_rfl) rfl rfl ?_
    refine mix_seg (fuel := 8) (fuel' := 18) (idx := [0, 1, 3, 4, 6, 7, 9, 10, 12, 13]) (by kernel_rfl) rfl rfl rfl (fun _ _ _ _ _ h => h) ⟨⟨v1.drew, HCF.out v1.drew (Below.refl _ _).drew⟩, rfl⟩ ?_
    show wpQuiet _ _ _ _ [_, _, _, _, _, _, _, _, _, _] _
    iterate 10 (go_big_quiet_step (fail))
    refine wpQuiet_nil ?_
    have HV0 : Hid (Below v1.heap.size v1 v1.drew) := (Below.refl _ _).drew
    clear X0 X1 X2 X6 X5
    refine mix_loud (fuel := 7) (fuel' := 8) (i := 2) rfl (by kernel_rfl) rfl rfl (by rfl) ?_
    intro K hK
    go_simp
    refine (C0.out v1.drew).mono ?_
    rintro e z0 ⟨p0, rfl, ho, hb⟩
    obtain ⟨b0, c0, rfl⟩ := own_form0 ho
    have HO0 : Hid (z0.ownsRow (World.heap v1.drew).size 5 1 (.slice b0 L0.length c0) L0.length (Lib.byteCells L0)) := ho
    have HZB0 : Hid (Below (World.heap v1.drew).size v1.drew z0) := hb
    have HU0 : Hid (Below v1.heap.size v1 z0) := HV0.out.trans (hb.mono HV0.out.size)
    clear ho hb
    (try go_simp)
    refine hK.out _ _ ⟨⟨z0, HCF.out z0 HU0.out⟩, rfl⟩ ?_
    clear hK K
    refine mix_loud (fuel := 6) (fuel' := 7) (i := 5) rfl (by kernel_rfl) rfl rfl (by rfl) ?_
    intro K hK
    go_simp
    refine (C1.out z0).mono ?_
    rintro e z1 ⟨p1, rfl, ho, hb⟩
    obtain ⟨b1, c1, rfl⟩ := own_form0 ho
    have HO1 : Hid (z1.ownsRow (World.heap z0).size 5 1 (.slice b1 L1.length c1) L1.length (Lib.byteCells L1)) := ho
    have HZB1 : Hid (Below (World.heap z0).size z0 z1) := hb
    have HU1 : Hid (Below v1.heap.size v1 z1) := HU0.out.trans (hb.mono HU0.out.size)
    clear ho hb
    (try go_simp)
    refine hK.out _ _ ⟨⟨z1, HCF.out z1 HU1.out⟩, rfl⟩ ?_
    clear hK K
    refine mix_loud (fuel := 5) (fuel' := 6) (i := 8) rfl (by kernel_rfl) rfl rfl (by rfl) ?_
    intro K hK
    go_simp
    refine (C2.out z1).mono ?_
    rintro e z2 ⟨p2, rfl, ho, hb⟩
    obtain ⟨b2, c2, rfl⟩ := own_form0 ho
    have HO2 : Hid (z2.ownsRow (World.heap z1).size 5 1 (.slice b2 L2.length c2) L2.length (Lib.byteCells L2)) := ho
    have HZB2 : Hid (Below (World.heap z1).size z1 z2) := hb
    have HU2 : Hid (Below v1.heap.size v1 z2) := HU1.out.trans (hb.mono HU1.out.size)
    clear ho hb
    (try go_simp)
    refine hK.out _ _ ⟨⟨z2, HCF.out z2 HU2.out⟩, rfl⟩ ?_
    clear hK K
    refine mix_loud (fuel := 4) (fuel' := 5) (i := 11) rfl (by kernel_rfl) rfl rfl (by rfl) ?_
    intro K hK
    go_simp
    refine (C3.out z2).mono ?_
    rintro e z3 ⟨p3, rfl, ho, hb⟩
    obtain ⟨b3, c3, rfl⟩ := own_form0 ho
    have HO3 : Hid (z3.ownsRow (World.heap z2).size 5 1 (.slice b3 L3.length c3) L3.length (Lib.byteCells L3)) := ho
    have HZB3 : Hid (Below (World.heap z2).size z2 z3) := hb
    have HU3 : Hid (Below v1.heap.size v1 z3) := HU2.out.trans (hb.mono HU2.out.size)
    clear ho hb
    (try go_simp)
    refine hK.out _ _ ⟨⟨z3, HCF.out z3 HU3.out⟩, rfl⟩ ?_
    clear hK K
    refine mix_loud (fuel := 3) (fuel' := 4) (i := 14) rfl (by kernel_rfl) rfl rfl (by rfl) ?_
    intro K hK
    go_simp
    refine (C4.out z3).mono ?_
    rintro e z4 ⟨p4, rfl, ho, hb⟩
    obtain ⟨b4, c4, rfl⟩ := own_form0 ho
    have HO4 : Hid (z4.ownsRow (World.heap z3).size 5 1 (.slice b4 L4.length c4) L4.length (Lib.byteCells L4)) := ho
    have HZB4 : Hid (Below (World.heap z3).size z3 z4) := hb
    have HU4 : Hid (Below v1.heap.size v1 z4) := HU3.out.trans (hb.mono HU3.out.size)
    clear ho hb
    (try go_simp)
    refine hK.out _ _ ⟨⟨z4, HCF.out z4 HU4.out⟩, rfl⟩ ?_
    clear hK K
    refine mix_loud (fuel := 2) (fuel' := 3) (i := 15) rfl (by kernel_rfl) rfl rfl (by rfl) ?_
    intro K hK
    go_simp
    obtain ⟨zb, hzb, hbb, -, hgb⟩ := box1 z4 (.cells #[.slice b0 L0.length c0, .slice b1 L1.length c1, .slice b2 L2.length c2, .slice b3 L3.length c3, .slice b4 L4.length c4] 30)
    rw [← hzb]
    have HVb : Hid (Below v1.heap.size v1 zb) := HU4.out.trans (hbb.mono HU4.out.size)
    have HGB : Hid (zb.heap[(World.heap z4).size]? = some (.cells #[.slice b0 L0.length c0, .slice b1 L1.length c1, .slice b2 L2.length c2, .slice b3 L3.length c3, .slice b4 L4.length c4] 30 (0, 0))) := hgb
    have HBBB : Hid (Below (World.heap z4).size z4 zb) := hbb
    refine hK.out _ _ ⟨⟨zb, HCF.out zb HVb.out⟩, rfl⟩ ?_
    clear hK K hzb hbb hgb
    have q0 : zb.ownsRow v1.heap.size 5 1 (.slice b0 L0.length c0) L0.length (Lib.byteCells L0) := own_base (own_stay (own_stay (own_stay (own_stay (own_stay HO0.out HZB1.out) HZB2.out) HZB3.out) HZB4.out) HBBB.out) (Nat.le_refl _)
    have q1 : zb.ownsRow v1.heap.size 5 1 (.slice b1 L1.length c1) L1.length (Lib.byteCells L1) := own_base (own_stay (own_stay (own_stay (own_stay HO1.out HZB2.out) HZB3.out) HZB4.out) HBBB.out) (HU0.out.size)
    have q2 : zb.ownsRow v1.heap.size 5 1 (.slice b2 L2.length c2) L2.length (Lib.byteCells L2) := own_base (own_stay (own_stay (own_stay HO2.out HZB3.out) HZB4.out) HBBB.out) (HU1.out.size)
    have q3 : zb.ownsRow v1.heap.size 5 1 (.slice b3 L3.length c3) L3.length (Lib.byteCells L3) := own_base (own_stay (own_stay HO3.out HZB4.out) HBBB.out) (HU2.out.size)
    have q4 : zb.ownsRow v1.heap.size 5 1 (.slice b4 L4.length c4) L4.length (Lib.byteCells L4) := own_base (own_stay HO4.out HBBB.out) (HU3.out.size)
    have cp := pPutOwn_any w.heap.size (.slice none 0 0) [] (World.heap z4).size 5 [(.slice b0 L0.length c0, L0), (.slice b1 L1.length c1, L1), (.slice b2 L2.length c2, L2), (.slice b3 L3.length c3, L3), (.slice b4 L4.length c4, L4)] v1 zb HR0.out HV1.out.size HVb.out HGB.out (fun p hp => by
      simp only [List.mem_cons, List.not_mem_nil, or_false] at hp
      rcases hp with rfl | rfl | rfl | rfl | rfl
      · exact q0
      · exact q1
      · exact q2
      · exact q3
      · exact q4) (by simp) (by
      have h2 := HBb.out
      simp only [flatP, List.map_cons, List.map_nil, List.flatten_cons, List.flatten_nil, List.append_nil, List.length_append, List.length_nil]
      omega)
    clear q0 q1 q2 q3 q4
    refine mix_loud (fuel := 1) (fuel' := 2) (i := 16) rfl (by kernel_rfl) rfl rfl (by rfl) ?_
    intro K hK
    go_simp
    refine cp.mono ?_
    clear cp
    rintro e zp ⟨vp, rfl, hop⟩
    obtain ⟨U1, hU1⟩ : ∃ U, U = L0 ++ (L1 ++ (L2 ++ (L3 ++ L4))) := ⟨_, rfl⟩
    have e9 : [] ++ flatP [(.slice b0 L0.length c0, L0), (.slice b1 L1.length c1, L1), (.slice b2 L2.length c2, L2), (.slice b3 L3.length c3, L3), (.slice b4 L4.length c4, L4)] = U1 := by rw [hU1]; simp [flatP]
    rw [e9] at hop
    have HU1 : Hid (U1 = L0 ++ (L1 ++ (L2 ++ (L3 ++ L4)))) := hU1
    have HOP : Hid (OwnTo w.heap.size v1 (.slice none 0 0) zp vp U1) := OwnTo.behind HVb.out hop
    have hboxp : zp.heap[w.heap.size]? = some (.cells #[.int .i64 s.pos, .int .i64 s.st, .int .i64 s.ft, .slice bc nc cc, .slice bh nh ch, .string (strB s.out), .int .i64 s.rd] 27 (0, 0)) := hop.other (own_stay HR0.out HVb.out) ((HVb.out.block _ HLT1.out).trans HX1.out) (by decide)
    have HBXP : Hid (zp.heap[w.heap.size]? = some (.cells #[.int .i64 s.pos, .int .i64 s.st, .int .i64 s.ft, .slice bc nc cc, .slice bh nh ch, .string (strB s.out), .int .i64 s.rd] 27 (0, 0))) := hboxp
    obtain ⟨np, bp, cp, rfl⟩ := own_form1 hop.row
    have HF9 : Hid (zp.cell? ⟨w.heap.size, 0, none⟩ = some (.int .i64 s.pos) ∧ zp.cell? ⟨w.heap.size, 1, none⟩ = some (.int .i64 s.st) ∧ zp.cell? ⟨w.heap.size, 2, none⟩ = some (.int .i64 s.ft) ∧ zp.cell? ⟨w.heap.size, 3, none⟩ = some (.slice bc nc cc) ∧ zp.cell? ⟨w.heap.size, 4, none⟩ = some (.slice bh nh ch) ∧ zp.cell? ⟨w.heap.size, 5, none⟩ = some (.string (strB s.out)) ∧ zp.cell? ⟨w.heap.size, 6, none⟩ = some (.int .i64 s.rd)) := cells7 hboxp
    (try go_simp)
    refine hK.out _ _ ⟨⟨zp, HF9.out⟩, rfl⟩ ?_
    clear hK K hop hboxp e9 hU1
    refine mix_seg (fuel := 0) (fuel' := 1) (idx := [17]) (by kernel_rfl) rfl rfl rfl (fun _ _ _ _ _ h => h) ⟨⟨zp, HF9.out⟩, rfl⟩ ?_
    show wpQuiet _ _ _ _ [_] _
    iterate 1 (go_big_quiet_step (fail))
    refine wpQuiet_nil ?_
    refine mix_done (by kernel_rfl) ?_
    have HLp : Hid (Below w.heap.size w zp) := HV1.out.trans (HOP.out.low HR0.out HV1.out.size)
    have ca := pAllCal_any w.heap.size (.slice bp np cp) U1 S s.calls (.slice bc nc cc) calB zp HOP.out.row HLp.out.size (HCIN.out zp HLp.out).calls HSB.out (fun i hi bi ni ci bv nv cv W v0 us0 r1 r2 r3 r4 r5 r6 => pPutCall_any w.heap.size v0 us0 s.calls[i] bi ni ci bv nv cv W r1 r2 S (rowIn.kept r5 (valE_keeps S) r3.size fun q hq _ => r3.block q (HSB.out q hq)) (rowIn.kept r6 (valE_keeps S) r3.size fun q hq _ => r3.block q (HSB.out q hq)) HSB.out (HSM.out.calls.1 _ (List.getElem_mem hi)).2.1.1 (HSM.out.calls.1 _ (List.getElem_mem hi)).2.2.1 (HSM.out.calls.1 _ (List.getElem_mem hi)).1.1 (HSM.out.calls.1 _ (List.getElem_mem hi)).1.2.1 (HSM.out.calls.1 _ (List.getElem_mem hi)).1.2.2 r4) (by have := HBb.out; rw [HU1.out]; simp only [List.length_append]; omega)
    obtain ⟨a0, a1, a2, a3, a4, a5, a6⟩ := HF9.out
    go_wp2_with fail
    refine ca.mono ?_
    clear ca a0 a1 a2 a3 a4 a5 a6
    rintro e z8 ⟨v8, rfl, h8⟩
    have HX8 : Hid (z8.heap[w.heap.size]? = some (.cells #[.int .i64 s.pos, .int .i64 s.st, .int .i64 s.ft, .slice bc nc cc, .slice bh nh ch, .string (strB s.out), .int .i64 s.rd] 27 (0, 0))) := h8.other HOP.out.row HBXP.out (by decide)
    have H8 : Hid (OwnTo w.heap.size v1 (.slice none 0 0) z8 v8 (U1 ++ allB calB s.calls)) := HOP.out.trans h8
    have HL8 : Hid (Below w.heap.size w z8) := HV1.out.trans (H8.out.low HR0.out HV1.out.size)
    obtain ⟨n8, b8, c8, rfl⟩ := own_form1 h8.row
    have ca := pAllObj_any w.heap.size (.slice b8 n8 c8) (U1 ++ allB calB s.calls) S s.heap (.slice bh nh ch) objB z8 H8.out.row HL8.out.size (HCIN.out z8 HL8.out).heap HSB.out (fun i hi bf nf cf W v0 us0 r1 r2 r3 r4 r5 => pPutObj_any w.heap.size v0 us0 S s.heap[i] bf nf cf W r1 r2 (rowIn.kept r5 (valE_keeps S) r3.size fun q hq _ => r3.block q (HSB.out q hq)) HSB.out (HSM.out.heap.1 _ (List.getElem_mem hi)).1 (HSM.out.heap.1 _ (List.getElem_mem hi)).2.1 r4) (by have := HBb.out; rw [HU1.out]; simp only [List.length_append]; omega)
    obtain ⟨a0, a1, a2, a3, a4, a5, a6⟩ := cells7 HX8.out
    clear h8
    go_wp2_with fail
    refine ca.mono ?_
    clear ca a0 a1 a2 a3 a4 a5 a6
    rintro e z9 ⟨v9, rfl, h9⟩
    have H9 : Hid (z9.ownsRow w.heap.size 5 1 v9 (snB s).length (Lib.byteCells (snB s))) := by
      have h1 := (H8.out.trans h9).row
      rw [HU1.out, List.append_assoc] at h1
      rw [HSN.out]
      exact h1
    have HL9 : Hid (Below w.heap.size w z9) := HV1.out.trans ((H8.out.trans h9).low HR0.out HV1.out.size)
    clear h9
    go_wp2
    go_ret2
    exact ⟨.inr ⟨HRE.out, _, rfl, H9.out⟩, HL9.out⟩
end Go.Proofs.YtbdgniiafdjmiaaGreatDoor
