/- code: a code as text: the walk. -/
import Derived.Test.YtechkkphbajmoaaGreatDoorCList
namespace Go.Proofs.YtechkkphbajmoaaGreatDoor
open Go.RowKit Go.Shelf

set_option maxRecDepth 100000 in
set_option maxHeartbeats 8000000 in
theorem cList_any (S : Nat → Prop) (c : Cd) (bs bh bu : Option Addr) (ns cs nh ch nu cu : Nat) (w : World) (hin : CodeIn S w c (.slice bs ns cs) (.slice bh nh ch) (.slice bu nu cu)) (hsm : SmallC c) (hints : IntsC c) (ht : TabsP w) (hot : OpT w) :
    Calls Tryz.prog 15 #[cdV (.slice bs ns cs) (.slice bh nh ch) (.slice bu nu cu) c.main] w fun e w' => ListRet w.heap.size c e w' ∧ Below w.heap.size w w' := by
  obtain ⟨m, hm⟩ : ∃ m, m = c.main := ⟨_, rfl⟩
  rw [← hm]
  obtain ⟨w2, hw2, hb2, HZ2, h0⟩ := box1 w (.cells #[.slice bs ns cs, .slice bh nh ch, .slice bu nu cu, .int .i64 m] 26)
  have HW2 : Hid (w2 = w.alloc (.cells #[.slice bs ns cs, .slice bh nh ch, .slice bu nu cu, .int .i64 m] 26)) := hw2
  have HB2 : Hid (Below w.heap.size w w2) := hb2
  have HBX : Hid (w2.heap[w.heap.size]? = some (.cells #[.slice bs ns cs, .slice bh nh ch, .slice bu nu cu, .int .i64 m] 26 (0, 0))) := h0
  have HLT : Hid (w.heap.size < w2.heap.size) := by have := HZ2.out; show _ < _; omega
  obtain ⟨hnu, hcap, hat⟩ : nu = c.units.length ∧ c.units.length ≤ cu ∧ ∀ i (hi : i < c.units.length), ∃ b o, bu = some ⟨b, o, none⟩ ∧ S b ∧ b < w.heap.size ∧ unE S w b (o + i * 7) c.units[i] := by
    obtain ⟨b, c1, e, h1, _, h⟩ := hin.units.at
    cases e
    exact ⟨rfl, h1, h⟩
  have HAT : Hid (∀ i (hi : i < c.units.length), ∃ b o, bu = some ⟨b, o, none⟩ ∧ S b ∧ b < w.heap.size ∧ unE S w b (o + i * 7) c.units[i]) := hat
  have c1 : Calls Tryz.prog 22 #[.agg #[.slice bs ns cs, .slice bh nh ch, .slice bu nu cu, .int .i64 m]] w2 fun e w' => e = .returned (.bool (rightC c)) ∧ Below w2.heap.size w2 w' := by
    rw [hm]; exact cIsRight_any S c bs bh bu ns cs nh ch nu cu w2 (hin.below hb2) hsm (ht.below hb2 (Nat.le_refl _)) (hot.below hb2 (Nat.le_refl _))
  obtain ⟨R, hR⟩ : ∃ R, R = rightC c := ⟨_, rfl⟩
  have HRE : Hid (R = rightC c) := hR
  have HNU : Hid (nu = c.units.length) := hnu
  have HT : Hid (∀ W, Below w.heap.size w W → TabsP W ∧ OpT W) := fun W hW => ⟨ht.below hW (Nat.le_refl _), hot.below hW (Nat.le_refl _)⟩
  have HSM : Hid (SmallC c) := hsm
  have HI : Hid (IntsC c) := hints
  have hnle : (nu : Int) ≤ 1048576 := by have := hsm.nunits; omega
  rw [← hR] at c1
  obtain ⟨i0, hinf, hz0, hz1, hz2⟩ := info_parts info_str
  clear hw2 hb2 h0 hR hin hsm hints ht hot HZ2 hm hat hnu
  cases R with
  | false =>
    go_enter Tryz.func15, Tryz.ntmps15
    go_wp2_with fail
    rw [← HW2.out]
    refine c1.mono ?_
    clear c1
    rintro e v1 ⟨rfl, hb1⟩
    have HV1 : Hid (Below w.heap.size w v1) := HB2.out.trans (hb1.mono HB2.out.size)
    clear hb1
    go_wp2
    go_ret2
    exact ⟨.inl ⟨HRE.out.symm, rfl⟩, HV1.out⟩
  | true =>
    have hparts := rightC_parts HRE.out.symm
    have HPARTS : Hid (∀ u ∈ c.units, unitR c.strs.length c.shapes.length c.units.length u = true) := hparts.2.1
    clear hparts
    go_enter Tryz.func15, Tryz.ntmps15
    go_wp2_with fail
    rw [← HW2.out]
    refine c1.mono ?_
    clear c1
    rintro e v1 ⟨rfl, hb1⟩
    have HX1 : Hid (v1.heap[w.heap.size]? = some (.cells #[.slice bs ns cs, .slice bh nh ch, .slice bu nu cu, .int .i64 m] 26 (0, 0))) := (hb1.block _ HLT.out).trans HBX.out
    have HV1 : Hid (Below w.heap.size w v1) := HB2.out.trans (hb1.mono HB2.out.size)
    obtain ⟨a0, a1, a2, a3⟩ := bcells4 HX1.out
    clear hb1
    go_wp2
    go_loopw [4, 15] (fun v vi wr => ∃ k : Nat, k ≤ nu ∧ vi = .int .i64 (k : Int) ∧ ListJ v1.heap.size v1 wr v (((c.units.take k).map unT).flatten)) (fun _ vi _ => nu - (intOf vi).toNat)
    case atStart => exact ⟨0, Nat.zero_le _, rfl, ⟨World.ownsRow_nil _ _ _ _, Below.refl _ _, Nat.le_refl _⟩⟩
    case round =>
      obtain ⟨k, hk, rfl, hJ⟩ := hrel
      have HJ : Hid (ListJ v1.heap.size v1 wr u4 (((c.units.take k).map unT).flatten)) := hJ
      have HBw : Hid (Below w.heap.size w wr) := HV1.out.trans (hJ.below.mono HV1.out.size)
      obtain ⟨n4, b4, c4, rfl⟩ := own_form1 hJ.row
      by_cases hlt : k < nu
      · have hlt2 : (k : Int) < nu := by omega
        have hku : k < c.units.length := by have := HNU.out; omega
        obtain ⟨b, o, rfl, -, hbl, hc⟩ := HAT.out k hku
        obtain ⟨e0, e1, e2, e3, e4, ⟨vi, e5, hvi⟩, vv, e6, hvv⟩ := hc
        have hii := hvi.at
        obtain ⟨bi, ci, rfl, hci, -, hiat⟩ := hii
        obtain ⟨bv, cv, rfl, -⟩ := hvv.at
        obtain ⟨u, hu⟩ : ∃ u, u = c.units[k] := ⟨_, rfl⟩
        have HUM : Hid (u ∈ c.units) := hu ▸ List.getElem_mem hku
        have HPRE : Hid (((c.units.take (k + 1)).map unT).flatten = ((c.units.take k).map unT).flatten ++ unT u) := by
          rw [hu]
          have h : c.units.take k ++ [c.units[k]] = c.units.take (k + 1) := List.take_append_getElem hku
          show _ = _
          rw [← h, List.map_append, List.flatten_append]
          simp
        simp only [← hu] at e0 e1 e2 e3 e4 e5 e6 hiat hci
        have HIAT : Hid (∀ i (hi : i < u.ins.length), ∃ b o, bi = some ⟨b, o, none⟩ ∧ S b ∧ b < w.heap.size ∧ insE w b (o + i * 2) u.ins[i]) := hiat
        obtain ⟨ni, hni⟩ : ∃ n, n = u.ins.length := ⟨_, rfl⟩
        obtain ⟨nv, hnv⟩ : ∃ n, n = u.vars.length := ⟨_, rfl⟩
        rw [← hni] at e5
        rw [← hnv] at e6
        have HNI : Hid (ni = u.ins.length) := hni
        have hup := unitR_parts (HPARTS.out u HUM.out)
        have hnile : (ni : Int) ≤ 4096 := by omega
        have HINS : Hid (∀ x ∈ u.ins, (0 ≤ x.op ∧ x.op < 35) ∧ (-9223372036854775808 ≤ x.a ∧ x.a ≤ 9223372036854775807)) := fun x hx => by
          obtain ⟨n, r, h1, h2, -⟩ := insR_parts (hup.2.2.2.2.2 x hx)
          have h3 : n < opsL.length := (List.getElem?_eq_some_iff.1 h2).1
          have h4 : n < 35 := h3
          exact ⟨by omega, (HI.out.ins u HUM.out x hx).2⟩
        have hnm : u.name.length ≤ 1048576 := HSM.out.unit u HUM.out
        have hcc : ∀ q, wr.cell? ⟨b, q, none⟩ = w.cell? ⟨b, q, none⟩ := fun q => below_cell HBw.out hbl
        rw [← hcc] at e0 e1 e2 e3 e4 e5 e6
        obtain ⟨F, hF⟩ : ∃ F, F = [102, 110, 32] ++ u.name := ⟨_, rfl⟩
        have s1 : ∀ W, (Op.stringOp .add (strB [102, 110, 32]) (strB u.name)).run Tryz.prog W = .ok (.string (strB F)) W := fun W => by rw [hF]; exact cstr_add W [102, 110, 32] u.name (by simp; omega)
        have s1' : ∀ W, (Op.stringOp .add ⟨#[102, 110, 32]⟩ (strB u.name)).run Tryz.prog W = .ok (.string (strB F)) W := s1
        obtain ⟨w3, hw3, hb3, HZ3, h3⟩ := box1 wr (.cells #[.string (strB u.name), .int .i64 u.params, .int .i64 u.slots, .int .i64 u.stack, .bool u.result, .slice bi ni ci, .slice bv nv cv] 58)
        have HW3 : Hid (w3 = wr.alloc (.cells #[.string (strB u.name), .int .i64 u.params, .int .i64 u.slots, .int .i64 u.stack, .bool u.result, .slice bi ni ci, .slice bv nv cv] 58)) := hw3
        have HX3 : Hid (w3.heap[wr.heap.size]? = some (.cells #[.string (strB u.name), .int .i64 u.params, .int .i64 u.slots, .int .i64 u.stack, .bool u.result, .slice bi ni ci, .slice bv nv cv] 58 (0, 0))) := h3
        have HJ3 : Hid (ListJ v1.heap.size v1 w3 (.slice b4 n4 c4) (((c.units.take k).map unT).flatten)) := hJ.new hb3
        obtain ⟨P, hP⟩ : ∃ P, P = ((c.units.take k).map unT).flatten := ⟨_, rfl⟩
        have HP : Hid (P = ((c.units.take k).map unT).flatten) := hP
        rw [← hP] at HJ3 HPRE
        have HPL : Hid (P.length ≤ 10000000) := by
          rw [HP.out]
          show _ ≤ _
          exact linesAll_len c (fun u hu => (unitR_parts (HPARTS.out u hu)).2.2.2.1.2) HSM.out.nunits k (by have := HNU.out; have := unitsFew HRE.out.symm; omega)
        have HFU : Hid (unT u = F :: linesT 0 u.ins) := by rw [hF]; exact rfl
        obtain ⟨y0, y1, y2, y3, y4, y5, y6⟩ := cells7 h3
        clear hJ HJ hu hvi hvv hup hcc hF hw3 hb3 h3 hni hnv hP hiat hnm hci
        go_upto_region 7 with fail
        rw [← HW3.out]
        clear e0 e1 e2 e3 e4 e5 e6
        go_wp2_with (first
          | (at_builtin; refine wpList_append_own_at _ rfl _ _ 22 rfl v1.heap.size 9 i0 (.string ⟨#[]⟩) 1 16 Tryz.underlying22 hinf hz0 hz1 hz2 rfl (by decide) _ _ _ rfl (HJ3.out.row.alloc _) ⟨w3.heap.size, 0, none⟩ 1 1 [.string (strB F)] rfl rfl (rcells_new _ _ _) (by simp [Value.oneCell']) (by have := HPL.out; unfold maxLen; omega) (by have := HPL.out; omega) (by have := HJ3.out.low; simp; omega) ?_; intro v' w9 hown9 hgrow9 hnil9 hloc9; have hx9 := keep_other (HJ3.out.row.alloc (.cells #[.string (strB F)] 9)) hgrow9 ((Below.heap_alloc _ _ _ (heap_lt HX3.out)).trans HX3.out) (by decide); have HX9 : Hid (w9.heap[wr.heap.size]? = some (.cells #[.string (strB u.name), .int .i64 u.params, .int .i64 u.slots, .int .i64 u.stack, .bool u.result, .slice bi ni ci, .slice bv nv cv] 58 (0, 0))) := hx9; have HJ9 : Hid (ListJ v1.heap.size v1 w9 v' (P ++ [F])) := HJ3.out.snoc rfl hown9 hgrow9; obtain ⟨g0, g1, g2, g3, g4, g5, g6⟩ := cells7 hx9; clear hown9 hgrow9 hnil9 hloc9 hx9)
          | go_in)
        go_loopw [4, 28] (fun v vi wr2 => ∃ j : Nat, j ≤ ni ∧ vi = .int .i64 (j : Int) ∧ ListJ v1.heap.size v1 wr2 v (P ++ (F :: linesT 0 (u.ins.take j)))) (fun _ vi _ => ni - (intOf vi).toNat)
        case atStart => exact ⟨0, Nat.zero_le _, rfl, HJ9.out⟩
        case round =>
          obtain ⟨j, hj, rfl, hJ2⟩ := hrel
          have HJ2 : Hid (ListJ v1.heap.size v1 wr u4 (P ++ (F :: linesT 0 (u.ins.take j)))) := hJ2
          have HBw2 : Hid (Below w.heap.size w wr) := HV1.out.trans (hJ2.below.mono HV1.out.size)
          obtain ⟨n5, b5, c5, rfl⟩ := own_form1 hJ2.row
          by_cases hjt : j < ni
          · have hjt2 : (j : Int) < ni := by omega
            have hju : j < u.ins.length := by have := HNI.out; omega
            obtain ⟨b7, o7, rfl, -, hbl7, hc7⟩ := HIAT.out j hju
            obtain ⟨x, hx⟩ : ∃ x, x = u.ins[j] := ⟨_, rfl⟩
            rw [← hx] at hc7
            obtain ⟨f0, f1⟩ := hc7
            have hcc : ∀ q, wr.cell? ⟨b7, q, none⟩ = w.cell? ⟨b7, q, none⟩ := fun q => below_cell HBw2.out hbl7
            rw [← hcc] at f0 f1
            have hxo := HINS.out x (hx ▸ List.getElem_mem hju)
            obtain ⟨w5, hw5, hb5, HZ5, h5⟩ := box1 wr (.cells #[.int .i64 x.op, .int .i64 x.a] 62)
            have HW5 : Hid (w5 = wr.alloc (.cells #[.int .i64 x.op, .int .i64 x.a] 62)) := hw5
            have HBX5 : Hid (w5.heap[wr.heap.size]? = some (.cells #[.int .i64 x.op, .int .i64 x.a] 62 (0, 0))) := h5
            have HJ5 : Hid (ListJ v1.heap.size v1 w5 (.slice b5 n5 c5) (P ++ (F :: linesT 0 (u.ins.take j)))) := hJ2.new hb5
            have HB5w : Hid (Below w.heap.size w w5) := HBw2.out.trans (hb5.mono HBw2.out.size)
            have HLX : Hid (wr.heap.size < w5.heap.size) := heap_lt h5
            obtain ⟨I, hI⟩ : ∃ I, I = Lib.itoa (j : Int) := ⟨_, rfl⟩
            have hIl : I.length ≤ 1000 := by rw [hI]; exact citoa_len j (by omega) (by omega)
            obtain ⟨M, hM⟩ : ∃ M, M = I ++ [32] := ⟨_, rfl⟩
            obtain ⟨IT, hIT⟩ : ∃ IT, IT = insT x := ⟨_, rfl⟩
            have hITl : IT.length ≤ 2000 := by rw [hIT]; exact insT_len hxo.1 hxo.2
            obtain ⟨LL, hLL⟩ : ∃ LL, LL = M ++ IT := ⟨_, rfl⟩
            have s2 : ∀ W, (Op.stringOp .add (strB I) (strB [32])).run Tryz.prog W = .ok (.string (strB M)) W := fun W => by rw [hM]; exact cstr_add W I [32] (by simp; omega)
            have s2' : ∀ W, (Op.stringOp .add (strB I) ⟨#[32]⟩).run Tryz.prog W = .ok (.string (strB M)) W := s2
            have s3 : ∀ W, (Op.stringOp .add (strB M) (strB IT)).run Tryz.prog W = .ok (.string (strB LL)) W := fun W => by rw [hLL]; exact cstr_add W M IT (by rw [hM]; simp; omega)
            have HNEW : Hid (P ++ (F :: linesT 0 (u.ins.take (j + 1))) = (P ++ (F :: linesT 0 (u.ins.take j))) ++ [LL]) := by
              rw [hLL, hM, hI, hIT, hx]
              show _ = _
              rw [linesT_snoc u.ins j hju]
              simp
            have C1 : Hid (∀ W, Below w.heap.size w W → Calls Tryz.prog 38 #[.int .i64 (j : Int)] W fun e w' => e = .returned (.string (strB I)) ∧ Below W.heap.size W w') := fun W hW => by
              rw [hI]
              refine (Tryz.strconv_Itoa j (by omega) (by omega) W (HT.out W hW).1.2).mono ?_
              rintro e w' ⟨he, q, os, hw'⟩
              refine ⟨he, ?_⟩
              rw [hw']
              exact Lib.below_grow W.heap.size W (Nat.le_refl _) q os
            have C2 : Hid (∀ W, Below w.heap.size w W → Calls Tryz.prog 39 #[.agg #[.int .i64 x.op, .int .i64 x.a]] W fun e w' => e = .returned (.string (strB IT)) ∧ Below W.heap.size W w') := fun W hW => by
              rw [hIT]
              exact cInsText_any x W (HT.out W hW).2 (HT.out W hW).1 hxo.1 hxo.2
            have HCF : Hid (∀ W, Below w5.heap.size w5 W → W.cell? ⟨wr.heap.size, 0, none⟩ = some (.int .i64 x.op) ∧ W.cell? ⟨wr.heap.size, 1, none⟩ = some (.int .i64 x.a)) := fun W hW => bcells2 ((hW.block _ HLX.out).trans HBX5.out)
            haveI hne : Nonempty (ClsP (fun W => W.cell? ⟨wr.heap.size, 0, none⟩ = some (.int .i64 x.op) ∧ W.cell? ⟨wr.heap.size, 1, none⟩ = some (.int .i64 x.a))) := ⟨⟨w5, HCF.out w5 (Below.refl _ _)⟩⟩
            have X0 : ∀ c : ClsP (fun W => W.cell? ⟨wr.heap.size, 0, none⟩ = some (.int .i64 x.op) ∧ W.cell? ⟨wr.heap.size, 1, none⟩ = some (.int .i64 x.a)), c.1.cell? ⟨wr.heap.size, 0, none⟩ = some (.int .i64 x.op) := fun c => c.2.1
            have X1 : ∀ c : ClsP (fun W => W.cell? ⟨wr.heap.size, 0, none⟩ = some (.int .i64 x.op) ∧ W.cell? ⟨wr.heap.size, 1, none⟩ = some (.int .i64 x.a)), c.1.cell? ⟨wr.heap.size, 1, none⟩ = some (.int .i64 x.a) := fun c => c.2.2
            have HPL2 : Hid ((P ++ (F :: linesT 0 (u.ins.take j))).length ≤ 10010000) := by
              have := HPL.out
              show _ ≤ _
              rw [List.length_append, List.length_cons, linesT_len, List.length_take]
              omega
            clear hJ2 hx hcc hxo hw5 hb5 h5 HZ5 hI hM hIT hLL hIl hITl
            go_upto_region 11 with fail
            rw [← HW5.out]
            clear f0 f1 g0 g1 g2 g3 g4 g5 g6 y0 y1 y2 y3 y4 y5 y6
            refine mix_begin (n := 10) (S := fun w' => ∃ c : ClsP (fun W => W.cell? ⟨wr.heap.size, 0, none⟩ = some (.int .i64 x.op) ∧ W.cell? ⟨wr.heap.size, 1, none⟩ = some (.int .i64 x.a)), w' = c.1) (by kernel_rfl) rfl rfl ?_
            refine mix_seg (fuel := 7) (fuel' := 10) (idx := [0, 1, 4]) (by kernel_rfl) rfl rfl rfl (fun _ _ _ _ _ h => h) ⟨⟨w5.drew, HCF.out w5.drew (Below.refl _ _).drew⟩, rfl⟩ ?_
            show wpQuiet _ _ _ _ [_, _, _] _
            iterate 3 (go_big_quiet_step (fail))
            refine wpQuiet_nil ?_
            have HV0 : Hid (Below w5.heap.size w5 w5.drew) := (Below.refl _ _).drew
            refine mix_loud (fuel := 6) (fuel' := 7) (i := 2) rfl (by kernel_rfl) rfl rfl (by rfl) ?_
            intro K hK
            go_simp
            refine (C1.out w5.drew (HB5w.out.trans (HV0.out.mono HB5w.out.size))).mono ?_
            rintro e z1 ⟨rfl, hb⟩
            have HZ1 : Hid (Below w5.heap.size w5 z1) := HV0.out.trans (hb.mono HV0.out.size)
            clear hb
            (try go_simp)
            refine hK.out _ _ ⟨⟨z1, HCF.out z1 HZ1.out⟩, rfl⟩ ?_
            clear hK K
            refine mix_seg (fuel := 5) (fuel' := 6) (idx := [3]) (by kernel_rfl) rfl rfl rfl (fun _ _ _ _ _ h => h) ⟨⟨z1, HCF.out z1 HZ1.out⟩, rfl⟩ ?_
            show wpQuiet _ _ _ _ [_] _
            iterate 1 (go_big_quiet_step (fail))
            refine wpQuiet_nil ?_
            refine mix_loud (fuel := 4) (fuel' := 5) (i := 5) rfl (by kernel_rfl) rfl rfl (by rfl) ?_
            intro K hK
            go_simp
            refine (C2.out z1 (HB5w.out.trans (HZ1.out.mono HB5w.out.size))).mono ?_
            rintro e z2 ⟨rfl, hb⟩
            have HZ2 : Hid (Below w5.heap.size w5 z2) := HZ1.out.trans (hb.mono HZ1.out.size)
            clear hb
            (try go_simp)
            refine hK.out _ _ ⟨⟨z2, HCF.out z2 HZ2.out⟩, rfl⟩ ?_
            clear hK K
            refine mix_seg (fuel := 3) (fuel' := 4) (idx := [6]) (by kernel_rfl) rfl rfl rfl (fun _ _ _ _ _ h => h) ⟨⟨z2, HCF.out z2 HZ2.out⟩, rfl⟩ ?_
            show wpQuiet _ _ _ _ [_] _
            iterate 1 (go_big_quiet_step (fail))
            refine wpQuiet_nil ?_
            refine mix_loud (fuel := 2) (fuel' := 3) (i := 7) rfl (by kernel_rfl) rfl rfl (by rfl) ?_
            intro K hK
            go_simp
            have HZb : Hid (Below w5.heap.size w5 (z2.alloc (.cells #[.string (strB LL)] 9))) := HZ2.out.alloc HZ2.out.size _
            refine hK.out _ _ ⟨⟨_, HCF.out _ HZb.out⟩, rfl⟩ ?_
            clear hK K
            have HJz : Hid (ListJ v1.heap.size v1 z2 (.slice b5 n5 c5) (P ++ (F :: linesT 0 (u.ins.take j)))) := HJ5.out.new HZ2.out
            refine mix_law (fuel := 1) (fuel' := 2) (i := 8) rfl (by kernel_rfl) rfl rfl (by rfl) ?_
            intro K hK
            refine cstep_append_at (.tmp 33) (.tmp 40) 22 rfl (by rfl) v1.heap.size 9 i0 (.string ⟨#[]⟩) 1 16 Tryz.underlying22 hinf hz0 hz1 hz2 rfl (by decide) _ _ _ rfl (HJz.out.row.alloc _) ⟨z2.heap.size, 0, none⟩ 1 1 [.string (strB LL)] rfl rfl (rcells_new _ _ _) (by simp [Value.oneCell']) (by have := HPL2.out; unfold maxLen; omega) (by have := HPL2.out; omega) (by have := HJz.out.low; simp; omega) ?_
            intro v' z3 hown hgr _
            have HJ6 : Hid (ListJ v1.heap.size v1 z3 v' ((P ++ (F :: linesT 0 (u.ins.take j))) ++ [LL])) := HJz.out.snoc rfl hown hgr
            have HX6 : Hid (z3.heap[wr.heap.size]? = some (.cells #[.int .i64 x.op, .int .i64 x.a] 62 (0, 0))) := keep_other (HJz.out.row.alloc _) hgr ((HZb.out.block _ HLX.out).trans HBX5.out) (by decide)
            refine hK.out _ _ ⟨⟨z3, bcells2 HX6.out⟩, rfl⟩ ?_
            clear hK K hown hgr
            simp only [Act.put, List.setIfInBounds_toArray, List.set_cons_zero, List.set_cons_succ]
            refine mix_seg (fuel := 0) (fuel' := 1) (idx := [9]) (by kernel_rfl) rfl rfl rfl (fun _ _ _ _ _ h => h) ⟨⟨z3, bcells2 HX6.out⟩, rfl⟩ ?_
            show wpQuiet _ _ _ _ [_] _
            iterate 1 (go_big_quiet_step (fail))
            refine wpQuiet_nil ?_
            refine mix_done (by kernel_rfl) ?_
            clear X0 X1 s1 s1' s2 s2' s3
            go_wp2
            exact ⟨⟨j + 1, by omega, by go_num, by rw [HNEW.out]; exact HJ6.out⟩, by simp [intOf]; omega⟩
          · obtain rfl : j = ni := by omega
            have hi2 : ¬ (j : Int) < j := by omega
            have HJE : Hid (ListJ v1.heap.size v1 wr (.slice b5 n5 c5) (((c.units.take (k + 1)).map unT).flatten)) := by
              rw [HPRE.out, HFU.out]
              have h9 := HJ2.out
              rw [HNI.out, List.take_length] at h9
              exact h9
            clear hJ2 g0 g1 g2 g3 g4 g5 g6 y0 y1 y2 y3 y4 y5 y6
            go_wp2
            exact ⟨⟨k + 1, by omega, by go_num, HJE.out⟩, by simp [intOf]; omega⟩
      · obtain rfl : k = nu := by omega
        have hi2 : ¬ (k : Int) < k := by omega
        have HE : Hid (wr.ownsRow w.heap.size 9 1 (.slice b4 n4 c4) (listT c).length (strC (listT c))) := by
          have h9 := HJ.out.row
          rw [HNU.out, List.take_length] at h9
          exact own_base0' h9 HV1.out.size
        clear hJ
        go_wp2
        go_ret2
        exact ⟨.inr ⟨HRE.out.symm, _, rfl, HE.out⟩, HBw.out⟩
end Go.Proofs.YtechkkphbajmoaaGreatDoor
