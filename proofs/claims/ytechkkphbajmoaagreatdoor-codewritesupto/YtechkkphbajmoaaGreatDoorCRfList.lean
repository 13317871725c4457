/- code: the document's own text of a code. -/
import Derived.Test.YtechkkphbajmoaaGreatDoorCRfRight
import Derived.Test.YtechkkphbajmoaaGreatDoorCRfBare
import Derived.Test.YtechkkphbajmoaaGreatDoorCList
namespace Go.Proofs.YtechkkphbajmoaaGreatDoor
open Go.RowKit Go.Shelf

set_option maxRecDepth 100000 in
set_option maxHeartbeats 8000000 in
theorem rfList (S : Nat → Prop) (c : Cd) (bs bh bu : Option Addr) (ns cs nh ch nu cu : Nat) (w : World) (hin : CodeIn S w c (.slice bs ns cs) (.slice bh nh ch) (.slice bu nu cu)) (hsm : SmallC c) (hints : IntsC c) (hun : ∀ u ∈ c.units, u.ins.length ≤ 1048576 ∧ u.vars.length ≤ 1048576) :
    Calls Tryz.prog 16 #[cdV (.slice bs ns cs) (.slice bh nh ch) (.slice bu nu cu) c.main] w fun e w' => ListRet w.heap.size c e w' ∧ Below w.heap.size w w' := by
  obtain ⟨m, hm⟩ : ∃ m, m = c.main := ⟨_, rfl⟩
  rw [← hm]
  obtain ⟨w2, hw2, hb2, HZ2, h0⟩ := box1 w (.cells #[.slice bs ns cs, .slice bh nh ch, .slice bu nu cu, .int .i64 m] 26)
  have HW2 : Hid (w2 = w.alloc (.cells #[.slice bs ns cs, .slice bh nh ch, .slice bu nu cu, .int .i64 m] 26)) := hw2
  have HB2 : Hid (Below w.heap.size w w2) := hb2
  have HF : Hid (∀ W, Below w2.heap.size w2 W → W.cell? ⟨w.heap.size, 0, none⟩ = some (.slice bs ns cs) ∧ W.cell? ⟨w.heap.size, 1, none⟩ = some (.slice bh nh ch) ∧ W.cell? ⟨w.heap.size, 2, none⟩ = some (.slice bu nu cu) ∧ W.cell? ⟨w.heap.size, 3, none⟩ = some (.int .i64 m)) := fun W hW => by
    have hz := HZ2.out
    exact bcells4 ((hW.block w.heap.size (by omega)).trans h0)
  have c1 : Calls Tryz.prog 25 #[.agg #[.slice bs ns cs, .slice bh nh ch, .slice bu nu cu, .int .i64 m]] w2 fun e w' => e = .returned (.bool (rightC c)) ∧ Below w2.heap.size w2 w' := by
    rw [hm]; exact rfRight S c bs bh bu ns cs nh ch nu cu w2 (hin.below hb2) hsm hints hun
  obtain ⟨R, hR⟩ : ∃ R, R = rightC c := ⟨_, rfl⟩
  have HRE : Hid (R = rightC c) := hR
  rw [← hR] at c1
  obtain ⟨hnu, hatu⟩ : nu = c.units.length ∧ ∀ i (hi : i < c.units.length), ∃ b o, bu = some ⟨b, o, none⟩ ∧ S b ∧ b < w.heap.size ∧ unE S w b (o + i * 7) c.units[i] := by obtain ⟨b, c, e, -, -, h⟩ := hin.units.at; cases e; exact ⟨rfl, h⟩
  have HAT : Hid (∀ i (hi : i < c.units.length), ∃ b o, bu = some ⟨b, o, none⟩ ∧ S b ∧ b < w.heap.size ∧ unE S w b (o + i * 7) c.units[i]) := hatu
  have HNU : Hid (nu = c.units.length) := hnu
  have HSM : Hid (SmallC c) := hsm
  have HI : Hid (IntsC c) := hints
  have hnle : (nu : Int) ≤ 1048576 := by have := hsm.nunits; omega
  obtain ⟨i0, hinf, hz0, hz1, hz2⟩ := info_parts info_str
  obtain ⟨p0, p1, p2, p3⟩ := HF.out w2 (Below.refl _ _)
  clear hw2 hb2 h0 hR hin hsm hints hun HZ2 hm hnu hatu
  go_enter Tryz.func16, Tryz.ntmps16
  go_wp2_with fail
  rw [← HW2.out]
  refine c1.mono ?_
  clear c1 p0 p1 p2 p3
  rintro e v1 ⟨rfl, hb1⟩
  have HV2 : Hid (Below w2.heap.size w2 v1) := hb1
  have HV1 : Hid (Below w.heap.size w v1) := HB2.out.trans (hb1.mono HB2.out.size)
  clear hb1
  cases R with
  | false =>
    go_wp2
    go_ret2
    exact ⟨.inl ⟨HRE.out.symm, rfl⟩, HV1.out⟩
  | true =>
    have hparts := rightC_parts HRE.out.symm
    have HPARTS : Hid (∀ u ∈ c.units, unitR c.strs.length c.shapes.length c.units.length u = true) := hparts.2.1
    clear hparts
    go_wp2
    go_loopw [4, 5] (fun v vi wr => ∃ k : Nat, k ≤ nu ∧ vi = .int .i64 (k : Int) ∧ ListJ v1.heap.size v1 wr v (((c.units.take k).map unT).flatten)) (fun _ vi _ => nu - (intOf vi).toNat)
    case atStart => exact ⟨0, Nat.zero_le _, rfl, ⟨World.ownsRow_nil _ _ _ _, Below.refl _ _, Nat.le_refl _⟩⟩
    case round =>
      obtain ⟨k, hk, rfl, hJ⟩ := hrel
      have HJ : Hid (ListJ v1.heap.size v1 wr u4 (((c.units.take k).map unT).flatten)) := hJ
      have HBr : Hid (Below w2.heap.size w2 wr) := HV2.out.trans (hJ.below.mono HV2.out.size)
      have HBw : Hid (Below w.heap.size w wr) := HV1.out.trans (hJ.below.mono HV1.out.size)
      obtain ⟨n4, b4, c4, rfl⟩ := own_form1 hJ.row
      obtain ⟨p0, p1, p2, p3⟩ := HF.out wr HBr.out
      by_cases hlt : k < nu
      · have hlt2 : (k : Int) < nu := by omega
        have hku : k < c.units.length := by have := HNU.out; omega
        obtain ⟨b, o, rfl, -, hbl, hc⟩ := HAT.out k hku
        obtain ⟨e0, e1, e2, e3, e4, ⟨vi, e5, hvi⟩, -⟩ := hc
        obtain ⟨bi, ci, rfl, hci, -, hiat⟩ := hvi.at
        obtain ⟨u, hu⟩ : ∃ u, u = c.units[k] := ⟨_, rfl⟩
        have HUM : Hid (u ∈ c.units) := hu ▸ List.getElem_mem hku
        have HPRE : Hid (((c.units.take (k + 1)).map unT).flatten = ((c.units.take k).map unT).flatten ++ unT u) := by
          rw [hu]
          have h : c.units.take k ++ [c.units[k]] = c.units.take (k + 1) := List.take_append_getElem hku
          show _ = _
          rw [← h, List.map_append, List.flatten_append]
          simp
        simp only [← hu] at e0 e5 hiat hci
        have HIAT : Hid (∀ i (hi : i < u.ins.length), ∃ b o, bi = some ⟨b, o, none⟩ ∧ S b ∧ b < w.heap.size ∧ insE w b (o + i * 2) u.ins[i]) := hiat
        obtain ⟨ni, hni⟩ : ∃ n, n = u.ins.length := ⟨_, rfl⟩
        rw [← hni] at e5
        have HNI : Hid (ni = u.ins.length) := hni
        have hup := unitR_parts (HPARTS.out u HUM.out)
        have hnile : (ni : Int) ≤ 4096 := by omega
        have HINS : Hid (∀ x ∈ u.ins, (∃ n : Nat, x.op = n ∧ n < opsL.length) ∧ (-9223372036854775808 ≤ x.a ∧ x.a ≤ 9223372036854775807)) := fun x hx => by
          obtain ⟨n, r, h1, h2, -⟩ := insR_parts (hup.2.2.2.2.2 x hx)
          have h3 : n < opsL.length := (List.getElem?_eq_some_iff.1 h2).1
          exact ⟨⟨n, h1, h3⟩, (HI.out.ins u HUM.out x hx).2⟩
        have hnm : u.name.length ≤ 1048576 := HSM.out.unit u HUM.out
        have HE5 : Hid (∀ W, Below w.heap.size w W → W.cell? ⟨b, o + k * 7 + 5, none⟩ = some (.slice bi ni ci)) := fun W hW => (below_cell hW hbl).trans e5
        have g0 := (below_cell HBw.out hbl).trans e0
        obtain ⟨F, hF⟩ : ∃ F, F = [102, 110, 32] ++ u.name := ⟨_, rfl⟩
        have s1 : ∀ W, (Op.stringOp .add (strB [102, 110, 32]) (strB u.name)).run Tryz.prog W = .ok (.string (strB F)) W := fun W => by rw [hF]; exact cstr_add W [102, 110, 32] u.name (by simp; omega)
        have s1' : ∀ W, (Op.stringOp .add ⟨#[102, 110, 32]⟩ (strB u.name)).run Tryz.prog W = .ok (.string (strB F)) W := s1
        obtain ⟨P, hP⟩ : ∃ P, P = ((c.units.take k).map unT).flatten := ⟨_, rfl⟩
        have HP : Hid (P = ((c.units.take k).map unT).flatten) := hP
        rw [← hP] at HJ HPRE
        have HPLN : Hid (P.length ≤ 10000000) := by
          rw [HP.out]
          show _ ≤ _
          exact linesAll_len c (fun u hu => (unitR_parts (HPARTS.out u hu)).2.2.2.1.2) HSM.out.nunits k (by have := HNU.out; have := unitsFew HRE.out.symm; omega)
        have HFU : Hid (unT u = F :: linesT 0 u.ins) := by rw [hF]; exact rfl
        have HKL : Hid (k < nu) := hlt
        clear hJ hu hvi hup hF hni hP hiat hnm hci e0 e1 e2 e3 e4 e5
        go_wp2_with (first
          | (at_builtin; refine wpList_append_own_at _ rfl _ _ 22 rfl v1.heap.size 9 i0 (.string ⟨#[]⟩) 1 16 Tryz.underlying22 hinf hz0 hz1 hz2 rfl (by decide) _ _ _ rfl (HJ.out.row.alloc _) ⟨wr.heap.size, 0, none⟩ 1 1 [.string (strB F)] rfl rfl (rcells_new _ _ _) (by simp [Value.oneCell']) (by have := HPLN.out; unfold maxLen; omega) (by have := HPLN.out; omega) (by have := HJ.out.low; simp; omega) ?_; intro v' w9 hown9 hgrow9 hnil9 hloc9; have HJ9 : Hid (ListJ v1.heap.size v1 w9 v' (P ++ [F])) := HJ.out.snoc rfl hown9 hgrow9; clear hown9 hgrow9 hnil9 hloc9)
          | go_in)
        clear s1 s1' g0 p0 p1 p2 p3
        have HPL1 : Hid (P.length ≤ 10000000) := HPLN.out
        clear HPLN
        go_loopw [4, 6] (fun v vi wr2 => ∃ j : Nat, j ≤ ni ∧ vi = .int .i64 (j : Int) ∧ ListJ v1.heap.size v1 wr2 v (P ++ (F :: linesT 0 (u.ins.take j)))) (fun _ vi _ => ni - (intOf vi).toNat)
        case atStart => exact ⟨0, Nat.zero_le _, rfl, HJ9.out⟩
        case round =>
          obtain ⟨j, hj, rfl, hJ2⟩ := hrel
          have HJ2 : Hid (ListJ v1.heap.size v1 wr u4 (P ++ (F :: linesT 0 (u.ins.take j)))) := hJ2
          have HBr2 : Hid (Below w2.heap.size w2 wr) := HV2.out.trans (hJ2.below.mono HV2.out.size)
          have HBw2 : Hid (Below w.heap.size w wr) := HV1.out.trans (hJ2.below.mono HV1.out.size)
          obtain ⟨n5, b5, c5, rfl⟩ := own_form1 hJ2.row
          obtain ⟨p0, p1, p2, p3⟩ := HF.out wr HBr2.out
          have g5 := HE5.out wr HBw2.out
          by_cases hjt : j < ni
          · have hjt2 : (j : Int) < ni := by omega
            have hju : j < u.ins.length := by have := HNI.out; omega
            obtain ⟨b7, o7, rfl, -, hbl7, hc7⟩ := HIAT.out j hju
            obtain ⟨x, hx⟩ : ∃ x, x = u.ins[j] := ⟨_, rfl⟩
            rw [← hx] at hc7
            obtain ⟨f0, f1⟩ := hc7
            have hcc : ∀ q, wr.cell? ⟨b7, q, none⟩ = w.cell? ⟨b7, q, none⟩ := fun q => below_cell HBw2.out hbl7
            rw [← hcc] at f0 f1
            obtain ⟨⟨n, hop, hn⟩, hxa⟩ := HINS.out x (hx ▸ List.getElem_mem hju)
            obtain ⟨xo, xa⟩ := x
            simp only at f0 f1 hop hxa
            subst hop
            obtain ⟨nm, hnm2⟩ : ∃ s, s = nmR (n : Int) := ⟨_, rfl⟩
            have hnml : nm.length ≤ 8 := by rw [hnm2, nmR_at hn]; exact ops_name _ (List.getElem_mem hn)
            obtain ⟨BB, hBB⟩ : ∃ B, B = decide ((opsL[n]'hn).2.1 = 0) := ⟨_, rfl⟩
            obtain ⟨I, hI⟩ : ∃ I, I = Lib.decDigits j := ⟨_, rfl⟩
            have hIl : I.length ≤ 100 := by rw [hI]; exact dec_len j (by omega)
            obtain ⟨IA, hIA⟩ : ∃ I, I = Lib.itoa xa := ⟨_, rfl⟩
            have hIAl : IA.length ≤ 1000 := by rw [hIA]; exact citoa_len xa hxa.1 hxa.2
            obtain ⟨M, hM⟩ : ∃ M, M = I ++ [32] := ⟨_, rfl⟩
            obtain ⟨L1, hL1⟩ : ∃ L, L = M ++ nm := ⟨_, rfl⟩
            obtain ⟨L2, hL2⟩ : ∃ L, L = L1 ++ [32] := ⟨_, rfl⟩
            obtain ⟨LL, hLL⟩ : ∃ L, L = L2 ++ IA := ⟨_, rfl⟩
            have hMl : M.length ≤ 200 := by rw [hM]; simp; omega
            have hL1l : L1.length ≤ 300 := by rw [hL1]; simp; omega
            have hL2l : L2.length ≤ 400 := by rw [hL2]; simp; omega
            have s2 : ∀ W, (Op.stringOp .add (strB I) (strB [32])).run Tryz.prog W = .ok (.string (strB M)) W := fun W => by rw [hM]; exact cstr_add W I [32] (by simp; omega)
            have s2' : ∀ W, (Op.stringOp .add (strB I) ⟨#[32]⟩).run Tryz.prog W = .ok (.string (strB M)) W := s2
            have s3 : ∀ W, (Op.stringOp .add (strB M) (strB nm)).run Tryz.prog W = .ok (.string (strB L1)) W := fun W => by rw [hL1]; exact cstr_add W M nm (by omega)
            have s4 : ∀ W, (Op.stringOp .add (strB L1) (strB [32])).run Tryz.prog W = .ok (.string (strB L2)) W := fun W => by rw [hL2]; exact cstr_add W L1 [32] (by simp; omega)
            have s4' : ∀ W, (Op.stringOp .add (strB L1) ⟨#[32]⟩).run Tryz.prog W = .ok (.string (strB L2)) W := s4
            have s5 : ∀ W, (Op.stringOp .add (strB L2) (strB IA)).run Tryz.prog W = .ok (.string (strB LL)) W := fun W => by rw [hLL]; exact cstr_add W L2 IA (by omega)
            have hitoa : Lib.itoa (j : Int) = Lib.decDigits j := by
              unfold Lib.itoa
              rw [if_neg (by omega)]
              simp
            have hins : insT ⟨n, xa⟩ = if (opsL[n]'hn).2.1 = 0 then nm else (nm ++ [32]) ++ IA := by
              unfold insT
              simp only [Int.toNat_natCast, List.getElem?_eq_getElem hn]
              rw [hnm2, nmR_at hn, hIA]
            have HNEW : Hid (∀ LN, LN = (if BB = true then L1 else LL) → P ++ (F :: linesT 0 (u.ins.take (j + 1))) = (P ++ (F :: linesT 0 (u.ins.take j))) ++ [LN]) := fun LN hLN => by
              have e : (Lib.itoa (j : Int) ++ [32]) ++ insT u.ins[j] = LN := by
                rw [← hx, hins, hLN, hitoa, hLL, hL2, hL1, hM, hI, hBB]
                by_cases h0 : (opsL[n]'hn).2.1 = 0
                · rw [if_pos h0, if_pos (decide_eq_true h0)]
                · rw [if_neg h0, if_neg (by simp [h0])]
                  simp
              rw [linesT_snoc u.ins j hju, e]
              simp
            have C1 : Hid (∀ W, Calls Tryz.prog 40 #[.int .i64 (j : Int)] W fun e w' => e = .returned (.string (strB I)) ∧ Below W.heap.size W w') := fun W => by
              rw [hI]; exact refDigits_any j W (by omega)
            have C2 : Hid (∀ W, Calls Tryz.prog 41 #[.int .i64 (n : Int)] W fun e w' => e = .returned (.string (strB nm)) ∧ Below W.heap.size W w') := fun W => by
              rw [hnm2]; exact rfNm (n : Int) W
            have C3 : Hid (∀ W, Calls Tryz.prog 42 #[.int .i64 (n : Int)] W fun e w' => e = .returned (.bool BB) ∧ Below W.heap.size W w') := fun W => by
              rw [hBB]; exact rfBare n hn W
            have C4 : Hid (∀ W, Calls Tryz.prog 43 #[.int .i64 xa] W fun e w' => e = .returned (.string (strB IA)) ∧ Below W.heap.size W w') := fun W => by
              rw [hIA]; exact rfDig06 xa W hxa.1 hxa.2
            obtain ⟨w5, hw5, hb5, HZ5, h5⟩ := box1 wr (.cells #[.int .i64 (n : Int), .int .i64 xa] 62)
            have HW5 : Hid (w5 = wr.alloc (.cells #[.int .i64 (n : Int), .int .i64 xa] 62)) := hw5
            have HB5w : Hid (Below w.heap.size w w5) := HBw2.out.trans (hb5.mono HBw2.out.size)
            have HJ5 : Hid (ListJ v1.heap.size v1 w5 (.slice b5 n5 c5) (P ++ (F :: linesT 0 (u.ins.take j)))) := HJ2.out.new hb5
            have HX5 : Hid (∀ W, Below w5.heap.size w5 W → W.cell? ⟨wr.heap.size, 0, none⟩ = some (.int .i64 (n : Int)) ∧ W.cell? ⟨wr.heap.size, 1, none⟩ = some (.int .i64 xa)) := fun W hW => bcells2 ((hW.block _ (heap_lt h5)).trans h5)
            have HS5 : Hid (wr.heap.size < w5.heap.size) := heap_lt h5
            have HPLN : Hid ((P ++ (F :: linesT 0 (u.ins.take j))).length ≤ 10010000) := by
              have := HPL1.out
              show _ ≤ _
              rw [List.length_append, List.length_cons, linesT_len, List.length_take]
              omega
            have D1 : Hid (∀ W, Below w5.heap.size w5 W → Calls Tryz.prog 40 #[.int .i64 (j : Int)] W fun e w' => e = .returned (.string (strB I)) ∧ Below w5.heap.size w5 w') := fun W hW => (C1.out W).mono fun e w' ⟨he, hb⟩ => ⟨he, hW.trans (hb.mono hW.size)⟩
            have D2 : Hid (∀ W, Below w5.heap.size w5 W → Calls Tryz.prog 41 #[.int .i64 (n : Int)] W fun e w' => e = .returned (.string (strB nm)) ∧ Below w5.heap.size w5 w') := fun W hW => (C2.out W).mono fun e w' ⟨he, hb⟩ => ⟨he, hW.trans (hb.mono hW.size)⟩
            obtain ⟨x0, x1⟩ := HX5.out w5 (Below.refl _ _)
            have z0 := cls_cell (n := w5.heap.size) x0 (by have := HS5.out; simp only; omega)
            obtain ⟨Q, hQ⟩ : ∃ Q, Q = P ++ (F :: linesT 0 (u.ins.take j)) := ⟨_, rfl⟩
            rw [← hQ] at HJ5 HPLN HNEW
            clear hJ2 HJ2 hx hcc hxa hw5 hb5 h5 HZ5 hI hM hIl hIA hIAl hL1 hL2 hLL hMl hL1l hL2l hitoa hins hnm2 hnml hBB x0 x1 hQ hn C1 C2
            go_upto_region 12 with fail
            rw [← HW5.out]
            clear f0 f1 p0 p1 p2 p3 g5
            refine wp_region_cls (n := w5.heap.size) (w0 := w5) (Below.refl _ _) (by kernel_rfl) (by kernel_rfl) ?_
            iterate 1 (go_big_quiet_step (fail))
            go_big_quiet_step (exact cls_calls D1.out _)
            iterate 3 (go_big_quiet_step (fail))
            go_big_quiet_step (exact cls_calls D2.out _)
            iterate 2 (go_big_quiet_step (fail))
            refine wpQuiet_nil ?_
            rintro _ ⟨cc, rfl⟩
            obtain ⟨w6, hb6⟩ := cc
            dsimp only
            have HB6 : Hid (Below w5.heap.size w5 w6) := hb6
            have HJ6 : Hid (ListJ v1.heap.size v1 w6 (.slice b5 n5 c5) Q) := HJ5.out.new hb6
            obtain ⟨x0, x1⟩ := HX5.out w6 hb6
            have c3 := C3.out w6
            clear hb6 z0 s2 s2' s3
            go_wp2_with fail
            refine c3.mono ?_
            clear c3 x0 x1
            rintro e w7 ⟨rfl, hb7⟩
            have HB7 : Hid (Below w5.heap.size w5 w7) := HB6.out.trans (hb7.mono HB6.out.size)
            have HJ7 : Hid (ListJ v1.heap.size v1 w7 (.slice b5 n5 c5) Q) := HJ6.out.new hb7
            clear hb7
            cases BB with
            | true =>
              have HNX : Hid (P ++ (F :: linesT 0 (u.ins.take (j + 1))) = Q ++ [L1]) := HNEW.out L1 (by rw [if_pos rfl])
              clear HNEW s4 s4' s5
              go_wp2_with (first
                | (at_builtin; refine wpList_append_own_at _ rfl _ _ 22 rfl v1.heap.size 9 i0 (.string ⟨#[]⟩) 1 16 Tryz.underlying22 hinf hz0 hz1 hz2 rfl (by decide) _ _ _ rfl (HJ7.out.row.alloc _) ⟨w7.heap.size, 0, none⟩ 1 1 [.string (strB L1)] rfl rfl (rcells_new _ _ _) (by simp [Value.oneCell']) (by have := HPLN.out; unfold maxLen; omega) (by have := HPLN.out; omega) (by have := HJ7.out.low; simp; omega) ?_; intro v' w9 hown9 hgrow9 hnil9 hloc9; have HJ9 : Hid (ListJ v1.heap.size v1 w9 v' (Q ++ [L1])) := HJ7.out.snoc rfl hown9 hgrow9; clear hown9 hgrow9 hnil9 hloc9)
                | go_in)
              exact ⟨⟨j + 1, by omega, by go_num, by rw [HNX.out]; exact HJ9.out⟩, by simp [intOf]; omega⟩
            | false =>
              have HNX : Hid (P ++ (F :: linesT 0 (u.ins.take (j + 1))) = Q ++ [LL]) := HNEW.out LL (by rw [if_neg (by simp)])
              obtain ⟨x0, x1⟩ := HX5.out w7 HB7.out
              have c4 := C4.out w7
              clear HNEW
              go_wp2_with fail
              refine c4.mono ?_
              clear c4 x0 x1
              rintro e w8 ⟨rfl, hb8⟩
              have HJ8 : Hid (ListJ v1.heap.size v1 w8 (.slice b5 n5 c5) Q) := HJ7.out.new hb8
              clear hb8
              go_wp2_with (first
                | (at_builtin; refine wpList_append_own_at _ rfl _ _ 22 rfl v1.heap.size 9 i0 (.string ⟨#[]⟩) 1 16 Tryz.underlying22 hinf hz0 hz1 hz2 rfl (by decide) _ _ _ rfl (HJ8.out.row.alloc _) ⟨w8.heap.size, 0, none⟩ 1 1 [.string (strB LL)] rfl rfl (rcells_new _ _ _) (by simp [Value.oneCell']) (by have := HPLN.out; unfold maxLen; omega) (by have := HPLN.out; omega) (by have := HJ8.out.low; simp; omega) ?_; intro v' w9 hown9 hgrow9 hnil9 hloc9; have HJ9 : Hid (ListJ v1.heap.size v1 w9 v' (Q ++ [LL])) := HJ8.out.snoc rfl hown9 hgrow9; clear hown9 hgrow9 hnil9 hloc9)
                | go_in)
              exact ⟨⟨j + 1, by omega, by go_num, by rw [HNX.out]; exact HJ9.out⟩, by simp [intOf]; omega⟩
          · obtain rfl : j = ni := by omega
            have hi2 : ¬ (j : Int) < j := by omega
            have HJE : Hid (ListJ v1.heap.size v1 wr (.slice b5 n5 c5) (((c.units.take (k + 1)).map unT).flatten)) := by
              rw [HPRE.out, HFU.out]
              have h9 := HJ2.out
              rw [HNI.out, List.take_length] at h9
              exact h9
            clear hJ2
            go_wp2
            exact ⟨⟨k + 1, by have := HKL.out; omega, by go_num, HJE.out⟩, by have := HKL.out; simp [intOf]; omega⟩
      · obtain rfl : k = nu := by omega
        have hi2 : ¬ (k : Int) < k := by omega
        have HE : Hid (wr.ownsRow w.heap.size 9 1 (.slice b4 n4 c4) (listT c).length (strC (listT c))) := by
          have h9 := HJ.out.row
          rw [HNU.out, List.take_length] at h9
          exact own_base0' h9 HV1.out.size
        clear hJ
        go_wp2
        go_ret2
        exact ⟨.inr ⟨HRE.out.symm, _, rfl, HE.out⟩, HBw.out⟩
end Go.Proofs.YtechkkphbajmoaaGreatDoor
