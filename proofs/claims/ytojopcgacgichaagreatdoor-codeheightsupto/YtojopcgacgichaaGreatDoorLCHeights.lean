/- CodeHeights: the walk. -/
import Derived.Test.YtojopcgacgichaaGreatDoorCHtMath
import Derived.Test.YtojopcgacgichaaGreatDoorCLives7
namespace Go.Proofs.YtojopcgacgichaaGreatDoor
open Go.RowKit Go.Shelf

set_option maxRecDepth 100000 in
set_option maxHeartbeats 8000000 in
theorem codeHeights_any (S : Nat → Prop) (c : Cd) (bs bh bu : Option Addr) (ns cs nh ch nu cu : Nat) (w : World) (hin : CodeIn S w c (.slice bs ns cs) (.slice bh nh ch) (.slice bu nu cu)) (hsm : SmallC c) (hun : ∀ u ∈ c.units, u.ins.length ≤ 1048576 ∧ u.vars.length ≤ 1048576) (ht : TabsP w) (hot : OpT w) :
    Calls Tryz.prog 7 #[cdV (.slice bs ns cs) (.slice bh nh ch) (.slice bu nu cu) c.main] w fun e w' => e = .returned (.bool true) ∧ Below w.heap.size w w' := by
  have hns : ns = c.strs.length := by obtain ⟨b, c, e, -⟩ := hin.strs.at; cases e; rfl
  have hnh : nh = c.shapes.length := by obtain ⟨b, c, e, -⟩ := hin.shapes.at; cases e; rfl
  have hnu : nu = c.units.length := by obtain ⟨b, c, e, -⟩ := hin.units.at; cases e; rfl
  obtain ⟨m, hm⟩ : ∃ m, m = c.main := ⟨_, rfl⟩
  rw [← hm]
  obtain ⟨w1, hw1, hb1, HZ1, h1⟩ := box1 w (.cells #[.slice bs ns cs, .slice bh nh ch, .slice bu nu cu, .int .i64 m] 26)
  have HW1 : Hid (w1 = w.alloc (.cells #[.slice bs ns cs, .slice bh nh ch, .slice bu nu cu, .int .i64 m] 26)) := hw1
  have HB1 : Hid (Below w.heap.size w w1) := hb1
  have HLT : Hid (w.heap.size < w1.heap.size) := heap_lt h1
  have HF : Hid (∀ W, Below w1.heap.size w1 W → W.cell? ⟨w.heap.size, 0, none⟩ = some (.slice bs ns cs) ∧ W.cell? ⟨w.heap.size, 1, none⟩ = some (.slice bh nh ch) ∧ W.cell? ⟨w.heap.size, 2, none⟩ = some (.slice bu nu cu) ∧ W.cell? ⟨w.heap.size, 3, none⟩ = some (.int .i64 m)) := fun W hW => bcells4 ((hW.block w.heap.size HLT.out).trans h1)
  have HBW : Hid (∀ W, Below w1.heap.size w1 W → Below w.heap.size w W) := fun W hW => hb1.trans (hW.mono hb1.size)
  have HCIN : Hid (∀ W, Below w.heap.size w W → CodeIn S W c (.slice bs ns cs) (.slice bh nh ch) (.slice bu nu cu)) := fun W hW => hin.below hW
  have HT : Hid (∀ W, Below w.heap.size w W → TabsP W ∧ OpT W) := fun W hW => ⟨ht.below hW (Nat.le_refl _), hot.below hW (Nat.le_refl _)⟩
  have HUN : Hid (∀ i (hi : i < c.units.length), ∃ b o, bu = some ⟨b, o, none⟩ ∧ S b ∧ b < w.heap.size ∧ unE S w b (o + i * 7) c.units[i]) := by obtain ⟨b, c1, e, _, _, h⟩ := hin.units.at; cases e; exact h
  have HNU : Hid (nu = c.units.length) := hnu
  have hnuI : (nu : Int) ≤ 1048576 := by have := hsm.nunits; omega
  have CH : Hid (∀ (W : World) (n : Int), Below w.heap.size w W → Calls Tryz.prog 11 #[cdV (.slice bs ns cs) (.slice bh nh ch) (.slice bu nu cu) m, .int .i64 n] W fun e w' => HtRet W.heap.size c n e w' ∧ Below W.heap.size W w') := fun W n hW => by
    rw [hm]; exact cHeights_any S c n bs bh bu ns cs nh ch nu cu W (HCIN.out W hW) hsm (HT.out W hW).1 (HT.out W hW).2
  have CC : Hid (∀ (W : World), Below w.heap.size w W → Calls Tryz.prog 13 #[cdV (.slice bs ns cs) (.slice bh nh ch) (.slice bu nu cu) m] W fun e w' => e = .returned (.int .i64 (if rightC c then 0 else 2)) ∧ Below W.heap.size W w') := fun W hW => by
    rw [hm]; exact cCheck_any S c bs bh bu ns cs nh ch nu cu W (HCIN.out W hW) hsm (HT.out W hW).1 (HT.out W hW).2
  have CL : Hid (∀ (W : World), Below w.heap.size w W → Calls Tryz.prog 9 #[cdV (.slice bs ns cs) (.slice bh nh ch) (.slice bu nu cu) m] W fun e w' => Told e ∧ Below W.heap.size W w') := fun W hW => by
    rw [hm]; exact light_any S c bs bh bu ns cs nh ch nu cu W (HCIN.out W hW) (by have := hsm.nstrs; omega) (by have := hsm.nshapes; omega) (by have := hsm.nunits; omega) hun
  have CV : Hid (∀ (W : World), Below w.heap.size w W → Calls Tryz.prog 10 #[] W fun e w' => e = .returned (.bool true) ∧ Below W.heap.size W w') := fun W hW => lives07_any W (HT.out W hW).1 (HT.out W hW).2
  obtain ⟨f0, f1, f2, f3⟩ := HF.out w1 (Below.refl _ _)
  have c1 := CL.out w1 hb1
  clear hns hnh hnu hm hw1 hb1 h1 hin hsm hun ht hot HZ1
  go_enter Tryz.func7, Tryz.ntmps7
  go_wp2_with fail
  rw [← HW1.out]
  refine c1.mono ?_
  clear c1 f0 f1 f2 f3
  rintro e w2 ⟨⟨L, rfl⟩, hb2⟩
  have HB2 : Hid (Below w1.heap.size w1 w2) := hb2
  have HBw2 : Hid (Below w.heap.size w w2) := HBW.out _ hb2
  clear hb2
  cases L with
  | false =>
    have c2 := CV.out w2 HBw2.out
    go_wp2_with fail
    refine c2.mono ?_
    clear c2
    rintro e w3 ⟨rfl, hb3⟩
    have HBw3 : Hid (Below w.heap.size w w3) := HBw2.out.trans (hb3.mono HBw2.out.size)
    clear hb3
    go_wp2
    go_ret
    exact ⟨rfl, HBw3.out⟩
  | true =>
    obtain ⟨f0, f1, f2, f3⟩ := HF.out w2 HB2.out
    have c2 := CC.out w2 HBw2.out
    obtain ⟨R, hR⟩ : ∃ R, R = rightC c := ⟨_, rfl⟩
    rw [← hR] at c2
    have HR : Hid (R = rightC c) := hR
    clear hR
    go_wp2_with fail
    refine c2.mono ?_
    clear c2 f0 f1 f2 f3
    rintro e w3 ⟨rfl, hb3⟩
    have HB3 : Hid (Below w1.heap.size w1 w3) := HB2.out.trans (hb3.mono HB2.out.size)
    have HBw3 : Hid (Below w.heap.size w w3) := HBW.out _ HB3.out
    clear hb3
    cases R with
    | false =>
      have c3 := CV.out w3 HBw3.out
      go_wp2_with fail
      refine c3.mono ?_
      clear c3
      rintro e w4 ⟨rfl, hb4⟩
      have HBw4 : Hid (Below w.heap.size w w4) := HBw3.out.trans (hb4.mono HBw3.out.size)
      clear hb4
      go_wp2
      go_ret
      exact ⟨rfl, HBw4.out⟩
    | true =>
      go_wp2_with fail
      go_loopw [3] (fun vi wr => ∃ i : Nat, i ≤ nu ∧ vi = .int .i64 (i : Int) ∧ Below w1.heap.size w1 wr) (fun vi _ => nu - (intOf vi).toNat)
      case atStart => exact ⟨0, Nat.zero_le _, rfl, HB3.out⟩
      case round =>
        obtain ⟨i, hi, rfl, hbr⟩ := hrel
        have HB : Hid (Below w1.heap.size w1 wr) := hbr
        have HBw : Hid (Below w.heap.size w wr) := HBW.out _ hbr
        clear hbr
        by_cases hlt : i < nu
        · have hi2 : (i : Int) < nu := by omega
          have hil : i < c.units.length := by have := HNU.out; omega
          obtain ⟨f0, f1, f2, f3⟩ := HF.out wr HB.out
          obtain ⟨b, o, hbu, -, hbl, hue⟩ := HUN.out i hil
          subst hbu
          obtain ⟨u, hu⟩ : ∃ u, u = c.units[i] := ⟨_, rfl⟩
          rw [← hu] at hue
          have HOK : Hid (HtOk u (hts c u)) := hts_ok HR.out.symm (by rw [hu]; exact List.getElem_mem hil)
          obtain ⟨e0, e1, e2, e3, e4, ⟨vi, e5, hii⟩, vv, e6, hvv⟩ := hue
          obtain ⟨bi, ci, rfl, -, -, hia⟩ := hii.at
          obtain ⟨bv, cv, rfl, -, -, -⟩ := hvv.at
          have HIA : Hid (∀ j (hj : j < u.ins.length), ∃ g o, bi = some ⟨g, o, none⟩ ∧ S g ∧ g < w.heap.size ∧ insE w g (o + j * 2) u.ins[j]) := hia
          replace e0 := (below_cell HBw.out hbl).trans e0
          replace e1 := (below_cell HBw.out hbl).trans e1
          replace e2 := (below_cell HBw.out hbl).trans e2
          replace e3 := (below_cell HBw.out hbl).trans e3
          replace e4 := (below_cell HBw.out hbl).trans e4
          replace e5 := (below_cell HBw.out hbl).trans e5
          replace e6 := (below_cell HBw.out hbl).trans e6
          obtain ⟨ni, hni⟩ : ∃ n, n = u.ins.length := ⟨_, rfl⟩
          have HNI : Hid (ni = u.ins.length) := hni
          obtain ⟨nv, hnv⟩ : ∃ n, n = u.vars.length := ⟨_, rfl⟩
          rw [← hni] at e5
          rw [← hnv] at e6
          obtain ⟨nm, hnm⟩ : ∃ x, x = u.name := ⟨_, rfl⟩
          obtain ⟨pa, hpa⟩ : ∃ x, x = u.params := ⟨_, rfl⟩
          obtain ⟨sl, hsl⟩ : ∃ x, x = u.slots := ⟨_, rfl⟩
          obtain ⟨st, hst⟩ : ∃ x, x = u.stack := ⟨_, rfl⟩
          obtain ⟨re, hre⟩ : ∃ x, x = u.result := ⟨_, rfl⟩
          have HST : Hid (st = u.stack) := hst
          rw [← hnm] at e0
          rw [← hpa] at e1
          rw [← hsl] at e2
          rw [← hst] at e3
          rw [← hre] at e4
          obtain ⟨w4, hw4, hb4, HZ4, h4⟩ := box1 wr (.cells #[.string (strB nm), .int .i64 pa, .int .i64 sl, .int .i64 st, .bool re, .slice bi ni ci, .slice bv nv cv] 59)
          have HW4 : Hid (w4 = wr.alloc (.cells #[.string (strB nm), .int .i64 pa, .int .i64 sl, .int .i64 st, .bool re, .slice bi ni ci, .slice bv nv cv] 59)) := hw4
          have HBX : Hid (w4.heap[wr.heap.size]? = some (.cells #[.string (strB nm), .int .i64 pa, .int .i64 sl, .int .i64 st, .bool re, .slice bi ni ci, .slice bv nv cv] 59 (0, 0))) := h4
          have HB4 : Hid (Below w1.heap.size w1 w4) := HB.out.trans (hb4.mono HB.out.size)
          have HBw4 : Hid (Below w.heap.size w w4) := HBW.out _ HB4.out
          obtain ⟨g0, g1, g2, g3⟩ := HF.out w4 HB4.out
          have c4 := CH.out w4 (i : Int) HBw4.out
          have HIU : Hid (u = c.units[i]) := hu
          clear hu hii hvv hia hni hnv hnm hpa hsl hst hre hw4 hb4 h4 HZ4
          go_upto_region 7 with fail
          rw [← HW4.out]
          go_wp2_with fail
          refine c4.mono ?_
          clear c4 e0 e1 e2 e3 e4 e5 e6 f0 f1 f2 f3 g0 g1 g2 g3
          rintro e w5 ⟨hret, hb5⟩
          have H45 : Hid (Below w4.heap.size w4 w5) := hb5
          have HB5 : Hid (Below w1.heap.size w1 w5) := HB4.out.trans (hb5.mono HB4.out.size)
          have HBw5 : Hid (Below w.heap.size w w5) := HBW.out _ HB5.out
          obtain ⟨v, he, hrow⟩ : ∃ v, e = .returned (.tuple #[v, .int .i64 0]) ∧ rowIn (fun b => w4.heap.size ≤ b) w5 v 1 intE (hts c u) := by
            rcases hret with ⟨h, -⟩ | ⟨-, h, -⟩ | ⟨-, i2, hi2, v, hii, he, hr⟩
            · rw [← HR.out] at h; cases h
            · exact absurd ⟨by omega, by have := HNU.out; omega⟩ h
            · obtain rfl : i = i2 := by omega
              exact ⟨v, he, by rw [HIU.out]; exact hr⟩
          subst he
          obtain ⟨bL, cL, rfl, -, -, hLA⟩ := hrow.at
          have HLA : Hid (∀ j (hj : j < (hts c u).length), ∃ g o, bL = some ⟨g, o, none⟩ ∧ w4.heap.size ≤ g ∧ g < w5.heap.size ∧ intE w5 g (o + j * 1) (hts c u)[j]) := hLA
          obtain ⟨L, hL⟩ : ∃ L, L = hts c u := ⟨_, rfl⟩
          rw [← hL] at HLA HOK ⊢
          have hlen : L.length = ni := HOK.out.len.trans HNI.out.symm
          obtain ⟨gL, oL, hbL, hgL1, hgL2, hc0⟩ := HLA.out 0 (by have := HOK.out.one; omega)
          subst hbL
          rw [HOK.out.first (by have := HOK.out.one; omega)] at hc0
          have z0 : w5.cell? ⟨gL, oL, none⟩ = some (.int .i64 0) := by simpa [intE] using hc0
          have hn1 : 1 ≤ ni := by have := HOK.out.one; omega
          have hn1I : (0 : Int) < ni := by omega
          rw [hlen]
          have HLEN : Hid (L.length = ni) := hlen
          have HLB : Hid (wr.heap.size < w4.heap.size) := heap_lt HBX.out
          have HBXW : Hid (∀ W, Below w5.heap.size w5 W → W.cell? ⟨wr.heap.size, 3, none⟩ = some (.int .i64 st) ∧ W.cell? ⟨wr.heap.size, 5, none⟩ = some (.slice bi ni ci)) := fun W hW => by
            have hb : W.heap[wr.heap.size]? = some (.cells #[.string (strB nm), .int .i64 pa, .int .i64 sl, .int .i64 st, .bool re, .slice bi ni ci, .slice bv nv cv] 59 (0, 0)) := (hW.block _ (Nat.lt_of_lt_of_le HLB.out H45.out.size)).trans ((H45.out.block _ HLB.out).trans HBX.out)
            exact ⟨by simp only [World.cell?, hb]; rfl, by simp only [World.cell?, hb]; rfl⟩
          have HLC : Hid (∀ W, Below w5.heap.size w5 W → ∀ j (hj : j < L.length), W.cell? ⟨gL, oL + j, none⟩ = some (.int .i64 L[j])) := fun W hW j hj => by
            obtain ⟨g, o, e, -, hg, h⟩ := HLA.out j hj
            cases e
            have h2 := (below_cell hW hg).trans h
            simpa only [Nat.mul_one] using h2
          have HIC : Hid (∀ W, Below w5.heap.size w5 W → ∀ j (hj : j < u.ins.length), ∃ g o, bi = some ⟨g, o, none⟩ ∧ W.cell? ⟨g, o + j * 2, none⟩ = some (.int .i64 u.ins[j].op) ∧ W.cell? ⟨g, o + j * 2 + 1, none⟩ = some (.int .i64 u.ins[j].a)) := fun W hW j hj => by
            obtain ⟨g, o, e, -, hg, h1, h2⟩ := HIA.out j hj
            have hbw := HBw5.out.trans (hW.mono HBw5.out.size)
            exact ⟨g, o, e, (below_cell hbw hg).trans h1, (below_cell hbw hg).trans h2⟩
          obtain ⟨k3, k5⟩ := HBXW.out w5 (Below.refl _ _)
          have hniI : (ni : Int) ≤ 4096 := by have := HOK.out.few; have := HNI.out; omega
          clear hret hb5 hrow hLA hL hlen hgL1 hgL2 hc0
          go_wp2_with fail
          clear k3 k5 z0
          go_loopw [7] (fun vj wq => ∃ j : Nat, j ≤ ni ∧ vj = .int .i64 (j : Int) ∧ Below w5.heap.size w5 wq) (fun vj _ => ni - (intOf vj).toNat)
          case atStart => exact ⟨0, Nat.zero_le _, rfl, Below.refl _ _⟩
          case round =>
            obtain ⟨j, hj, rfl, hbq⟩ := hrel
            have HQ : Hid (Below w5.heap.size w5 wr) := hbq
            by_cases hjl : j < ni
            · have hj2 : (j : Int) < ni := by omega
              have hjL : j < L.length := by have := HLEN.out; omega
              have hju : j < u.ins.length := by have := HNI.out; omega
              obtain ⟨k3, k5⟩ := HBXW.out wr hbq
              have hxc := HLC.out wr hbq j hjL
              obtain ⟨gi, oi, hbi, hoc, hac⟩ := HIC.out wr hbq j hju
              obtain ⟨hr1, hr2⟩ := HOK.out.range j hjL
              have hmk := HOK.out.mark j hjL hju
              obtain ⟨x, hx⟩ : ∃ x, x = L[j] := ⟨_, rfl⟩
              obtain ⟨op, hop⟩ : ∃ o, o = u.ins[j].op := ⟨_, rfl⟩
              obtain ⟨a, ha⟩ : ∃ a, a = u.ins[j].a := ⟨_, rfl⟩
              have hst1 := HOK.out.stack
              rw [← HST.out] at hr2 hst1
              rw [← hx] at hxc hr1 hr2 hmk
              rw [← hop] at hoc hmk
              rw [← ha] at hac
              have HX : Hid (x = L[j]) := hx
              have HO : Hid (op = u.ins[j].op) := hop
              have HA : Hid (a = u.ins[j].a) := ha
              subst hbi
              have q1 : ¬ x < -1 := by omega
              have q2 : ¬ st < x := by omega
              clear hx hop ha hbq hst1
              by_cases hx0 : x < 0
              · obtain rfl : x = -1 := by omega
                clear hmk
                by_cases o0 : op = 0
                · subst o0
                  go_upto_region 13 with fail
                  go_quiet (fail)
                  go_wp2
                  exact ⟨⟨j + 1, by omega, by go_num, ⟨HQ.out.os, HQ.out.tape, HQ.out.output, HQ.out.size, HQ.out.block⟩⟩, by simp [intOf]; omega⟩
                · have o0b : (op == 0) = false := by rw [beq_eq_false_iff_ne]; exact o0
                  go_upto_region 13 with fail
                  go_quiet (fail)
                  go_wp2
                  exact ⟨⟨j + 1, by omega, by go_num, ⟨HQ.out.os, HQ.out.tape, HQ.out.output, HQ.out.size, HQ.out.block⟩⟩, by simp [intOf]; omega⟩
              · have hx1 : 0 ≤ x := by omega
                by_cases o0 : op = 0
                · obtain rfl : x = 0 := by have := hmk o0; omega
                  clear hmk
                  obtain ⟨hn1, hy⟩ := HOK.out.next j hjL hju (by rw [← HX.out]; exact (by omega)) (by rw [← HO.out]; omega) (by rw [← HO.out]; omega)
                  have hj1 : ((j : Int) + 1) < ni := by have := HLEN.out; omega
                  have hj3 : ((j : Int) + 1 == ni) = false := by rw [beq_eq_false_iff_ne]; omega
                  have hyc : wr.cell? ⟨gL, oL + (j + 1), none⟩ = some (.int .i64 L[j + 1]) := HLC.out wr HQ.out (j + 1) hn1
                  obtain ⟨y, hyy⟩ : ∃ y, y = L[j + 1] := ⟨_, rfl⟩
                  rw [← hyy] at hy hyc
                  have hy2 : ¬ y < 0 := by omega
                  clear hyy
                  subst o0
                  go_upto_region 13 with fail
                  go_quiet (fail)
                  go_wp2
                  exact ⟨⟨j + 1, by omega, by go_num, ⟨HQ.out.os, HQ.out.tape, HQ.out.output, HQ.out.size, HQ.out.block⟩⟩, by simp [intOf]; omega⟩
                · have o0b : (op == 0) = false := by rw [beq_eq_false_iff_ne]; exact o0
                  clear hmk
                  by_cases o20 : op = 20
                  · have KJ := o20
                    obtain ⟨n, hna, hn2, hz⟩ := HOK.out.jump j hjL hju (by rw [← HX.out]; exact hx1) (.inl (by rw [← HO.out]; exact KJ))
                    rw [← HA.out] at hna
                    subst hna
                    have hn3 : (n : Int) < ni := by have := HLEN.out; omega
                    have hzc : wr.cell? ⟨gL, oL + n, none⟩ = some (.int .i64 L[n]) := HLC.out wr HQ.out n hn2
                    obtain ⟨z, hzz⟩ : ∃ z, z = L[n] := ⟨_, rfl⟩
                    rw [← hzz] at hz hzc
                    have hz2 : ¬ z < 0 := by omega
                    clear hzz
                    subst o20
                    go_upto_region 13 with fail
                    go_quiet (fail)
                    go_wp2
                    exact ⟨⟨j + 1, by omega, by go_num, ⟨HQ.out.os, HQ.out.tape, HQ.out.output, HQ.out.size, HQ.out.block⟩⟩, by simp [intOf]; omega⟩
                  · have o20b : (op == 20) = false := by rw [beq_eq_false_iff_ne]; exact o20
                    by_cases o23 : op = 23
                    · subst o23
                      go_upto_region 13 with fail
                      go_quiet (fail)
                      go_wp2
                      exact ⟨⟨j + 1, by omega, by go_num, ⟨HQ.out.os, HQ.out.tape, HQ.out.output, HQ.out.size, HQ.out.block⟩⟩, by simp [intOf]; omega⟩
                    · have o23b : (op == 23) = false := by rw [beq_eq_false_iff_ne]; exact o23
                      obtain ⟨hn1, hy⟩ := HOK.out.next j hjL hju (by rw [← HX.out]; exact hx1) (by rw [← HO.out]; exact o20) (by rw [← HO.out]; exact o23)
                      have hj1 : ((j : Int) + 1) < ni := by have := HLEN.out; omega
                      have hj3 : ((j : Int) + 1 == ni) = false := by rw [beq_eq_false_iff_ne]; omega
                      have hyc : wr.cell? ⟨gL, oL + (j + 1), none⟩ = some (.int .i64 L[j + 1]) := HLC.out wr HQ.out (j + 1) hn1
                      obtain ⟨y, hyy⟩ : ∃ y, y = L[j + 1] := ⟨_, rfl⟩
                      rw [← hyy] at hy hyc
                      have hy2 : ¬ y < 0 := by omega
                      clear hyy
                      by_cases o21 : op = 21
                      · have KJ := o21
                        obtain ⟨n, hna, hn2, hz⟩ := HOK.out.jump j hjL hju (by rw [← HX.out]; exact hx1) (.inr (by rw [← HO.out]; exact KJ))
                        rw [← HA.out] at hna
                        subst hna
                        have hn3 : (n : Int) < ni := by have := HLEN.out; omega
                        have hzc : wr.cell? ⟨gL, oL + n, none⟩ = some (.int .i64 L[n]) := HLC.out wr HQ.out n hn2
                        obtain ⟨z, hzz⟩ : ∃ z, z = L[n] := ⟨_, rfl⟩
                        rw [← hzz] at hz hzc
                        have hz2 : ¬ z < 0 := by omega
                        clear hzz
                        subst o21
                        go_upto_region 13 with fail
                        go_quiet (fail)
                        go_wp2
                        exact ⟨⟨j + 1, by omega, by go_num, ⟨HQ.out.os, HQ.out.tape, HQ.out.output, HQ.out.size, HQ.out.block⟩⟩, by simp [intOf]; omega⟩
                      · have o21b : (op == 21) = false := by rw [beq_eq_false_iff_ne]; exact o21
                        go_upto_region 13 with fail
                        go_quiet (fail)
                        go_wp2
                        exact ⟨⟨j + 1, by omega, by go_num, ⟨HQ.out.os, HQ.out.tape, HQ.out.output, HQ.out.size, HQ.out.block⟩⟩, by simp [intOf]; omega⟩
            · obtain rfl : j = ni := by omega
              have hj2 : ¬ (j : Int) < j := by omega
              have HBE : Hid (Below w1.heap.size w1 wr) := HB5.out.trans (HQ.out.mono HB5.out.size)
              clear hbq
              go_wp2
              exact ⟨⟨i + 1, by omega, by go_num, HBE.out⟩, by simp [intOf]; omega⟩
        · obtain rfl : i = nu := by omega
          have hi2 : ¬ (i : Int) < i := by omega
          obtain ⟨f0, f1, f2, f3⟩ := HF.out wr HB.out
          have c5 := CV.out wr HBw.out
          go_wp2_with fail
          refine c5.mono ?_
          clear c5
          rintro e w4 ⟨rfl, hb4⟩
          have HBw4 : Hid (Below w.heap.size w w4) := HBw.out.trans (hb4.mono HBw.out.size)
          clear hb4
          go_wp2
          go_ret
          exact ⟨rfl, HBw4.out⟩
end Go.Proofs.YtojopcgacgichaaGreatDoor
