/- CodeBack: the walk. -/
import Derived.Test.YtojopcgacgichaaGreatDoorCBackMath3
import Derived.Test.YtojopcgacgichaaGreatDoorCLives7
namespace Go.Proofs.YtojopcgacgichaaGreatDoor
open Go.RowKit Go.Shelf

theorem okC_ints {c : Cd} (h : okC c) : IntsC c :=
  ⟨h.2.2.2, fun u hu => ⟨(h.2.2.1.1 u hu).2.1, (h.2.2.1.1 u hu).2.2.1, (h.2.2.1.1 u hu).2.2.2.1⟩, fun u hu y hy => (h.2.2.1.1 u hu).2.2.2.2.2.1.1 y hy, fun u hu y hy => ((h.2.2.1.1 u hu).2.2.2.2.2.2.1 y hy).2⟩

set_option maxRecDepth 100000 in
set_option maxHeartbeats 8000000 in
theorem codeBack_any (S : Nat → Prop) (c : Cd) (bs bh bu : Option Addr) (ns cs nh ch nu cu : Nat) (v : Value) (b : List UInt8) (w : World) (hin : CodeIn S w c (.slice bs ns cs) (.slice bh nh ch) (.slice bu nu cu)) (hS : ∀ q, S q → q < w.heap.size) (hsm : SmallC c) (hints : IntsC c) (hun : ∀ u ∈ c.units, u.ins.length ≤ 1048576 ∧ u.vars.length ≤ 1048576) (hv : bytesAt w v b) (hbl : b.length ≤ 1048576) (ht : TabsP w) (hot : OpT w) :
    Calls Tryz.prog 6 #[cdV (.slice bs ns cs) (.slice bh nh ch) (.slice bu nu cu) c.main, v] w fun e w' => e = .returned (.bool true) ∧ Below w.heap.size w w' := by
  have hvb := hv
  obtain ⟨vb, vc, rfl, -⟩ := hv
  obtain ⟨m, hm⟩ : ∃ m, m = c.main := ⟨_, rfl⟩
  rw [← hm]
  obtain ⟨w1, hw1, hb1, HZ1, h1⟩ := box1 w (.cells #[.slice bs ns cs, .slice bh nh ch, .slice bu nu cu, .int .i64 m] 26)
  have HW1 : Hid (w1 = w.alloc (.cells #[.slice bs ns cs, .slice bh nh ch, .slice bu nu cu, .int .i64 m] 26)) := hw1
  have HB1 : Hid (Below w.heap.size w w1) := hb1
  have HLT : Hid (w.heap.size < w1.heap.size) := heap_lt h1
  have HF : Hid (∀ W, Below w1.heap.size w1 W → W.cell? ⟨w.heap.size, 0, none⟩ = some (.slice bs ns cs) ∧ W.cell? ⟨w.heap.size, 1, none⟩ = some (.slice bh nh ch) ∧ W.cell? ⟨w.heap.size, 2, none⟩ = some (.slice bu nu cu) ∧ W.cell? ⟨w.heap.size, 3, none⟩ = some (.int .i64 m)) := fun W hW => bcells4 ((hW.block w.heap.size HLT.out).trans h1)
  have HBW : Hid (∀ W, Below w1.heap.size w1 W → Below w.heap.size w W) := fun W hW => hb1.trans (hW.mono hb1.size)
  have HCIN : Hid (∀ W, Below w.heap.size w W → CodeIn S W c (.slice bs ns cs) (.slice bh nh ch) (.slice bu nu cu)) := fun W hW => hin.below hW
  have HT : Hid (∀ W, Below w.heap.size w W → TabsP W ∧ OpT W) := fun W hW => ⟨ht.below hW (Nat.le_refl _), hot.below hW (Nat.le_refl _)⟩
  have HVB : Hid (∀ W, Below w.heap.size w W → bytesAt W (.slice vb b.length vc) b) := fun W hW => bytesAt_below hvb hW (Nat.le_refl _)
  have HBL : Hid (b.length ≤ 1048576) := hbl
  have hns : ns = c.strs.length := by obtain ⟨b, c, e, -⟩ := hin.strs.at; cases e; rfl
  have hnh : nh = c.shapes.length := by obtain ⟨b, c, e, -⟩ := hin.shapes.at; cases e; rfl
  have hnu : nu = c.units.length := by obtain ⟨b, c, e, -⟩ := hin.units.at; cases e; rfl
  have CL : Hid (∀ (W : World), Below w.heap.size w W → Calls Tryz.prog 9 #[cdV (.slice bs ns cs) (.slice bh nh ch) (.slice bu nu cu) m] W fun e w' => Told e ∧ Below W.heap.size W w') := fun W hW => by
    rw [hm]; exact light_any S c bs bh bu ns cs nh ch nu cu W (HCIN.out W hW) (by have := hsm.nstrs; omega) (by have := hsm.nshapes; omega) (by have := hsm.nunits; omega) hun
  have CV : Hid (∀ (W : World), Below w.heap.size w W → Calls Tryz.prog 10 #[] W fun e w' => e = .returned (.bool true) ∧ Below W.heap.size W w') := fun W hW => lives07_any W (HT.out W hW).1 (HT.out W hW).2
  have CLD : Hid (∀ (W : World), Below w.heap.size w W → Calls Tryz.prog 21 #[.slice vb b.length vc] W fun e w' => LoadRet W.heap.size b e w' ∧ Below W.heap.size W w') := fun W hW => cLoad_any _ b W (HVB.out W hW) (by omega) (HT.out W hW).1 (HT.out W hW).2
  obtain ⟨R, hR⟩ : ∃ R, R = rightC c := ⟨_, rfl⟩
  have CN : Hid (R = false → ∀ (W : World), Below w.heap.size w W → Calls Tryz.prog 16 #[cdV (.slice bs ns cs) (.slice bh nh ch) (.slice bu nu cu) m] W fun e w' => e = .returned (.tuple #[.slice none 0 0, .int .i64 2]) ∧ Below W.heap.size W w') := fun h W hW => by
    rw [hm]; exact cBytes_no S c bs bh bu ns cs nh ch nu cu W (HCIN.out W hW) hsm (HT.out W hW).1 (HT.out W hW).2 (by rw [← hR]; exact h)
  have CY : Hid (R = true → ∀ (W : World), Below w.heap.size w W → Calls Tryz.prog 16 #[cdV (.slice bs ns cs) (.slice bh nh ch) (.slice bu nu cu) m] W fun e w' => (∃ b2 n2 c2, e = .returned (.tuple #[.slice b2 n2 c2, .int .i64 0]) ∧ bytesAt w' (.slice b2 n2 c2) (cdB c)) ∧ Below W.heap.size W w') := fun h W hW => by
    have hr : rightC c = true := by rw [← hR]; exact h
    rw [hm]
    refine (cBytes_any S c bs bh bu ns cs nh ch nu cu W (HCIN.out W hW) (fun q hq => Nat.lt_of_lt_of_le (hS q hq) hW.size) hsm hints (right_len hr hsm hints hun) (HT.out W hW).1 (HT.out W hW).2).mono fun e w' ⟨hq, hw'⟩ => ⟨?_, hw'⟩
    rcases hq with ⟨h, -⟩ | ⟨-, v, he, ho⟩
    · rw [hr] at h; cases h
    · obtain ⟨n0, bb, cc, rfl⟩ := own_form1 ho
      exact ⟨bb, n0, cc, he, bytesAt_own ho⟩
  have CYL : Hid (R = true → ∀ (W : World) (x : Value), Below w.heap.size w W → bytesAt W x (cdB c) → Calls Tryz.prog 21 #[x] W fun e w' => (∃ xs ms es xh mh eh xu mu eu, e = .returned (.tuple #[cdV (.slice xs ms es) (.slice xh mh eh) (.slice xu mu eu) m, .int .i64 0]) ∧ CdIn w' c xs ms es xh mh eh xu mu eu) ∧ Below W.heap.size W w') := fun h W x hW hx => by
    have hr : rightC c = true := by rw [← hR]; exact h
    obtain ⟨e0, e1⟩ := ldE_put (right_ok hr hsm hints hun)
    refine (cLoad_any x (cdB c) W hx (right_len hr hsm hints hun) (HT.out W hW).1 (HT.out W hW).2).mono fun e w' ⟨hq, hw'⟩ => ⟨?_, hw'⟩
    rcases hq with ⟨h, -⟩ | ⟨-, h, -⟩ | ⟨-, -, xs, ms, es, xh, mh, eh, xu, mu, eu, he, hcd⟩
    · exact absurd e0 h
    · rw [e1, hr] at h; cases h
    · rw [e1] at he hcd
      exact ⟨xs, ms, es, xh, mh, eh, xu, mu, eu, by rw [hm]; exact he, _, hcd⟩
  have CYS : Hid (R = true → ∀ (W : World) (xs : Option Addr) (ms es : Nat) (xh : Option Addr) (mh eh : Nat) (xu : Option Addr) (mu eu : Nat), Below w.heap.size w W → CdIn W c xs ms es xh mh eh xu mu eu → Calls Tryz.prog 23 #[cdV (.slice bs ns cs) (.slice bh nh ch) (.slice bu nu cu) m, cdV (.slice xs ms es) (.slice xh mh eh) (.slice xu mu eu) m] W fun e w' => e = .returned (.bool true) ∧ Below W.heap.size W w') := fun h W xs ms es xh mh eh xu mu eu hW hcd => by
    have hr : rightC c = true := by rw [← hR]; exact h
    obtain ⟨T, hcd⟩ := hcd
    have h2 := rfSame S T c c bs bh bu ns cs nh ch nu cu xs xh xu ms es mh eh mu eu W (HCIN.out W hW) hsm hints (right_len hr hsm hints hun) hcd hsm hints (right_len hr hsm hints hun)
    rw [decide_eq_true (p := cdB c = cdB c) rfl, ← hm] at h2
    exact h2
  obtain ⟨f0, f1, f2, f3⟩ := HF.out w1 (Below.refl _ _)
  have c1 := CL.out w1 hb1
  have hblI : (b.length : Int) ≤ 1048576 := by omega
  clear hns hnh hnu hm hw1 hb1 h1 hin hS hsm hints hun ht hot HZ1 hR hvb hbl
  go_enter Tryz.func6, Tryz.ntmps6
  go_wp2_with fail
  rw [← HW1.out]
  refine c1.mono ?_
  clear c1 f0 f1 f2 f3
  rintro e w2 ⟨⟨L, rfl⟩, hb2⟩
  have HB2 : Hid (Below w1.heap.size w1 w2) := hb2
  have HBw2 : Hid (Below w.heap.size w w2) := HBW.out _ hb2
  clear hb2
  cases L with
  | false =>
    have k1 := CV.out w2 HBw2.out
    go_wp2_with fail
    refine k1.mono ?_
    clear k1
    rintro e wz ⟨rfl, hbz⟩
    have HBz : Hid (Below w.heap.size w wz) := HBw2.out.trans (hbz.mono HBw2.out.size)
    clear hbz
    go_wp2
    go_ret
    exact ⟨rfl, HBz.out⟩
  | true =>
    by_cases hlen : (20000 : Int) < b.length
    · have k1 := CV.out w2 HBw2.out
      go_wp2_with fail
      refine k1.mono ?_
      clear k1
      rintro e wz ⟨rfl, hbz⟩
      have HBz : Hid (Below w.heap.size w wz) := HBw2.out.trans (hbz.mono HBw2.out.size)
      clear hbz
      go_wp2
      go_ret
      exact ⟨rfl, HBz.out⟩
    · obtain ⟨f0, f1, f2, f3⟩ := HF.out w2 HB2.out
      cases R with
      | false =>
        have c2 := CN.out rfl w2 HBw2.out
        go_wp2_with fail
        refine c2.mono ?_
        clear c2 f0 f1 f2 f3
        rintro e w3 ⟨rfl, hb3⟩
        have HB3 : Hid (Below w.heap.size w w3) := HBw2.out.trans (hb3.mono HBw2.out.size)
        clear hb3
        have k2 := CLD.out w3 HB3.out
        go_wp2_with fail
        refine k2.mono ?_
        clear k2
        rintro e w8 ⟨hret, hb8⟩
        have HB8 : Hid (Below w.heap.size w w8) := HB3.out.trans (hb8.mono HB3.out.size)
        clear hb8
        rcases hret with ⟨hne, rfl⟩ | ⟨-, -, rfl⟩ | ⟨hz, hrd, xs, ms, es, xh, mh, eh, xu, mu, eu, rfl, hcd⟩
        · obtain ⟨n, hn⟩ : ∃ n, n = ldE b := ⟨_, rfl⟩
          rw [← hn] at hne ⊢
          have hnI : ((n : Int) == 0) = false := by rw [beq_eq_false_iff_ne]; omega
          have hn0 : ¬ (n : Int) = 0 := by omega
          clear hn hne
          obtain ⟨w9, hw9, hb9, HZ9, h9⟩ := box1 w8 (.cells #[.slice none 0 0, .slice none 0 0, .slice none 0 0, .int .i64 0] 26)
          have HW9 : Hid (w9 = w8.alloc (.cells #[.slice none 0 0, .slice none 0 0, .slice none 0 0, .int .i64 0] 26)) := hw9
          have HB9 : Hid (Below w.heap.size w w9) := HB8.out.trans (hb9.mono HB8.out.size)
          obtain ⟨g0, g1, g2, g3⟩ := bcells4 h9
          have k9 := rfSame (fun _ => False) (fun _ => False) cZ cZ none none none 0 0 0 0 0 0 none none none 0 0 0 0 0 0 w9 (cZ_in w9) cZ_small cZ_ints cZ_len (cZ_in w9) cZ_small cZ_ints cZ_len
          rw [decide_eq_true (p := cdB cZ = cdB cZ) rfl] at k9
          simp only [cZ] at k9
          clear hw9 hb9 h9 HZ9
          go_upto_region 11 with fail
          rw [← HW9.out]
          go_wp2_with fail
          refine k9.mono ?_
          clear k9 g0 g1 g2 g3
          rintro e wy ⟨rfl, hby⟩
          have HBy : Hid (Below w.heap.size w wy) := HB9.out.trans (hby.mono HB9.out.size)
          clear hby
          have k1 := CV.out wy HBy.out
          go_wp2_with fail
          refine k1.mono ?_
          clear k1
          rintro e wz ⟨rfl, hbz⟩
          have HBz : Hid (Below w.heap.size w wz) := HBy.out.trans (hbz.mono HBy.out.size)
          clear hbz
          go_wp2
          go_ret
          exact ⟨rfl, HBz.out⟩
        · obtain ⟨w9, hw9, hb9, HZ9, h9⟩ := box1 w8 (.cells #[.slice none 0 0, .slice none 0 0, .slice none 0 0, .int .i64 0] 26)
          have HW9 : Hid (w9 = w8.alloc (.cells #[.slice none 0 0, .slice none 0 0, .slice none 0 0, .int .i64 0] 26)) := hw9
          have HB9 : Hid (Below w.heap.size w w9) := HB8.out.trans (hb9.mono HB8.out.size)
          obtain ⟨g0, g1, g2, g3⟩ := bcells4 h9
          have k9 := rfSame (fun _ => False) (fun _ => False) cZ cZ none none none 0 0 0 0 0 0 none none none 0 0 0 0 0 0 w9 (cZ_in w9) cZ_small cZ_ints cZ_len (cZ_in w9) cZ_small cZ_ints cZ_len
          rw [decide_eq_true (p := cdB cZ = cdB cZ) rfl] at k9
          simp only [cZ] at k9
          clear hw9 hb9 h9 HZ9
          go_upto_region 11 with fail
          rw [← HW9.out]
          go_wp2_with fail
          refine k9.mono ?_
          clear k9 g0 g1 g2 g3
          rintro e wy ⟨rfl, hby⟩
          have HBy : Hid (Below w.heap.size w wy) := HB9.out.trans (hby.mono HB9.out.size)
          clear hby
          have k1 := CV.out wy HBy.out
          go_wp2_with fail
          refine k1.mono ?_
          clear k1
          rintro e wz ⟨rfl, hbz⟩
          have HBz : Hid (Below w.heap.size w wz) := HBy.out.trans (hbz.mono HBy.out.size)
          clear hbz
          go_wp2
          go_ret
          exact ⟨rfl, HBz.out⟩
        · obtain ⟨D, hD⟩ : ∃ D, D = (rCode b).1 := ⟨_, rfl⟩
          obtain ⟨hokD, hbD⟩ := ldE_form hz
          have hsmD := rCode_small b
          rw [← hD] at hrd hcd hokD hbD hsmD ⊢
          obtain ⟨dm, hdm⟩ : ∃ m, m = D.main := ⟨_, rfl⟩
          rw [← hdm]
          have hintsD : IntsC D := okC_ints hokD
          obtain ⟨w9, hw9, hb9, HZ9, h9⟩ := box1 w8 (.cells #[.slice xs ms es, .slice xh mh eh, .slice xu mu eu, .int .i64 dm] 26)
          have HW9 : Hid (w9 = w8.alloc (.cells #[.slice xs ms es, .slice xh mh eh, .slice xu mu eu, .int .i64 dm] 26)) := hw9
          have H89 : Hid (Below w8.heap.size w8 w9) := hb9
          have HB9 : Hid (Below w.heap.size w w9) := HB8.out.trans (hb9.mono HB8.out.size)
          have HBX9 : Hid (w9.heap[w8.heap.size]? = some (.cells #[.slice xs ms es, .slice xh mh eh, .slice xu mu eu, .int .i64 dm] 26 (0, 0))) := h9
          have HCD : Hid (∀ W, Below w8.heap.size w8 W → CodeIn (fun q => q < w8.heap.size) W D (.slice xs ms es) (.slice xh mh eh) (.slice xu mu eu)) := fun W hW => hcd.low.below hW
          obtain ⟨g0, g1, g2, g3⟩ := bcells4 h9
          have k9 : Calls Tryz.prog 16 #[cdV (.slice xs ms es) (.slice xh mh eh) (.slice xu mu eu) dm] w9 fun e w' => (∃ b2 n2 c2, e = .returned (.tuple #[.slice b2 n2 c2, .int .i64 0]) ∧ bytesAt w' (.slice b2 n2 c2) b) ∧ Below w9.heap.size w9 w' := by
            rw [hdm]
            refine (cBytes_any _ D xs xh xu ms es mh eh mu eu w9 (HCD.out w9 hb9) (fun q hq => Nat.lt_of_lt_of_le hq hb9.size) hsmD hintsD (by rw [hbD]; have := HBL.out; omega) (HT.out w9 HB9.out).1 (HT.out w9 HB9.out).2).mono fun e w' ⟨hr, hw'⟩ => ⟨?_, hw'⟩
            rcases hr with ⟨h, -⟩ | ⟨-, v, he, ho⟩
            · rw [hrd] at h; cases h
            · rw [hbD] at ho
              obtain ⟨n0, bb, cc, rfl⟩ := own_form1 ho
              exact ⟨bb, n0, cc, he, bytesAt_own ho⟩
          have KCH : Hid (∀ W, Below w8.heap.size w8 W → Calls Tryz.prog 13 #[cdV (.slice xs ms es) (.slice xh mh eh) (.slice xu mu eu) dm] W fun e w' => e = .returned (.int .i64 0) ∧ Below W.heap.size W w') := fun W hW => by
            have hWw := HB8.out.trans (hW.mono HB8.out.size)
            have h2 := cCheck_any _ D xs xh xu ms es mh eh mu eu W (HCD.out W hW) hsmD (HT.out W hWw).1 (HT.out W hWw).2
            rw [hrd, ← hdm] at h2
            exact h2
          clear hw9 hb9 h9 HZ9 hcd hokD hbD hsmD hintsD hdm hD hrd hz
          go_upto_region 11 with fail
          rw [← HW9.out]
          go_wp2_with fail
          refine k9.mono ?_
          clear k9 g0 g1 g2 g3
          rintro e wa ⟨⟨b2, n2, c2, rfl, hba⟩, hb9a⟩
          have H8a : Hid (Below w8.heap.size w8 wa) := H89.out.trans (hb9a.mono H89.out.size)
          have HBa : Hid (Below w.heap.size w wa) := HB8.out.trans (H8a.out.mono HB8.out.size)
          obtain ⟨hn2, hrow2, -, -⟩ := bytesAt_row hba
          subst hn2
          obtain ⟨-, hrowv, -, -⟩ := bytesAt_row (HVB.out wa HBa.out)
          have hc1 : (convert 39 9 (.slice b2 b.length c2)).run Tryz.prog wa = .ok (.string ⟨b.toArray⟩) wa := conv_row wa b2 b c2 hrow2
          have hc2 : (convert 39 9 (.slice vb b.length vc)).run Tryz.prog wa = .ok (.string ⟨b.toArray⟩) wa := conv_row wa vb b vc hrowv
          obtain ⟨g0, g1, g2, g3⟩ := bcells4 ((hb9a.block _ (heap_lt HBX9.out)).trans HBX9.out)
          have ka := KCH.out wa H8a.out
          clear hba hb9a hrow2 hrowv
          go_wp2_with fail
          refine ka.mono ?_
          clear ka hc1 hc2 g0 g1 g2 g3
          rintro e wy ⟨rfl, hby⟩
          have HBy : Hid (Below w.heap.size w wy) := HBa.out.trans (hby.mono HBa.out.size)
          clear hby
          have k1 := CV.out wy HBy.out
          go_wp2_with fail
          refine k1.mono ?_
          clear k1
          rintro e wz ⟨rfl, hbz⟩
          have HBz : Hid (Below w.heap.size w wz) := HBy.out.trans (hbz.mono HBy.out.size)
          clear hbz
          go_wp2
          go_ret
          exact ⟨rfl, HBz.out⟩
      | true =>
        have c2 := CY.out rfl w2 HBw2.out
        go_wp2_with fail
        refine c2.mono ?_
        clear c2 f0 f1 f2 f3
        rintro e w3 ⟨⟨b3, n3, c3, rfl, hx3⟩, hb3⟩
        have HB3 : Hid (Below w.heap.size w w3) := HBw2.out.trans (hb3.mono HBw2.out.size)
        have H13 : Hid (Below w1.heap.size w1 w3) := HB2.out.trans (hb3.mono HB2.out.size)
        have c3 := CYL.out (by trivial) w3 _ HB3.out hx3
        clear hb3 hx3
        go_wp2_with fail
        refine c3.mono ?_
        clear c3
        rintro e w4 ⟨⟨xs0, ms0, es0, xh0, mh0, eh0, xu0, mu0, eu0, rfl, hcd⟩, hb4⟩
        have HB4 : Hid (Below w.heap.size w w4) := HB3.out.trans (hb4.mono HB3.out.size)
        have H14 : Hid (Below w1.heap.size w1 w4) := H13.out.trans (hb4.mono H13.out.size)
        obtain ⟨w5, hw5, hb5, HZ5, h5⟩ := box1 w4 (.cells #[.slice xs0 ms0 es0, .slice xh0 mh0 eh0, .slice xu0 mu0 eu0, .int .i64 m] 26)
        have HW5 : Hid (w5 = w4.alloc (.cells #[.slice xs0 ms0 es0, .slice xh0 mh0 eh0, .slice xu0 mu0 eu0, .int .i64 m] 26)) := hw5
        have HB5 : Hid (Below w.heap.size w w5) := HB4.out.trans (hb5.mono HB4.out.size)
        obtain ⟨f0, f1, f2, f3⟩ := HF.out w5 (H14.out.trans (hb5.mono H14.out.size))
        obtain ⟨g0, g1, g2, g3⟩ := bcells4 h5
        have c5 := CYS.out (by trivial) w5 xs0 ms0 es0 xh0 mh0 eh0 xu0 mu0 eu0 HB5.out (hcd.below hb5)
        clear hb4 hcd hw5 hb5 h5 HZ5
        go_upto_region 6 with fail
        rw [← HW5.out]
        go_wp2_with fail
        refine c5.mono ?_
        clear c5 f0 f1 f2 f3 g0 g1 g2 g3
        rintro e w6 ⟨rfl, hb6⟩
        have HB6 : Hid (Below w.heap.size w w6) := HB5.out.trans (hb6.mono HB5.out.size)
        clear hb6
        have k2 := CLD.out w6 HB6.out
        go_wp2_with fail
        refine k2.mono ?_
        clear k2
        rintro e w8 ⟨hret, hb8⟩
        have HB8 : Hid (Below w.heap.size w w8) := HB6.out.trans (hb8.mono HB6.out.size)
        clear hb8
        rcases hret with ⟨hne, rfl⟩ | ⟨-, -, rfl⟩ | ⟨hz, hrd, xs, ms, es, xh, mh, eh, xu, mu, eu, rfl, hcd⟩
        · obtain ⟨n, hn⟩ : ∃ n, n = ldE b := ⟨_, rfl⟩
          rw [← hn] at hne ⊢
          have hnI : ((n : Int) == 0) = false := by rw [beq_eq_false_iff_ne]; omega
          have hn0 : ¬ (n : Int) = 0 := by omega
          clear hn hne
          obtain ⟨w9, hw9, hb9, HZ9, h9⟩ := box1 w8 (.cells #[.slice none 0 0, .slice none 0 0, .slice none 0 0, .int .i64 0] 26)
          have HW9 : Hid (w9 = w8.alloc (.cells #[.slice none 0 0, .slice none 0 0, .slice none 0 0, .int .i64 0] 26)) := hw9
          have HB9 : Hid (Below w.heap.size w w9) := HB8.out.trans (hb9.mono HB8.out.size)
          obtain ⟨g0, g1, g2, g3⟩ := bcells4 h9
          have k9 := rfSame (fun _ => False) (fun _ => False) cZ cZ none none none 0 0 0 0 0 0 none none none 0 0 0 0 0 0 w9 (cZ_in w9) cZ_small cZ_ints cZ_len (cZ_in w9) cZ_small cZ_ints cZ_len
          rw [decide_eq_true (p := cdB cZ = cdB cZ) rfl] at k9
          simp only [cZ] at k9
          clear hw9 hb9 h9 HZ9
          go_upto_region 11 with fail
          rw [← HW9.out]
          go_wp2_with fail
          refine k9.mono ?_
          clear k9 g0 g1 g2 g3
          rintro e wy ⟨rfl, hby⟩
          have HBy : Hid (Below w.heap.size w wy) := HB9.out.trans (hby.mono HB9.out.size)
          clear hby
          have k1 := CV.out wy HBy.out
          go_wp2_with fail
          refine k1.mono ?_
          clear k1
          rintro e wz ⟨rfl, hbz⟩
          have HBz : Hid (Below w.heap.size w wz) := HBy.out.trans (hbz.mono HBy.out.size)
          clear hbz
          go_wp2
          go_ret
          exact ⟨rfl, HBz.out⟩
        · obtain ⟨w9, hw9, hb9, HZ9, h9⟩ := box1 w8 (.cells #[.slice none 0 0, .slice none 0 0, .slice none 0 0, .int .i64 0] 26)
          have HW9 : Hid (w9 = w8.alloc (.cells #[.slice none 0 0, .slice none 0 0, .slice none 0 0, .int .i64 0] 26)) := hw9
          have HB9 : Hid (Below w.heap.size w w9) := HB8.out.trans (hb9.mono HB8.out.size)
          obtain ⟨g0, g1, g2, g3⟩ := bcells4 h9
          have k9 := rfSame (fun _ => False) (fun _ => False) cZ cZ none none none 0 0 0 0 0 0 none none none 0 0 0 0 0 0 w9 (cZ_in w9) cZ_small cZ_ints cZ_len (cZ_in w9) cZ_small cZ_ints cZ_len
          rw [decide_eq_true (p := cdB cZ = cdB cZ) rfl] at k9
          simp only [cZ] at k9
          clear hw9 hb9 h9 HZ9
          go_upto_region 11 with fail
          rw [← HW9.out]
          go_wp2_with fail
          refine k9.mono ?_
          clear k9 g0 g1 g2 g3
          rintro e wy ⟨rfl, hby⟩
          have HBy : Hid (Below w.heap.size w wy) := HB9.out.trans (hby.mono HB9.out.size)
          clear hby
          have k1 := CV.out wy HBy.out
          go_wp2_with fail
          refine k1.mono ?_
          clear k1
          rintro e wz ⟨rfl, hbz⟩
          have HBz : Hid (Below w.heap.size w wz) := HBy.out.trans (hbz.mono HBy.out.size)
          clear hbz
          go_wp2
          go_ret
          exact ⟨rfl, HBz.out⟩
        · obtain ⟨D, hD⟩ : ∃ D, D = (rCode b).1 := ⟨_, rfl⟩
          obtain ⟨hokD, hbD⟩ := ldE_form hz
          have hsmD := rCode_small b
          rw [← hD] at hrd hcd hokD hbD hsmD ⊢
          obtain ⟨dm, hdm⟩ : ∃ m, m = D.main := ⟨_, rfl⟩
          rw [← hdm]
          have hintsD : IntsC D := okC_ints hokD
          obtain ⟨w9, hw9, hb9, HZ9, h9⟩ := box1 w8 (.cells #[.slice xs ms es, .slice xh mh eh, .slice xu mu eu, .int .i64 dm] 26)
          have HW9 : Hid (w9 = w8.alloc (.cells #[.slice xs ms es, .slice xh mh eh, .slice xu mu eu, .int .i64 dm] 26)) := hw9
          have H89 : Hid (Below w8.heap.size w8 w9) := hb9
          have HB9 : Hid (Below w.heap.size w w9) := HB8.out.trans (hb9.mono HB8.out.size)
          have HBX9 : Hid (w9.heap[w8.heap.size]? = some (.cells #[.slice xs ms es, .slice xh mh eh, .slice xu mu eu, .int .i64 dm] 26 (0, 0))) := h9
          have HCD : Hid (∀ W, Below w8.heap.size w8 W → CodeIn (fun q => q < w8.heap.size) W D (.slice xs ms es) (.slice xh mh eh) (.slice xu mu eu)) := fun W hW => hcd.low.below hW
          obtain ⟨g0, g1, g2, g3⟩ := bcells4 h9
          have k9 : Calls Tryz.prog 16 #[cdV (.slice xs ms es) (.slice xh mh eh) (.slice xu mu eu) dm] w9 fun e w' => (∃ b2 n2 c2, e = .returned (.tuple #[.slice b2 n2 c2, .int .i64 0]) ∧ bytesAt w' (.slice b2 n2 c2) b) ∧ Below w9.heap.size w9 w' := by
            rw [hdm]
            refine (cBytes_any _ D xs xh xu ms es mh eh mu eu w9 (HCD.out w9 hb9) (fun q hq => Nat.lt_of_lt_of_le hq hb9.size) hsmD hintsD (by rw [hbD]; have := HBL.out; omega) (HT.out w9 HB9.out).1 (HT.out w9 HB9.out).2).mono fun e w' ⟨hr, hw'⟩ => ⟨?_, hw'⟩
            rcases hr with ⟨h, -⟩ | ⟨-, v, he, ho⟩
            · rw [hrd] at h; cases h
            · rw [hbD] at ho
              obtain ⟨n0, bb, cc, rfl⟩ := own_form1 ho
              exact ⟨bb, n0, cc, he, bytesAt_own ho⟩
          have KCH : Hid (∀ W, Below w8.heap.size w8 W → Calls Tryz.prog 13 #[cdV (.slice xs ms es) (.slice xh mh eh) (.slice xu mu eu) dm] W fun e w' => e = .returned (.int .i64 0) ∧ Below W.heap.size W w') := fun W hW => by
            have hWw := HB8.out.trans (hW.mono HB8.out.size)
            have h2 := cCheck_any _ D xs xh xu ms es mh eh mu eu W (HCD.out W hW) hsmD (HT.out W hWw).1 (HT.out W hWw).2
            rw [hrd, ← hdm] at h2
            exact h2
          clear hw9 hb9 h9 HZ9 hcd hokD hbD hsmD hintsD hdm hD hrd hz
          go_upto_region 11 with fail
          rw [← HW9.out]
          go_wp2_with fail
          refine k9.mono ?_
          clear k9 g0 g1 g2 g3
          rintro e wa ⟨⟨b2, n2, c2, rfl, hba⟩, hb9a⟩
          have H8a : Hid (Below w8.heap.size w8 wa) := H89.out.trans (hb9a.mono H89.out.size)
          have HBa : Hid (Below w.heap.size w wa) := HB8.out.trans (H8a.out.mono HB8.out.size)
          obtain ⟨hn2, hrow2, -, -⟩ := bytesAt_row hba
          subst hn2
          obtain ⟨-, hrowv, -, -⟩ := bytesAt_row (HVB.out wa HBa.out)
          have hc1 : (convert 39 9 (.slice b2 b.length c2)).run Tryz.prog wa = .ok (.string ⟨b.toArray⟩) wa := conv_row wa b2 b c2 hrow2
          have hc2 : (convert 39 9 (.slice vb b.length vc)).run Tryz.prog wa = .ok (.string ⟨b.toArray⟩) wa := conv_row wa vb b vc hrowv
          obtain ⟨g0, g1, g2, g3⟩ := bcells4 ((hb9a.block _ (heap_lt HBX9.out)).trans HBX9.out)
          have ka := KCH.out wa H8a.out
          clear hba hb9a hrow2 hrowv
          go_wp2_with fail
          refine ka.mono ?_
          clear ka hc1 hc2 g0 g1 g2 g3
          rintro e wy ⟨rfl, hby⟩
          have HBy : Hid (Below w.heap.size w wy) := HBa.out.trans (hby.mono HBa.out.size)
          clear hby
          have k1 := CV.out wy HBy.out
          go_wp2_with fail
          refine k1.mono ?_
          clear k1
          rintro e wz ⟨rfl, hbz⟩
          have HBz : Hid (Below w.heap.size w wz) := HBy.out.trans (hbz.mono HBy.out.size)
          clear hbz
          go_wp2
          go_ret
          exact ⟨rfl, HBz.out⟩
end Go.Proofs.YtojopcgacgichaaGreatDoor
