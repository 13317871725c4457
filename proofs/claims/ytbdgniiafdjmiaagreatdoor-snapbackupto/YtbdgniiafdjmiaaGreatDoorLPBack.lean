/- SnapBack: the walk. -/
import Derived.Test.YtbdgniiafdjmiaaGreatDoorPLives
import Derived.Test.YtbdgniiafdjmiaaGreatDoorPLight
import Derived.Test.YtbdgniiafdjmiaaGreatDoorPSame
namespace Go.Proofs.YtbdgniiafdjmiaaGreatDoor
open Go.RowKit Go.Shelf

/-- Load of any bytes: none's, or a state's whose bytes they are. -/
theorem load_any2 {w : World} {v : Value} {bs : List UInt8} (hv : bytesAt w v bs) (hb : bs.length ≤ 140737488355328) (ht : TabsP w) :
    Calls Tryz.prog 14 #[v] w fun e w' => ((∃ q : Int, q ≠ 0 ∧ e = .returned (.tuple #[snV sZ (.slice none 0 0) (.slice none 0 0), .int .i64 q])) ∨ (∃ D b1 n1 c1 b2 n2 c2, mayS D = true ∧ SmallS D ∧ snB D = bs ∧ e = .returned (.tuple #[snV D (.slice b1 n1 c1) (.slice b2 n2 c2), .int .i64 0]) ∧ SnAt w' D b1 n1 c1 b2 n2 c2)) ∧ Below w.heap.size w w' :=
  (pLoad_any v bs w hv hb ht).mono fun e w' ⟨hr, hb⟩ => ⟨by
    rcases hr with ⟨h, he⟩ | ⟨-, -, he⟩ | ⟨h0, hm, b1, n1, c1, b2, n2, c2, he, hin⟩
    · exact .inl ⟨_, by omega, he⟩
    · exact .inl ⟨2, by decide, he⟩
    · obtain ⟨h1, h2⟩ := ldS_form h0
      exact .inr ⟨_, b1, n1, c1, b2, n2, c2, hm, okSn_small h1, h2, he, _, hin⟩, hb⟩

set_option maxRecDepth 100000 in
set_option maxHeartbeats 8000000 in
theorem snapBack_any (S : Nat → Prop) (s : Sn) (b1 b2 : Option Addr) (n1 c1 n2 c2 : Nat) (v : Value) (b : List UInt8) (w : World) (hin : SnIn S w s (.slice b1 n1 c1) (.slice b2 n2 c2)) (hsm : SmallS s) (hv : bytesAt w v b) (hbl : b.length ≤ 1048576) (ht : TabsP w) :
    Calls Tryz.prog 5 #[snV s (.slice b1 n1 c1) (.slice b2 n2 c2), v] w fun e w' => e = .returned (.bool true) ∧ Below w.heap.size w w' := by
  have hvb := hv
  obtain ⟨vb, vc, rfl, -⟩ := hv
  obtain ⟨w1, hw1, hb1, HZ1, h1⟩ := box1 w (.cells #[.int .i64 s.pos, .int .i64 s.st, .int .i64 s.ft, .slice b1 n1 c1, .slice b2 n2 c2, .string (strB s.out), .int .i64 s.rd] 27)
  have HW1 : Hid (w1 = w.alloc (.cells #[.int .i64 s.pos, .int .i64 s.st, .int .i64 s.ft, .slice b1 n1 c1, .slice b2 n2 c2, .string (strB s.out), .int .i64 s.rd] 27)) := hw1
  have HB1 : Hid (Below w.heap.size w w1) := hb1
  have HLT : Hid (w.heap.size < w1.heap.size) := heap_lt h1
  have HF : Hid (∀ W, Below w1.heap.size w1 W → W.cell? ⟨w.heap.size, 0, none⟩ = some (.int .i64 s.pos) ∧ W.cell? ⟨w.heap.size, 1, none⟩ = some (.int .i64 s.st) ∧ W.cell? ⟨w.heap.size, 2, none⟩ = some (.int .i64 s.ft) ∧ W.cell? ⟨w.heap.size, 3, none⟩ = some (.slice b1 n1 c1) ∧ W.cell? ⟨w.heap.size, 4, none⟩ = some (.slice b2 n2 c2) ∧ W.cell? ⟨w.heap.size, 5, none⟩ = some (.string (strB s.out)) ∧ W.cell? ⟨w.heap.size, 6, none⟩ = some (.int .i64 s.rd)) := fun W hW => cells7 ((hW.block w.heap.size HLT.out).trans h1)
  have HBW : Hid (∀ W, Below w1.heap.size w1 W → Below w.heap.size w W) := fun W hW => hb1.trans (hW.mono hb1.size)
  have HCIN : Hid (∀ W, Below w.heap.size w W → SnAt W s b1 n1 c1 b2 n2 c2) := fun W hW => ⟨S, hin.below hW⟩
  have HT : Hid (∀ W, Below w.heap.size w W → TabsP W) := fun W hW => ht.below hW (Nat.le_refl _)
  have HSM : Hid (SmallS s) := hsm
  have CL : Hid (∀ (W : World), Below w.heap.size w W → Calls Tryz.prog 8 #[snV s (.slice b1 n1 c1) (.slice b2 n2 c2)] W fun e w' => Told10 e ∧ Below W.heap.size W w') := fun W hW => light10_any S s b1 b2 n1 c1 n2 c2 W (hin.below hW) hsm
  have CV : Hid (∀ (W : World), Below w.heap.size w W → Calls Tryz.prog 9 #[] W fun e w' => e = .returned (.bool true) ∧ Below W.heap.size W w') := fun W hW => lives10_any W (HT.out W hW)
  obtain ⟨R, hR⟩ : ∃ R, R = mayS s := ⟨_, rfl⟩
  have HRR : Hid (R = mayS s) := hR
  have HVB : Hid (∀ W, Below w.heap.size w W → bytesAt W (.slice vb b.length vc) b) := fun W hW => bytesAt_below hvb hW (Nat.le_refl _)
  have CLD : Hid (∀ (W : World), Below w.heap.size w W → Calls Tryz.prog 14 #[.slice vb b.length vc] W fun e w' => ((∃ q : Int, q ≠ 0 ∧ e = .returned (.tuple #[snV sZ (.slice none 0 0) (.slice none 0 0), .int .i64 q])) ∨ (∃ D b1 n1 c1 b2 n2 c2, mayS D = true ∧ SmallS D ∧ snB D = b ∧ e = .returned (.tuple #[snV D (.slice b1 n1 c1) (.slice b2 n2 c2), .int .i64 0]) ∧ SnAt w' D b1 n1 c1 b2 n2 c2)) ∧ Below W.heap.size W w') := fun W hW => load_any2 (HVB.out W hW) (by omega) (HT.out W hW)
  have CY : Hid (R = true → ∀ (W : World), Below w.heap.size w W → Calls Tryz.prog 10 #[snV s (.slice b1 n1 c1) (.slice b2 n2 c2)] W fun e w' => (∃ b n c, e = .returned (.tuple #[.slice b n c, .int .i64 0]) ∧ bytesAt w' (.slice b n c) (snB s)) ∧ Below W.heap.size W w') := fun h W hW => bytes_yes (HCIN.out W hW) hsm (HT.out W hW) (by rw [← hR]; exact h)
  have CN : Hid (R = false → ∀ (W : World), Below w.heap.size w W → Calls Tryz.prog 10 #[snV s (.slice b1 n1 c1) (.slice b2 n2 c2)] W fun e w' => e = .returned (.tuple #[.slice none 0 0, .int .i64 2]) ∧ Below W.heap.size W w') := fun h W hW => bytes_no (HCIN.out W hW) hsm (HT.out W hW) (by rw [← hR]; exact h)
  have CC : Hid (∀ (W : World), Below w.heap.size w W → Calls Tryz.prog 12 #[snV s (.slice b1 n1 c1) (.slice b2 n2 c2)] W fun e w' => e = .returned (.int .i64 (errR R)) ∧ Below W.heap.size W w') := fun W hW => by
    rw [hR]; exact pCheck_any S s b1 b2 n1 c1 n2 c2 W (hin.below hW) hsm (HT.out W hW)
  have CYL : Hid (R = true → ∀ (W : World) (x : Value), Below w.heap.size w W → bytesAt W x (snB s) → Calls Tryz.prog 14 #[x] W fun e w' => (∃ p1 m1 e1 p2 m2 e2, e = .returned (.tuple #[snV s (.slice p1 m1 e1) (.slice p2 m2 e2), .int .i64 0]) ∧ SnAt w' s p1 m1 e1 p2 m2 e2) ∧ Below W.heap.size W w') := fun h W x hW hx => load_yes hx hsm (by rw [← hR]; exact h) (HT.out W hW)
  have CYS : Hid (∀ (W : World) (p1 : Option Addr) (m1 e1 : Nat) (p2 : Option Addr) (m2 e2 : Nat), Below w.heap.size w W → SnAt W s p1 m1 e1 p2 m2 e2 → Calls Tryz.prog 16 #[snV s (.slice b1 n1 c1) (.slice b2 n2 c2), snV s (.slice p1 m1 e1) (.slice p2 m2 e2)] W fun e w' => e = .returned (.bool true) ∧ Below W.heap.size W w') := fun W p1 m1 e1 p2 m2 e2 hW hs => by
    obtain ⟨T, hs⟩ := hs
    exact pSame_any S T s b1 b2 p1 p2 n1 c1 n2 c2 m1 e1 m2 e2 W (hin.below hW) hs hsm
  have KZ : Hid (∀ W, Calls Tryz.prog 16 #[.agg #[.int .i64 0, .int .i64 0, .int .i64 0, .slice none 0 0, .slice none 0 0, .string ⟨#[]⟩, .int .i64 0], .agg #[.int .i64 0, .int .i64 0, .int .i64 0, .slice none 0 0, .slice none 0 0, .string ⟨#[]⟩, .int .i64 0]] W fun e w' => e = .returned (.bool true) ∧ Below W.heap.size W w') := fun W => pSame_any _ _ sZ none none none none 0 0 0 0 0 0 0 0 W (sZ_in W) (sZ_in W) sZ_small
  obtain ⟨f0, f1, f2, f3, f4, f5, f6⟩ := HF.out w1 (Below.refl _ _)
  have c1' := CL.out w1 hb1
  have hblI : (b.length : Int) ≤ 1048576 := by omega
  clear hw1 hb1 h1 hin hsm ht HZ1 hR hvb hbl
  go_enter Tryz.func5, Tryz.ntmps5
  go_wp2_with fail
  rw [← HW1.out]
  refine c1'.mono ?_
  clear c1' f0 f1 f2 f3 f4 f5 f6
  rintro e w2 ⟨⟨L, rfl⟩, hb2⟩
  have HB2 : Hid (Below w1.heap.size w1 w2) := hb2
  have HBw2 : Hid (Below w.heap.size w w2) := HBW.out _ hb2
  clear hb2
  cases L with
  | false =>
    have k1 := CV.out w2 HBw2.out
    go_wp2_with fail
    refine k1.mono ?_
    clear k1
    rintro e wz ⟨rfl, hbz⟩
    have HBz : Hid (Below w.heap.size w wz) := HBw2.out.trans (hbz.mono HBw2.out.size)
    clear hbz
    go_wp2
    go_ret
    exact ⟨rfl, HBz.out⟩
  | true =>
    by_cases hlen : (20000 : Int) < b.length
    · have k1 := CV.out w2 HBw2.out
      go_wp2_with fail
      refine k1.mono ?_
      clear k1
      rintro e wz ⟨rfl, hbz⟩
      have HBz : Hid (Below w.heap.size w wz) := HBw2.out.trans (hbz.mono HBw2.out.size)
      clear hbz
      go_wp2
      go_ret
      exact ⟨rfl, HBz.out⟩
    · obtain ⟨f0, f1, f2, f3, f4, f5, f6⟩ := HF.out w2 HB2.out
      cases R with
      | false =>
        have c2' := CN.out rfl w2 HBw2.out
        go_wp2_with fail
        refine c2'.mono ?_
        clear c2' f0 f1 f2 f3 f4 f5 f6
        rintro e w3 ⟨rfl, hb3⟩
        have HB3 : Hid (Below w.heap.size w w3) := HBw2.out.trans (hb3.mono HBw2.out.size)
        obtain ⟨f0, f1, f2, f3, f4, f5, f6⟩ := HF.out w3 (HB2.out.trans (hb3.mono HB2.out.size))
        have c4' := CC.out w3 HB3.out
        simp only [errR, Bool.false_eq_true, if_false] at c4'
        clear hb3
        go_wp2_with fail
        refine c4'.mono ?_
        clear c4' f0 f1 f2 f3 f4 f5 f6
        rintro e w6 ⟨rfl, hb6⟩
        have HB6 : Hid (Below w.heap.size w w6) := HB3.out.trans (hb6.mono HB3.out.size)
        clear hb6
        have k2 := CLD.out w6 HB6.out
        go_wp2_with fail
        refine k2.mono ?_
        clear k2
        rintro e w8 ⟨hret, hb8⟩
        have HB8 : Hid (Below w.heap.size w w8) := HB6.out.trans (hb8.mono HB6.out.size)
        clear hb8
        rcases hret with ⟨q, hq0, rfl⟩ | ⟨D, q1, l1, t1, q2, l2, t2, hmD, hsD, hbD, rfl, hcd⟩
        · have hqI : (q == 0) = false := by rw [beq_eq_false_iff_ne]; exact hq0
          have hqn : (q != 0) = true := by simp [bne, hqI]
          obtain ⟨w9, hw9, hb9, HZ9, h9⟩ := box1 w8 (.cells #[.int .i64 0, .int .i64 0, .int .i64 0, .slice none 0 0, .slice none 0 0, .string ⟨#[]⟩, .int .i64 0] 27)
          have HW9 : Hid (w9 = w8.alloc (.cells #[.int .i64 0, .int .i64 0, .int .i64 0, .slice none 0 0, .slice none 0 0, .string ⟨#[]⟩, .int .i64 0] 27)) := hw9
          have HB9 : Hid (Below w.heap.size w w9) := HB8.out.trans (hb9.mono HB8.out.size)
          obtain ⟨g0, g1, g2, g3, g4, g5, g6⟩ := cells7 h9
          have k9 := KZ.out w9
          simp only [sZ]
          clear hw9 hb9 h9 HZ9
          go_upto_region 11 with fail
          change Code.wp _ _ _ _ (w8.alloc (.cells #[.int .i64 0, .int .i64 0, .int .i64 0, .slice none 0 0, .slice none 0 0, .string ⟨#[]⟩, .int .i64 0] 27))
          rw [← HW9.out]
          go_wp2_with fail
          refine k9.mono ?_
          clear k9 g0 g1 g2 g3 g4 g5 g6
          rintro e wy ⟨rfl, hby⟩
          have HBy : Hid (Below w.heap.size w wy) := HB9.out.trans (hby.mono HB9.out.size)
          clear hby
          have k1 := CV.out wy HBy.out
          go_wp2_with fail
          refine k1.mono ?_
          clear k1
          rintro e wz ⟨rfl, hbz⟩
          have HBz : Hid (Below w.heap.size w wz) := HBy.out.trans (hbz.mono HBy.out.size)
          clear hbz
          go_wp2
          go_ret
          exact ⟨rfl, HBz.out⟩
        · have HMD : Hid (mayS D = true ∧ SmallS D ∧ snB D = b) := ⟨hmD, hsD, hbD⟩
          obtain ⟨w9, hw9, hb9, HZ9, h9⟩ := box1 w8 (.cells #[.int .i64 D.pos, .int .i64 D.st, .int .i64 D.ft, .slice q1 l1 t1, .slice q2 l2 t2, .string (strB D.out), .int .i64 D.rd] 27)
          have HW9 : Hid (w9 = w8.alloc (.cells #[.int .i64 D.pos, .int .i64 D.st, .int .i64 D.ft, .slice q1 l1 t1, .slice q2 l2 t2, .string (strB D.out), .int .i64 D.rd] 27)) := hw9
          have HB9 : Hid (Below w.heap.size w w9) := HB8.out.trans (hb9.mono HB8.out.size)
          obtain ⟨g0, g1, g2, g3, g4, g5, g6⟩ := cells7 h9
          have k9 := bytes_yes (hcd.below hb9) hsD (HT.out w9 HB9.out) hmD
          rw [hbD] at k9
          clear hw9 hb9 h9 HZ9 hcd hmD hsD hbD
          go_upto_region 11 with fail
          rw [← HW9.out]
          go_wp2_with fail
          refine k9.mono ?_
          clear k9 g0 g1 g2 g3 g4 g5 g6
          rintro e wa ⟨⟨b6, n6, c6, rfl, hba⟩, hb9a⟩
          have HBa : Hid (Below w.heap.size w wa) := HB9.out.trans (hb9a.mono HB9.out.size)
          obtain ⟨hn6, hrow6, -, -⟩ := bytesAt_row hba
          subst hn6
          obtain ⟨-, hrowv, -, -⟩ := bytesAt_row (HVB.out wa HBa.out)
          have hc1 : (convert 30 9 (.slice b6 b.length c6)).run Tryz.prog wa = .ok (.string ⟨b.toArray⟩) wa := conv_row wa b6 b c6 hrow6
          have hc2 : (convert 30 9 (.slice vb b.length vc)).run Tryz.prog wa = .ok (.string ⟨b.toArray⟩) wa := conv_row wa vb b vc hrowv
          clear hba hb9a hrow6 hrowv
          have k1 := CV.out wa HBa.out
          go_wp2_with fail
          refine k1.mono ?_
          clear k1 hc1 hc2
          rintro e wz ⟨rfl, hbz⟩
          have HBz : Hid (Below w.heap.size w wz) := HBa.out.trans (hbz.mono HBa.out.size)
          clear hbz
          go_wp2
          go_ret
          exact ⟨rfl, HBz.out⟩
      | true =>
        have c2' := CY.out rfl w2 HBw2.out
        go_wp2_with fail
        refine c2'.mono ?_
        clear c2' f0 f1 f2 f3 f4 f5 f6
        rintro e w3 ⟨⟨b3, n3, c3, rfl, hx3⟩, hb3⟩
        have HB3 : Hid (Below w.heap.size w w3) := HBw2.out.trans (hb3.mono HBw2.out.size)
        have H13 : Hid (Below w1.heap.size w1 w3) := HB2.out.trans (hb3.mono HB2.out.size)
        have c3' := CYL.out (by trivial) w3 _ HB3.out hx3
        clear hb3 hx3
        go_wp2_with fail
        refine c3'.mono ?_
        clear c3'
        rintro e w4 ⟨⟨p1, m1, e1, p2, m2, e2, rfl, hcd⟩, hb4⟩
        have HB4 : Hid (Below w.heap.size w w4) := HB3.out.trans (hb4.mono HB3.out.size)
        have H14 : Hid (Below w1.heap.size w1 w4) := H13.out.trans (hb4.mono H13.out.size)
        obtain ⟨w5, hw5, hb5, HZ5, h5⟩ := box1 w4 (.cells #[.int .i64 s.pos, .int .i64 s.st, .int .i64 s.ft, .slice p1 m1 e1, .slice p2 m2 e2, .string (strB s.out), .int .i64 s.rd] 27)
        have HW5 : Hid (w5 = w4.alloc (.cells #[.int .i64 s.pos, .int .i64 s.st, .int .i64 s.ft, .slice p1 m1 e1, .slice p2 m2 e2, .string (strB s.out), .int .i64 s.rd] 27)) := hw5
        have HB5 : Hid (Below w.heap.size w w5) := HB4.out.trans (hb5.mono HB4.out.size)
        have H15 : Hid (Below w1.heap.size w1 w5) := H14.out.trans (hb5.mono H14.out.size)
        obtain ⟨f0, f1, f2, f3, f4, f5, f6⟩ := HF.out w5 H15.out
        obtain ⟨g0, g1, g2, g3, g4, g5, g6⟩ := cells7 h5
        have c5' := CYS.out w5 p1 m1 e1 p2 m2 e2 HB5.out (hcd.below hb5)
        clear hb4 hcd hw5 hb5 h5 HZ5
        go_upto_region 6 with fail
        rw [← HW5.out]
        go_wp2_with fail
        refine c5'.mono ?_
        clear c5' f0 f1 f2 f3 f4 f5 f6 g0 g1 g2 g3 g4 g5 g6
        rintro e w6 ⟨rfl, hb6⟩
        have HB6 : Hid (Below w.heap.size w w6) := HB5.out.trans (hb6.mono HB5.out.size)
        obtain ⟨f0, f1, f2, f3, f4, f5, f6⟩ := HF.out w6 (H15.out.trans (hb6.mono H15.out.size))
        have c6' := CC.out w6 HB6.out
        simp only [errR, if_true] at c6'
        clear hb6
        go_wp2_with fail
        refine c6'.mono ?_
        clear c6' f0 f1 f2 f3 f4 f5 f6
        rintro e w6b ⟨rfl, hb6⟩
        replace HB6 : Hid (Below w.heap.size w w6b) := HB6.out.trans (hb6.mono HB6.out.size)
        clear hb6
        have k2 := CLD.out w6b HB6.out
        go_wp2_with fail
        refine k2.mono ?_
        clear k2
        rintro e w8 ⟨hret, hb8⟩
        have HB8 : Hid (Below w.heap.size w w8) := HB6.out.trans (hb8.mono HB6.out.size)
        clear hb8
        rcases hret with ⟨q, hq0, rfl⟩ | ⟨D, q1, l1, t1, q2, l2, t2, hmD, hsD, hbD, rfl, hcd⟩
        · have hqI : (q == 0) = false := by rw [beq_eq_false_iff_ne]; exact hq0
          have hqn : (q != 0) = true := by simp [bne, hqI]
          obtain ⟨w9, hw9, hb9, HZ9, h9⟩ := box1 w8 (.cells #[.int .i64 0, .int .i64 0, .int .i64 0, .slice none 0 0, .slice none 0 0, .string ⟨#[]⟩, .int .i64 0] 27)
          have HW9 : Hid (w9 = w8.alloc (.cells #[.int .i64 0, .int .i64 0, .int .i64 0, .slice none 0 0, .slice none 0 0, .string ⟨#[]⟩, .int .i64 0] 27)) := hw9
          have HB9 : Hid (Below w.heap.size w w9) := HB8.out.trans (hb9.mono HB8.out.size)
          obtain ⟨g0, g1, g2, g3, g4, g5, g6⟩ := cells7 h9
          have k9 := KZ.out w9
          simp only [sZ]
          clear hw9 hb9 h9 HZ9
          go_upto_region 11 with fail
          change Code.wp _ _ _ _ (w8.alloc (.cells #[.int .i64 0, .int .i64 0, .int .i64 0, .slice none 0 0, .slice none 0 0, .string ⟨#[]⟩, .int .i64 0] 27))
          rw [← HW9.out]
          go_wp2_with fail
          refine k9.mono ?_
          clear k9 g0 g1 g2 g3 g4 g5 g6
          rintro e wy ⟨rfl, hby⟩
          have HBy : Hid (Below w.heap.size w wy) := HB9.out.trans (hby.mono HB9.out.size)
          clear hby
          have k1 := CV.out wy HBy.out
          go_wp2_with fail
          refine k1.mono ?_
          clear k1
          rintro e wz ⟨rfl, hbz⟩
          have HBz : Hid (Below w.heap.size w wz) := HBy.out.trans (hbz.mono HBy.out.size)
          clear hbz
          go_wp2
          go_ret
          exact ⟨rfl, HBz.out⟩
        · have HMD : Hid (mayS D = true ∧ SmallS D ∧ snB D = b) := ⟨hmD, hsD, hbD⟩
          obtain ⟨w9, hw9, hb9, HZ9, h9⟩ := box1 w8 (.cells #[.int .i64 D.pos, .int .i64 D.st, .int .i64 D.ft, .slice q1 l1 t1, .slice q2 l2 t2, .string (strB D.out), .int .i64 D.rd] 27)
          have HW9 : Hid (w9 = w8.alloc (.cells #[.int .i64 D.pos, .int .i64 D.st, .int .i64 D.ft, .slice q1 l1 t1, .slice q2 l2 t2, .string (strB D.out), .int .i64 D.rd] 27)) := hw9
          have HB9 : Hid (Below w.heap.size w w9) := HB8.out.trans (hb9.mono HB8.out.size)
          obtain ⟨g0, g1, g2, g3, g4, g5, g6⟩ := cells7 h9
          have k9 := bytes_yes (hcd.below hb9) hsD (HT.out w9 HB9.out) hmD
          rw [hbD] at k9
          clear hw9 hb9 h9 HZ9 hcd hmD hsD hbD
          go_upto_region 11 with fail
          rw [← HW9.out]
          go_wp2_with fail
          refine k9.mono ?_
          clear k9 g0 g1 g2 g3 g4 g5 g6
          rintro e wa ⟨⟨b6, n6, c6, rfl, hba⟩, hb9a⟩
          have HBa : Hid (Below w.heap.size w wa) := HB9.out.trans (hb9a.mono HB9.out.size)
          obtain ⟨hn6, hrow6, -, -⟩ := bytesAt_row hba
          subst hn6
          obtain ⟨-, hrowv, -, -⟩ := bytesAt_row (HVB.out wa HBa.out)
          have hc1 : (convert 30 9 (.slice b6 b.length c6)).run Tryz.prog wa = .ok (.string ⟨b.toArray⟩) wa := conv_row wa b6 b c6 hrow6
          have hc2 : (convert 30 9 (.slice vb b.length vc)).run Tryz.prog wa = .ok (.string ⟨b.toArray⟩) wa := conv_row wa vb b vc hrowv
          clear hba hb9a hrow6 hrowv
          have k1 := CV.out wa HBa.out
          go_wp2_with fail
          refine k1.mono ?_
          clear k1 hc1 hc2
          rintro e wz ⟨rfl, hbz⟩
          have HBz : Hid (Below w.heap.size w wz) := HBa.out.trans (hbz.mono HBa.out.size)
          clear hbz
          go_wp2
          go_ret
          exact ⟨rfl, HBz.out⟩
end Go.Proofs.YtbdgniiafdjmiaaGreatDoor
