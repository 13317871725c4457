/- SnapApart: the walk. -/
import Derived.Test.YtbdgniiafdjmiaaGreatDoorPLives
import Derived.Test.YtbdgniiafdjmiaaGreatDoorPLight
import Derived.Test.YtbdgniiafdjmiaaGreatDoorPSameS
namespace Go.Proofs.YtbdgniiafdjmiaaGreatDoor
open Go.RowKit Go.Shelf

set_option maxRecDepth 100000 in
set_option maxHeartbeats 8000000 in
theorem snapApart_any (S T : Nat → Prop) (s t : Sn) (b1 b2 b3 b4 : Option Addr) (n1 c1 n2 c2 n3 c3 n4 c4 : Nat) (w : World) (hin : SnIn S w s (.slice b1 n1 c1) (.slice b2 n2 c2)) (hit : SnIn T w t (.slice b3 n3 c3) (.slice b4 n4 c4)) (hsm : SmallS s) (htm : SmallS t) (ht : TabsP w) :
    Calls Tryz.prog 7 #[snV s (.slice b1 n1 c1) (.slice b2 n2 c2), snV t (.slice b3 n3 c3) (.slice b4 n4 c4)] w fun e w' => e = .returned (.bool true) ∧ Below w.heap.size w w' := by
  obtain ⟨w1, hw1, hb1, HZ1, h1, h2⟩ := box2 w (.cells #[.int .i64 s.pos, .int .i64 s.st, .int .i64 s.ft, .slice b1 n1 c1, .slice b2 n2 c2, .string (strB s.out), .int .i64 s.rd] 27) (.cells #[.int .i64 t.pos, .int .i64 t.st, .int .i64 t.ft, .slice b3 n3 c3, .slice b4 n4 c4, .string (strB t.out), .int .i64 t.rd] 27)
  have HW1 : Hid (w1 = (w.alloc (.cells #[.int .i64 s.pos, .int .i64 s.st, .int .i64 s.ft, .slice b1 n1 c1, .slice b2 n2 c2, .string (strB s.out), .int .i64 s.rd] 27)).alloc (.cells #[.int .i64 t.pos, .int .i64 t.st, .int .i64 t.ft, .slice b3 n3 c3, .slice b4 n4 c4, .string (strB t.out), .int .i64 t.rd] 27)) := hw1
  have HB1 : Hid (Below w.heap.size w w1) := hb1
  have HLT : Hid (w.heap.size + 1 < w1.heap.size) := heap_lt h2
  have HF : Hid (∀ W, Below w1.heap.size w1 W → W.cell? ⟨w.heap.size, 0, none⟩ = some (.int .i64 s.pos) ∧ W.cell? ⟨w.heap.size, 1, none⟩ = some (.int .i64 s.st) ∧ W.cell? ⟨w.heap.size, 2, none⟩ = some (.int .i64 s.ft) ∧ W.cell? ⟨w.heap.size, 3, none⟩ = some (.slice b1 n1 c1) ∧ W.cell? ⟨w.heap.size, 4, none⟩ = some (.slice b2 n2 c2) ∧ W.cell? ⟨w.heap.size, 5, none⟩ = some (.string (strB s.out)) ∧ W.cell? ⟨w.heap.size, 6, none⟩ = some (.int .i64 s.rd)) := fun W hW => cells7 ((hW.block w.heap.size (heap_lt h1)).trans h1)
  have HG : Hid (∀ W, Below w1.heap.size w1 W → W.cell? ⟨w.heap.size + 1, 0, none⟩ = some (.int .i64 t.pos) ∧ W.cell? ⟨w.heap.size + 1, 1, none⟩ = some (.int .i64 t.st) ∧ W.cell? ⟨w.heap.size + 1, 2, none⟩ = some (.int .i64 t.ft) ∧ W.cell? ⟨w.heap.size + 1, 3, none⟩ = some (.slice b3 n3 c3) ∧ W.cell? ⟨w.heap.size + 1, 4, none⟩ = some (.slice b4 n4 c4) ∧ W.cell? ⟨w.heap.size + 1, 5, none⟩ = some (.string (strB t.out)) ∧ W.cell? ⟨w.heap.size + 1, 6, none⟩ = some (.int .i64 t.rd)) := fun W hW => cells7 ((hW.block (w.heap.size + 1) HLT.out).trans h2)
  have HBW : Hid (∀ W, Below w1.heap.size w1 W → Below w.heap.size w W) := fun W hW => hb1.trans (hW.mono hb1.size)
  have HT : Hid (∀ W, Below w.heap.size w W → TabsP W) := fun W hW => ht.below hW (Nat.le_refl _)
  have CL : Hid (∀ (W : World), Below w.heap.size w W → Calls Tryz.prog 8 #[snV s (.slice b1 n1 c1) (.slice b2 n2 c2)] W fun e w' => Told10 e ∧ Below W.heap.size W w') := fun W hW => light10_any S s b1 b2 n1 c1 n2 c2 W (hin.below hW) hsm
  have CLT : Hid (∀ (W : World), Below w.heap.size w W → Calls Tryz.prog 8 #[snV t (.slice b3 n3 c3) (.slice b4 n4 c4)] W fun e w' => Told10 e ∧ Below W.heap.size W w') := fun W hW => light10_any T t b3 b4 n3 c3 n4 c4 W (hit.below hW) htm
  have CV : Hid (∀ (W : World), Below w.heap.size w W → Calls Tryz.prog 9 #[] W fun e w' => e = .returned (.bool true) ∧ Below W.heap.size W w') := fun W hW => lives10_any W (HT.out W hW)
  obtain ⟨R, hR⟩ : ∃ R, R = mayS s := ⟨_, rfl⟩
  obtain ⟨Q, hQ⟩ : ∃ Q, Q = mayS t := ⟨_, rfl⟩
  obtain ⟨A, hA⟩ : ∃ A, A = snB s := ⟨_, rfl⟩
  obtain ⟨B, hB⟩ : ∃ B, B = snB t := ⟨_, rfl⟩
  have CY : Hid (R = true → ∀ (W : World), Below w.heap.size w W → Calls Tryz.prog 10 #[snV s (.slice b1 n1 c1) (.slice b2 n2 c2)] W fun e w' => (∃ b n c, e = .returned (.tuple #[.slice b n c, .int .i64 0]) ∧ bytesAt w' (.slice b n c) A) ∧ Below W.heap.size W w') := fun h W hW => by
    rw [hA]; exact bytes_yes ⟨S, hin.below hW⟩ hsm (HT.out W hW) (by rw [← hR]; exact h)
  have CN : Hid (R = false → ∀ (W : World), Below w.heap.size w W → Calls Tryz.prog 10 #[snV s (.slice b1 n1 c1) (.slice b2 n2 c2)] W fun e w' => e = .returned (.tuple #[.slice none 0 0, .int .i64 2]) ∧ Below W.heap.size W w') := fun h W hW => bytes_no ⟨S, hin.below hW⟩ hsm (HT.out W hW) (by rw [← hR]; exact h)
  have DY : Hid (Q = true → ∀ (W : World), Below w.heap.size w W → Calls Tryz.prog 10 #[snV t (.slice b3 n3 c3) (.slice b4 n4 c4)] W fun e w' => (∃ b n c, e = .returned (.tuple #[.slice b n c, .int .i64 0]) ∧ bytesAt w' (.slice b n c) B) ∧ Below W.heap.size W w') := fun h W hW => by
    rw [hB]; exact bytes_yes ⟨T, hit.below hW⟩ htm (HT.out W hW) (by rw [← hQ]; exact h)
  have DN : Hid (Q = false → ∀ (W : World), Below w.heap.size w W → Calls Tryz.prog 10 #[snV t (.slice b3 n3 c3) (.slice b4 n4 c4)] W fun e w' => e = .returned (.tuple #[.slice none 0 0, .int .i64 2]) ∧ Below W.heap.size W w') := fun h W hW => bytes_no ⟨T, hit.below hW⟩ htm (HT.out W hW) (by rw [← hQ]; exact h)
  have HAB : Hid (R = true → Q = true → (A = B ↔ s = t)) := fun h1 h2 => by
    rw [hA, hB]
    exact ⟨fun e => snB_inj (may_ok (by rw [← hR]; exact h1) hsm) (may_ok (by rw [← hQ]; exact h2) htm) e, fun e => by rw [e]⟩
  have CS : Hid (∀ (d : Bool), (d = true ↔ s = t) → ∀ (W : World), Below w.heap.size w W → Calls Tryz.prog 16 #[snV s (.slice b1 n1 c1) (.slice b2 n2 c2), snV t (.slice b3 n3 c3) (.slice b4 n4 c4)] W fun e w' => e = .returned (.bool d) ∧ Below W.heap.size W w') := fun d hd W hW =>
    (pSameS_any S T s t b1 b2 b3 b4 n1 c1 n2 c2 n3 c3 n4 c4 W (hin.below hW) (hit.below hW) hsm htm).mono fun e w' ⟨⟨r, he, hr⟩, hb⟩ => ⟨by
      rw [he]
      cases d
      · cases r
        · rfl
        · exact absurd (hd.2 (hr.1 rfl)) (by simp)
      · rw [hr.2 (hd.1 rfl)], hb⟩
  obtain ⟨f0, f1, f2, f3, f4, f5, f6⟩ := HF.out w1 (Below.refl _ _)
  have c1' := CL.out w1 hb1
  clear hw1 hb1 h1 h2 hin hit hsm htm ht HZ1 hR hQ hA hB
  go_enter Tryz.func7, Tryz.ntmps7
  go_wp2_with fail
  rw [← HW1.out]
  refine c1'.mono ?_
  clear c1' f0 f1 f2 f3 f4 f5 f6
  rintro e w2 ⟨⟨L, rfl⟩, hb2⟩
  have HB2 : Hid (Below w1.heap.size w1 w2) := hb2
  have HBw2 : Hid (Below w.heap.size w w2) := HBW.out _ hb2
  clear hb2
  cases L with
  | false =>
    have k1 := CV.out w2 HBw2.out
    go_wp2_with fail
    refine k1.mono ?_
    clear k1
    rintro e wz ⟨rfl, hbz⟩
    have HBz : Hid (Below w.heap.size w wz) := HBw2.out.trans (hbz.mono HBw2.out.size)
    clear hbz
    go_wp2
    go_ret
    exact ⟨rfl, HBz.out⟩
  | true =>
    obtain ⟨g0, g1, g2, g3, g4, g5, g6⟩ := HG.out w2 HB2.out
    have c1' := CLT.out w2 HBw2.out
    go_wp2_with fail
    refine c1'.mono ?_
    clear c1' g0 g1 g2 g3 g4 g5 g6
    rintro e w3 ⟨⟨L, rfl⟩, hb3⟩
    have HB3 : Hid (Below w1.heap.size w1 w3) := HB2.out.trans (hb3.mono HB2.out.size)
    have HBw3 : Hid (Below w.heap.size w w3) := HBW.out _ HB3.out
    clear hb3
    cases L with
    | false =>
      have k1 := CV.out w3 HBw3.out
      go_wp2_with fail
      refine k1.mono ?_
      clear k1
      rintro e wz ⟨rfl, hbz⟩
      have HBz : Hid (Below w.heap.size w wz) := HBw3.out.trans (hbz.mono HBw3.out.size)
      clear hbz
      go_wp2
      go_ret
      exact ⟨rfl, HBz.out⟩
    | true =>
      obtain ⟨f0, f1, f2, f3, f4, f5, f6⟩ := HF.out w3 HB3.out
      cases R with
      | false =>
        have c2' := CN.out rfl w3 HBw3.out
        go_wp2_with fail
        refine c2'.mono ?_
        clear c2' f0 f1 f2 f3 f4 f5 f6
        rintro e w4 ⟨rfl, hb4⟩
        have HB4 : Hid (Below w1.heap.size w1 w4) := HB3.out.trans (hb4.mono HB3.out.size)
        have HBw4 : Hid (Below w.heap.size w w4) := HBW.out _ HB4.out
        clear hb4
        obtain ⟨g0, g1, g2, g3, g4, g5, g6⟩ := HG.out w4 HB4.out
        cases Q with
        | false =>
          have c3' := DN.out rfl w4 HBw4.out
          go_wp2_with fail
          refine c3'.mono ?_
          clear c3' g0 g1 g2 g3 g4 g5 g6
          rintro e w5 ⟨rfl, hb5⟩
          have HB5 : Hid (Below w1.heap.size w1 w5) := HB4.out.trans (hb5.mono HB4.out.size)
          have HBw5 : Hid (Below w.heap.size w w5) := HBW.out _ HB5.out
          clear hb5
          have HC : Hid (∀ wx, Below w5.heap.size w5 wx → Calls Tryz.prog 9 #[] wx fun e w'' => e = .returned (.bool true) ∧ Below w5.heap.size w5 w'') := fun wx hx => (CV.out wx (HBw5.out.trans (hx.mono HBw5.out.size))).mono fun e w'' ⟨he, hb⟩ => ⟨he, hx.trans (hb.mono hx.size)⟩
          go_wp2_with fail
          refine wp_region_cls (n := w5.heap.size) (w0 := w5) (Below.refl _ _) (by kernel_rfl) (by kernel_rfl) ?_
          iterate 18 (go_big_quiet_step (fail))
          go_big_quiet_step (exact cls_calls HC.out _)
          iterate 2 (go_big_quiet_step (fail))
          refine wpQuiet_nil ?_
          rintro _ ⟨c, rfl⟩
          have HBc : Hid (Below w.heap.size w c.1) := HBw5.out.trans (c.2.mono HBw5.out.size)
          go_wp2
          go_ret
          exact ⟨rfl, HBc.out⟩
        | true =>
          have c3' := DY.out rfl w4 HBw4.out
          go_wp2_with fail
          refine c3'.mono ?_
          clear c3' g0 g1 g2 g3 g4 g5 g6
          rintro e w5 ⟨⟨x5, m5, y5, rfl, hx5⟩, hb5⟩
          have H45 : Hid (Below w4.heap.size w4 w5) := hb5
          have HB5 : Hid (Below w1.heap.size w1 w5) := HB4.out.trans (hb5.mono HB4.out.size)
          have HBw5 : Hid (Below w.heap.size w w5) := HBW.out _ HB5.out
          have HX5 : Hid (bytesAt w5 (.slice x5 m5 y5) B) := hx5
          clear hb5 hx5
          have HC : Hid (∀ wx, Below w5.heap.size w5 wx → Calls Tryz.prog 9 #[] wx fun e w'' => e = .returned (.bool true) ∧ Below w5.heap.size w5 w'') := fun wx hx => (CV.out wx (HBw5.out.trans (hx.mono HBw5.out.size))).mono fun e w'' ⟨he, hb⟩ => ⟨he, hx.trans (hb.mono hx.size)⟩
          go_wp2_with fail
          refine wp_region_cls (n := w5.heap.size) (w0 := w5) (Below.refl _ _) (by kernel_rfl) (by kernel_rfl) ?_
          iterate 18 (go_big_quiet_step (fail))
          go_big_quiet_step (exact cls_calls HC.out _)
          iterate 2 (go_big_quiet_step (fail))
          refine wpQuiet_nil ?_
          rintro _ ⟨c, rfl⟩
          have HBc : Hid (Below w.heap.size w c.1) := HBw5.out.trans (c.2.mono HBw5.out.size)
          go_wp2
          go_ret
          exact ⟨rfl, HBc.out⟩
      | true =>
        have c2' := CY.out rfl w3 HBw3.out
        go_wp2_with fail
        refine c2'.mono ?_
        clear c2' f0 f1 f2 f3 f4 f5 f6
        rintro e w4 ⟨⟨x4, m4, y4, rfl, hx4⟩, hb4⟩
        have HB4 : Hid (Below w1.heap.size w1 w4) := HB3.out.trans (hb4.mono HB3.out.size)
        have HBw4 : Hid (Below w.heap.size w w4) := HBW.out _ HB4.out
        have HX4 : Hid (bytesAt w4 (.slice x4 m4 y4) A) := hx4
        clear hb4 hx4
        obtain ⟨g0, g1, g2, g3, g4, g5, g6⟩ := HG.out w4 HB4.out
        cases Q with
        | false =>
          have c3' := DN.out rfl w4 HBw4.out
          go_wp2_with fail
          refine c3'.mono ?_
          clear c3' g0 g1 g2 g3 g4 g5 g6
          rintro e w5 ⟨rfl, hb5⟩
          have HB5 : Hid (Below w1.heap.size w1 w5) := HB4.out.trans (hb5.mono HB4.out.size)
          have HBw5 : Hid (Below w.heap.size w w5) := HBW.out _ HB5.out
          clear hb5
          have HC : Hid (∀ wx, Below w5.heap.size w5 wx → Calls Tryz.prog 9 #[] wx fun e w'' => e = .returned (.bool true) ∧ Below w5.heap.size w5 w'') := fun wx hx => (CV.out wx (HBw5.out.trans (hx.mono HBw5.out.size))).mono fun e w'' ⟨he, hb⟩ => ⟨he, hx.trans (hb.mono hx.size)⟩
          go_wp2_with fail
          refine wp_region_cls (n := w5.heap.size) (w0 := w5) (Below.refl _ _) (by kernel_rfl) (by kernel_rfl) ?_
          iterate 18 (go_big_quiet_step (fail))
          go_big_quiet_step (exact cls_calls HC.out _)
          iterate 2 (go_big_quiet_step (fail))
          refine wpQuiet_nil ?_
          rintro _ ⟨c, rfl⟩
          have HBc : Hid (Below w.heap.size w c.1) := HBw5.out.trans (c.2.mono HBw5.out.size)
          go_wp2
          go_ret
          exact ⟨rfl, HBc.out⟩
        | true =>
          have c3' := DY.out rfl w4 HBw4.out
          go_wp2_with fail
          refine c3'.mono ?_
          clear c3' g0 g1 g2 g3 g4 g5 g6
          rintro e w5 ⟨⟨x5, m5, y5, rfl, hx5⟩, hb5⟩
          have H45 : Hid (Below w4.heap.size w4 w5) := hb5
          have HB5 : Hid (Below w1.heap.size w1 w5) := HB4.out.trans (hb5.mono HB4.out.size)
          have HBw5 : Hid (Below w.heap.size w w5) := HBW.out _ HB5.out
          have HX5 : Hid (bytesAt w5 (.slice x5 m5 y5) B) := hx5
          clear hb5 hx5
          have HC : Hid (∀ wx, Below w5.heap.size w5 wx → Calls Tryz.prog 9 #[] wx fun e w'' => e = .returned (.bool true) ∧ Below w5.heap.size w5 w'') := fun wx hx => (CV.out wx (HBw5.out.trans (hx.mono HBw5.out.size))).mono fun e w'' ⟨he, hb⟩ => ⟨he, hx.trans (hb.mono hx.size)⟩
          obtain ⟨hm4, -, -, -⟩ := bytesAt_row HX4.out
          obtain ⟨hm5, -, -, -⟩ := bytesAt_row HX5.out
          subst hm4
          subst hm5
          have hc1 : ∀ c : Cls w5.heap.size w5, (convert 30 9 (.slice x4 A.length y4)).run Tryz.prog c.1 = .ok (.string (strB A)) c.1 := fun c => conv_row c.1 x4 A y4 (bytesAt_row (bytesAt_below HX4.out (H45.out.trans (c.2.mono H45.out.size)) (Nat.le_refl _))).2.1
          have hc2 : ∀ c : Cls w5.heap.size w5, (convert 30 9 (.slice x5 B.length y5)).run Tryz.prog c.1 = .ok (.string (strB B)) c.1 := fun c => conv_row c.1 x5 B y5 (bytesAt_row (bytesAt_below HX5.out c.2 (Nat.le_refl _))).2.1
          obtain ⟨f0, f1, f2, f3, f4, f5, f6⟩ := HF.out w5 HB5.out
          obtain ⟨g0, g1, g2, g3, g4, g5, g6⟩ := HG.out w5 HB5.out
          have hL : w.heap.size + 1 < w5.heap.size := Nat.lt_of_lt_of_le HLT.out HB5.out.size
          have hL0 : w.heap.size < w5.heap.size := by omega
          have u0 := cls_cell (n := w5.heap.size) f0 hL0
          have v0 := cls_cell (n := w5.heap.size) g0 hL
          have u1 := cls_cell (n := w5.heap.size) f1 hL0
          have v1 := cls_cell (n := w5.heap.size) g1 hL
          have u2 := cls_cell (n := w5.heap.size) f2 hL0
          have v2 := cls_cell (n := w5.heap.size) g2 hL
          have u3 := cls_cell (n := w5.heap.size) f3 hL0
          have v3 := cls_cell (n := w5.heap.size) g3 hL
          have u4 := cls_cell (n := w5.heap.size) f4 hL0
          have v4 := cls_cell (n := w5.heap.size) g4 hL
          have u5 := cls_cell (n := w5.heap.size) f5 hL0
          have v5 := cls_cell (n := w5.heap.size) g5 hL
          have u6 := cls_cell (n := w5.heap.size) f6 hL0
          have v6 := cls_cell (n := w5.heap.size) g6 hL
          clear f0 f1 f2 f3 f4 f5 f6 g0 g1 g2 g3 g4 g5 g6
          by_cases hab : A = B
          · have hst : s = t := (HAB.out (by trivial) (by trivial)).1 hab
            have HS : Hid (∀ wx, Below w5.heap.size w5 wx → Calls Tryz.prog 16 #[snV s (.slice b1 n1 c1) (.slice b2 n2 c2), snV t (.slice b3 n3 c3) (.slice b4 n4 c4)] wx fun e w'' => e = .returned (.bool true) ∧ Below w5.heap.size w5 w'') := fun wx hx => (CS.out true (by simp [hst]) wx (HBw5.out.trans (hx.mono HBw5.out.size))).mono fun e w'' ⟨he, hb⟩ => ⟨he, hx.trans (hb.mono hx.size)⟩
            subst hab
            clear hst
            go_wp2_with fail
            refine wp_region_cls (n := w5.heap.size) (w0 := w5) (Below.refl _ _) (by kernel_rfl) (by kernel_rfl) ?_
            iterate 14 (go_big_quiet_step (fail))
            go_big_quiet_step (exact cls_calls HS.out _)
            iterate 3 (go_big_quiet_step (fail))
            go_big_quiet_step (exact cls_calls HC.out _)
            iterate 2 (go_big_quiet_step (fail))
            refine wpQuiet_nil ?_
            rintro _ ⟨c, rfl⟩
            have HBc : Hid (Below w.heap.size w c.1) := HBw5.out.trans (c.2.mono HBw5.out.size)
            clear hc1 hc2 u0 u1 u2 u3 u4 u5 u6 v0 v1 v2 v3 v4 v5 v6
            go_wp2
            go_ret
            exact ⟨rfl, HBc.out⟩
          · have hst : ¬ s = t := fun e => hab ((HAB.out (by trivial) (by trivial)).2 e)
            have hbq : (A == B) = false := by rw [beq_eq_false_iff_ne]; exact hab
            have HS : Hid (∀ wx, Below w5.heap.size w5 wx → Calls Tryz.prog 16 #[snV s (.slice b1 n1 c1) (.slice b2 n2 c2), snV t (.slice b3 n3 c3) (.slice b4 n4 c4)] wx fun e w'' => e = .returned (.bool false) ∧ Below w5.heap.size w5 w'') := fun wx hx => (CS.out false (by simp [hst]) wx (HBw5.out.trans (hx.mono HBw5.out.size))).mono fun e w'' ⟨he, hb⟩ => ⟨he, hx.trans (hb.mono hx.size)⟩
            clear hst
            go_wp2_with fail
            refine wp_region_cls (n := w5.heap.size) (w0 := w5) (Below.refl _ _) (by kernel_rfl) (by kernel_rfl) ?_
            iterate 14 (go_big_quiet_step (fail))
            go_big_quiet_step (exact cls_calls HS.out _)
            iterate 3 (go_big_quiet_step (fail))
            go_big_quiet_step (exact cls_calls HC.out _)
            iterate 2 (go_big_quiet_step (fail))
            refine wpQuiet_nil ?_
            rintro _ ⟨c, rfl⟩
            have HBc : Hid (Below w.heap.size w c.1) := HBw5.out.trans (c.2.mono HBw5.out.size)
            clear hc1 hc2 u0 u1 u2 u3 u4 u5 u6 v0 v1 v2 v3 v4 v5 v6
            go_wp2
            go_ret
            exact ⟨rfl, HBc.out⟩
end Go.Proofs.YtbdgniiafdjmiaaGreatDoor
