/- SnapWrites: the walk. -/
import Derived.Test.YtbdgniiafdjmiaaGreatDoorPLives
import Derived.Test.YtbdgniiafdjmiaaGreatDoorPLight
import Derived.Test.YtbdgniiafdjmiaaGreatDoorPRfMay
namespace Go.Proofs.YtbdgniiafdjmiaaGreatDoor
open Go.RowKit Go.Shelf

set_option maxRecDepth 100000 in
set_option maxHeartbeats 8000000 in
theorem snapWrites_any (S : Nat → Prop) (s : Sn) (b1 b2 : Option Addr) (n1 c1 n2 c2 : Nat) (w : World) (hin : SnIn S w s (.slice b1 n1 c1) (.slice b2 n2 c2)) (hsm : SmallS s) (hf : objsF w (.slice b2 n2 c2) s.heap) (ht : TabsP w) :
    Calls Tryz.prog 3 #[snV s (.slice b1 n1 c1) (.slice b2 n2 c2)] w fun e w' => e = .returned (.bool true) ∧ Below w.heap.size w w' := by
  obtain ⟨w1, hw1, hb1, HZ1, h1⟩ := box1 w (.cells #[.int .i64 s.pos, .int .i64 s.st, .int .i64 s.ft, .slice b1 n1 c1, .slice b2 n2 c2, .string (strB s.out), .int .i64 s.rd] 27)
  have HW1 : Hid (w1 = w.alloc (.cells #[.int .i64 s.pos, .int .i64 s.st, .int .i64 s.ft, .slice b1 n1 c1, .slice b2 n2 c2, .string (strB s.out), .int .i64 s.rd] 27)) := hw1
  have HB1 : Hid (Below w.heap.size w w1) := hb1
  have HLT : Hid (w.heap.size < w1.heap.size) := heap_lt h1
  have HF : Hid (∀ W, Below w1.heap.size w1 W → W.cell? ⟨w.heap.size, 0, none⟩ = some (.int .i64 s.pos) ∧ W.cell? ⟨w.heap.size, 1, none⟩ = some (.int .i64 s.st) ∧ W.cell? ⟨w.heap.size, 2, none⟩ = some (.int .i64 s.ft) ∧ W.cell? ⟨w.heap.size, 3, none⟩ = some (.slice b1 n1 c1) ∧ W.cell? ⟨w.heap.size, 4, none⟩ = some (.slice b2 n2 c2) ∧ W.cell? ⟨w.heap.size, 5, none⟩ = some (.string (strB s.out)) ∧ W.cell? ⟨w.heap.size, 6, none⟩ = some (.int .i64 s.rd)) := fun W hW => cells7 ((hW.block w.heap.size HLT.out).trans h1)
  have HBW : Hid (∀ W, Below w1.heap.size w1 W → Below w.heap.size w W) := fun W hW => hb1.trans (hW.mono hb1.size)
  have HCIN : Hid (∀ W, Below w.heap.size w W → SnAt W s b1 n1 c1 b2 n2 c2) := fun W hW => ⟨S, hin.below hW⟩
  have HT : Hid (∀ W, Below w.heap.size w W → TabsP W) := fun W hW => ht.below hW (Nat.le_refl _)
  have HSM : Hid (SmallS s) := hsm
  have CL : Hid (∀ (W : World), Below w.heap.size w W → Calls Tryz.prog 8 #[snV s (.slice b1 n1 c1) (.slice b2 n2 c2)] W fun e w' => Told10 e ∧ Below W.heap.size W w') := fun W hW => light10_any S s b1 b2 n1 c1 n2 c2 W (hin.below hW) hsm
  have CV : Hid (∀ (W : World), Below w.heap.size w W → Calls Tryz.prog 9 #[] W fun e w' => e = .returned (.bool true) ∧ Below W.heap.size W w') := fun W hW => lives10_any W (HT.out W hW)
  obtain ⟨R, hR⟩ : ∃ R, R = mayS s := ⟨_, rfl⟩
  have HRR : Hid (R = mayS s) := hR
  have CC : Hid (∀ (W : World), Below w.heap.size w W → Calls Tryz.prog 12 #[snV s (.slice b1 n1 c1) (.slice b2 n2 c2)] W fun e w' => e = .returned (.int .i64 (errR R)) ∧ Below W.heap.size W w') := fun W hW => by
    rw [hR]; exact pCheck_any S s b1 b2 n1 c1 n2 c2 W (hin.below hW) hsm (HT.out W hW)
  have CF : Hid (∀ (W : World), Below w.heap.size w W → Calls Tryz.prog 13 #[snV s (.slice b1 n1 c1) (.slice b2 n2 c2)] W fun e w' => e = .returned (.int .i64 (errR R)) ∧ Below W.heap.size W w') := fun W hW => by
    rw [hR]; exact pfCheck_any S s b1 b2 n1 c1 n2 c2 W (hin.below hW) hsm (objsF_below hin.heap hf hW)
  obtain ⟨B, hB⟩ : ∃ B, B = snB s := ⟨_, rfl⟩
  have CY : Hid (R = true → ∀ (W : World), Below w.heap.size w W → Calls Tryz.prog 10 #[snV s (.slice b1 n1 c1) (.slice b2 n2 c2)] W fun e w' => (∃ b n c, e = .returned (.tuple #[.slice b n c, .int .i64 0]) ∧ bytesAt w' (.slice b n c) B) ∧ Below W.heap.size W w') := fun h W hW => by
    rw [hB]; exact bytes_yes (HCIN.out W hW) hsm (HT.out W hW) (by rw [← hR]; exact h)
  have CN : Hid (R = false → ∀ (W : World), Below w.heap.size w W → Calls Tryz.prog 10 #[snV s (.slice b1 n1 c1) (.slice b2 n2 c2)] W fun e w' => e = .returned (.tuple #[.slice none 0 0, .int .i64 2]) ∧ Below W.heap.size W w') := fun h W hW => bytes_no (HCIN.out W hW) hsm (HT.out W hW) (by rw [← hR]; exact h)
  have DY : Hid (R = true → ∀ (W : World), Below w.heap.size w W → Calls Tryz.prog 11 #[snV s (.slice b1 n1 c1) (.slice b2 n2 c2)] W fun e w' => e = .returned (.tuple #[.string (strB B), .int .i64 0]) ∧ Below W.heap.size W w') := fun h W hW => by
    rw [hB]
    refine (pfBytes_any S s b1 b2 n1 c1 n2 c2 W (hin.below hW) hsm (objsF_below hin.heap hf hW)).mono fun e w' ⟨he, hb⟩ => ⟨?_, hb⟩
    rw [if_pos (by rw [← hR]; exact h)] at he
    exact he
  have DN : Hid (R = false → ∀ (W : World), Below w.heap.size w W → Calls Tryz.prog 11 #[snV s (.slice b1 n1 c1) (.slice b2 n2 c2)] W fun e w' => e = .returned (.tuple #[.string ⟨#[]⟩, .int .i64 2]) ∧ Below W.heap.size W w') := fun h W hW => by
    refine (pfBytes_any S s b1 b2 n1 c1 n2 c2 W (hin.below hW) hsm (objsF_below hin.heap hf hW)).mono fun e w' ⟨he, hb⟩ => ⟨?_, hb⟩
    rw [if_neg (by rw [← hR, h]; simp)] at he
    exact he
  obtain ⟨f0, f1, f2, f3, f4, f5, f6⟩ := HF.out w1 (Below.refl _ _)
  have c1' := CL.out w1 hb1
  clear hw1 hb1 h1 hin hsm hf ht HZ1 hR hB
  go_enter Tryz.func3, Tryz.ntmps3
  go_wp2_with fail
  rw [← HW1.out]
  refine c1'.mono ?_
  clear c1' f0 f1 f2 f3 f4 f5 f6
  rintro e w2 ⟨⟨L, rfl⟩, hb2⟩
  have HB2 : Hid (Below w1.heap.size w1 w2) := hb2
  have HBw2 : Hid (Below w.heap.size w w2) := HBW.out _ hb2
  clear hb2
  cases L with
  | false =>
    have k1 := CV.out w2 HBw2.out
    go_wp2_with fail
    refine k1.mono ?_
    clear k1
    rintro e wz ⟨rfl, hbz⟩
    have HBz : Hid (Below w.heap.size w wz) := HBw2.out.trans (hbz.mono HBw2.out.size)
    clear hbz
    go_wp2
    go_ret
    exact ⟨rfl, HBz.out⟩
  | true =>
    obtain ⟨f0, f1, f2, f3, f4, f5, f6⟩ := HF.out w2 HB2.out
    cases R with
    | false =>
      have c2' := CN.out rfl w2 HBw2.out
      go_wp2_with fail
      refine c2'.mono ?_
      clear c2' f0 f1 f2 f3 f4 f5 f6
      rintro e w3 ⟨rfl, hb3⟩
      have HB3 : Hid (Below w1.heap.size w1 w3) := HB2.out.trans (hb3.mono HB2.out.size)
      have HBw3 : Hid (Below w.heap.size w w3) := HBW.out _ HB3.out
      clear hb3
      obtain ⟨f0, f1, f2, f3, f4, f5, f6⟩ := HF.out w3 HB3.out
      have c3' := DN.out (by trivial) w3 HBw3.out
      go_wp2_with fail
      refine c3'.mono ?_
      clear c3' f0 f1 f2 f3 f4 f5 f6
      rintro e w4 ⟨rfl, hb4⟩
      have H34 : Hid (Below w3.heap.size w3 w4) := hb4
      have HB4 : Hid (Below w1.heap.size w1 w4) := HB3.out.trans (hb4.mono HB3.out.size)
      have HBw4 : Hid (Below w.heap.size w w4) := HBW.out _ HB4.out
      clear hb4
      have KL : Hid (∀ wx, Below w4.heap.size w4 wx → Calls Tryz.prog 9 #[] wx fun e w'' => e = .returned (.bool true) ∧ Below w4.heap.size w4 w'') := fun wx hx => (CV.out wx (HBw4.out.trans (hx.mono HBw4.out.size))).mono fun e w'' ⟨he, hb⟩ => ⟨he, hx.trans (hb.mono hx.size)⟩
      have KC : Hid (∀ wx, Below w4.heap.size w4 wx → Calls Tryz.prog 12 #[snV s (.slice b1 n1 c1) (.slice b2 n2 c2)] wx fun e w'' => e = .returned (.int .i64 2) ∧ Below w4.heap.size w4 w'') := fun wx hx => (CC.out wx (HBw4.out.trans (hx.mono HBw4.out.size))).mono fun e w'' ⟨he, hb⟩ => ⟨he, hx.trans (hb.mono hx.size)⟩
      have KD : Hid (∀ wx, Below w4.heap.size w4 wx → Calls Tryz.prog 13 #[snV s (.slice b1 n1 c1) (.slice b2 n2 c2)] wx fun e w'' => e = .returned (.int .i64 2) ∧ Below w4.heap.size w4 w'') := fun wx hx => (CF.out wx (HBw4.out.trans (hx.mono HBw4.out.size))).mono fun e w'' ⟨he, hb⟩ => ⟨he, hx.trans (hb.mono hx.size)⟩
      have hc1 : ∀ c : Cls w4.heap.size w4, (convert 30 9 (.slice none 0 0)).run Tryz.prog c.1 = .ok (.string ⟨#[]⟩) c.1 := fun c => conv_row c.1 none [] 0 (bytesAt_row (bytesAt_nil c.1)).2.1
      obtain ⟨f0, f1, f2, f3, f4, f5, f6⟩ := HF.out w4 HB4.out
      have hL0 : w.heap.size < w4.heap.size := Nat.lt_of_lt_of_le HLT.out HB4.out.size
      have u0 := cls_cell (n := w4.heap.size) f0 hL0
      have u1 := cls_cell (n := w4.heap.size) f1 hL0
      have u2 := cls_cell (n := w4.heap.size) f2 hL0
      have u3 := cls_cell (n := w4.heap.size) f3 hL0
      have u4 := cls_cell (n := w4.heap.size) f4 hL0
      have u5 := cls_cell (n := w4.heap.size) f5 hL0
      have u6 := cls_cell (n := w4.heap.size) f6 hL0
      clear f0 f1 f2 f3 f4 f5 f6
      go_wp2_with fail
      refine wp_region_cls (n := w4.heap.size) (w0 := w4) (Below.refl _ _) (by kernel_rfl) (by kernel_rfl) ?_
      iterate 11 (go_big_quiet_step (fail))
      go_big_quiet_step (exact cls_calls KC.out _)
      iterate 1 (go_big_quiet_step (fail))
      go_big_quiet_step (exact cls_calls KD.out _)
      iterate 3 (go_big_quiet_step (fail))
      go_big_quiet_step (exact cls_calls KL.out _)
      iterate 2 (go_big_quiet_step (fail))
      refine wpQuiet_nil ?_
      rintro _ ⟨c, rfl⟩
      have HBc : Hid (Below w.heap.size w c.1) := HBw4.out.trans (c.2.mono HBw4.out.size)
      clear hc1 u0 u1 u2 u3 u4 u5 u6
      go_wp2
      go_ret
      exact ⟨rfl, HBc.out⟩
    | true =>
      have c2' := CY.out rfl w2 HBw2.out
      go_wp2_with fail
      refine c2'.mono ?_
      clear c2' f0 f1 f2 f3 f4 f5 f6
      rintro e w3 ⟨⟨x3, m3, y3, rfl, hx3⟩, hb3⟩
      have HB3 : Hid (Below w1.heap.size w1 w3) := HB2.out.trans (hb3.mono HB2.out.size)
      have HBw3 : Hid (Below w.heap.size w w3) := HBW.out _ HB3.out
      have HX3 : Hid (bytesAt w3 (.slice x3 m3 y3) B) := hx3
      clear hx3
      clear hb3
      obtain ⟨f0, f1, f2, f3, f4, f5, f6⟩ := HF.out w3 HB3.out
      have c3' := DY.out (by trivial) w3 HBw3.out
      go_wp2_with fail
      refine c3'.mono ?_
      clear c3' f0 f1 f2 f3 f4 f5 f6
      rintro e w4 ⟨rfl, hb4⟩
      have H34 : Hid (Below w3.heap.size w3 w4) := hb4
      have HB4 : Hid (Below w1.heap.size w1 w4) := HB3.out.trans (hb4.mono HB3.out.size)
      have HBw4 : Hid (Below w.heap.size w w4) := HBW.out _ HB4.out
      clear hb4
      have KL : Hid (∀ wx, Below w4.heap.size w4 wx → Calls Tryz.prog 9 #[] wx fun e w'' => e = .returned (.bool true) ∧ Below w4.heap.size w4 w'') := fun wx hx => (CV.out wx (HBw4.out.trans (hx.mono HBw4.out.size))).mono fun e w'' ⟨he, hb⟩ => ⟨he, hx.trans (hb.mono hx.size)⟩
      have KC : Hid (∀ wx, Below w4.heap.size w4 wx → Calls Tryz.prog 12 #[snV s (.slice b1 n1 c1) (.slice b2 n2 c2)] wx fun e w'' => e = .returned (.int .i64 0) ∧ Below w4.heap.size w4 w'') := fun wx hx => (CC.out wx (HBw4.out.trans (hx.mono HBw4.out.size))).mono fun e w'' ⟨he, hb⟩ => ⟨he, hx.trans (hb.mono hx.size)⟩
      have KD : Hid (∀ wx, Below w4.heap.size w4 wx → Calls Tryz.prog 13 #[snV s (.slice b1 n1 c1) (.slice b2 n2 c2)] wx fun e w'' => e = .returned (.int .i64 0) ∧ Below w4.heap.size w4 w'') := fun wx hx => (CF.out wx (HBw4.out.trans (hx.mono HBw4.out.size))).mono fun e w'' ⟨he, hb⟩ => ⟨he, hx.trans (hb.mono hx.size)⟩
      obtain ⟨hm3, -, -, -⟩ := bytesAt_row HX3.out
      subst hm3
      have hc1 : ∀ c : Cls w4.heap.size w4, (convert 30 9 (.slice x3 B.length y3)).run Tryz.prog c.1 = .ok (.string (strB B)) c.1 := fun c => conv_row c.1 x3 B y3 (bytesAt_row (bytesAt_below HX3.out (H34.out.trans (c.2.mono H34.out.size)) (Nat.le_refl _))).2.1
      obtain ⟨f0, f1, f2, f3, f4, f5, f6⟩ := HF.out w4 HB4.out
      have hL0 : w.heap.size < w4.heap.size := Nat.lt_of_lt_of_le HLT.out HB4.out.size
      have u0 := cls_cell (n := w4.heap.size) f0 hL0
      have u1 := cls_cell (n := w4.heap.size) f1 hL0
      have u2 := cls_cell (n := w4.heap.size) f2 hL0
      have u3 := cls_cell (n := w4.heap.size) f3 hL0
      have u4 := cls_cell (n := w4.heap.size) f4 hL0
      have u5 := cls_cell (n := w4.heap.size) f5 hL0
      have u6 := cls_cell (n := w4.heap.size) f6 hL0
      clear f0 f1 f2 f3 f4 f5 f6
      go_wp2_with fail
      refine wp_region_cls (n := w4.heap.size) (w0 := w4) (Below.refl _ _) (by kernel_rfl) (by kernel_rfl) ?_
      iterate 11 (go_big_quiet_step (fail))
      go_big_quiet_step (exact cls_calls KC.out _)
      iterate 1 (go_big_quiet_step (fail))
      go_big_quiet_step (exact cls_calls KD.out _)
      iterate 3 (go_big_quiet_step (fail))
      go_big_quiet_step (exact cls_calls KL.out _)
      iterate 2 (go_big_quiet_step (fail))
      refine wpQuiet_nil ?_
      rintro _ ⟨c, rfl⟩
      have HBc : Hid (Below w.heap.size w c.1) := HBw4.out.trans (c.2.mono HBw4.out.size)
      clear hc1 u0 u1 u2 u3 u4 u5 u6
      go_wp2
      go_ret
      exact ⟨rfl, HBc.out⟩
end Go.Proofs.YtbdgniiafdjmiaaGreatDoor
