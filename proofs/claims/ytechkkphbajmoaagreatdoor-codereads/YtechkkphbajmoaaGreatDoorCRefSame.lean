/- code: are two codes the same, by their bytes; the laws' example, and whether a code has few parts. -/
import Derived.Test.YtechkkphbajmoaaGreatDoorCRefPut
namespace Go.Proofs.YtechkkphbajmoaaGreatDoor
open Go.RowKit Go.Shelf

set_option maxRecDepth 100000 in
set_option maxHeartbeats 4000000 in
theorem rfSame (S T : Nat → Prop) (c d : Cd) (bs bh bu : Option Addr) (ns cs nh ch nu cu : Nat) (xs xh xu : Option Addr) (ms es mh eh mu eu : Nat) (w : World)
    (hin : CodeIn S w c (.slice bs ns cs) (.slice bh nh ch) (.slice bu nu cu)) (hsm : SmallC c) (hints : IntsC c) (hb : (cdB c).length ≤ 140737488355328)
    (hin2 : CodeIn T w d (.slice xs ms es) (.slice xh mh eh) (.slice xu mu eu)) (hsm2 : SmallC d) (hints2 : IntsC d) (hb2 : (cdB d).length ≤ 140737488355328) :
    Calls Tryz.prog 20 #[cdV (.slice bs ns cs) (.slice bh nh ch) (.slice bu nu cu) c.main, cdV (.slice xs ms es) (.slice xh mh eh) (.slice xu mu eu) d.main] w fun e w' => e = .returned (.bool (decide (cdB c = cdB d))) ∧ Below w.heap.size w w' := by
  obtain ⟨m, hm⟩ : ∃ m, m = c.main := ⟨_, rfl⟩
  obtain ⟨p, hp⟩ : ∃ m, m = d.main := ⟨_, rfl⟩
  rw [← hm, ← hp]
  obtain ⟨w1, hw1, hb1, HZ1, h1, h2⟩ := box2 w (.cells #[.slice bs ns cs, .slice bh nh ch, .slice bu nu cu, .int .i64 m] 26) (.cells #[.slice xs ms es, .slice xh mh eh, .slice xu mu eu, .int .i64 p] 26)
  have HW1 : Hid (w1 = (w.alloc (.cells #[.slice bs ns cs, .slice bh nh ch, .slice bu nu cu, .int .i64 m] 26)).alloc (.cells #[.slice xs ms es, .slice xh mh eh, .slice xu mu eu, .int .i64 p] 26)) := hw1
  have HB1 : Hid (Below w.heap.size w w1) := hb1
  have K1 : Hid (∀ W, Below w1.heap.size w1 W → Calls Tryz.prog 37 #[cdV (.slice bs ns cs) (.slice bh nh ch) (.slice bu nu cu) m] W fun e w' => e = .returned (.string (strB (cdB c))) ∧ Below w1.heap.size w1 w') := fun W hW => by
    rw [hm]; exact (rfPut S c bs bh bu ns cs nh ch nu cu W (hin.below (hb1.trans (hW.mono hb1.size))) hsm hints hb).mono fun e w' ⟨he, hB⟩ => ⟨he, hW.trans (hB.mono hW.size)⟩
  have K2 : Hid (∀ W, Below w1.heap.size w1 W → Calls Tryz.prog 37 #[cdV (.slice xs ms es) (.slice xh mh eh) (.slice xu mu eu) p] W fun e w' => e = .returned (.string (strB (cdB d))) ∧ Below w1.heap.size w1 w') := fun W hW => by
    rw [hp]; exact (rfPut T d xs xh xu ms es mh eh mu eu W (hin2.below (hb1.trans (hW.mono hb1.size))) hsm2 hints2 hb2).mono fun e w' ⟨he, hB⟩ => ⟨he, hW.trans (hB.mono hW.size)⟩
  obtain ⟨f0, f1, f2, f3⟩ := bcells4 h1
  obtain ⟨g0, g1, g2, g3⟩ := bcells4 h2
  have hl1 := heap_lt h1
  have hl2 := heap_lt h2
  have x0 := cls_cell (n := w1.heap.size) f0 hl1
  have x1 := cls_cell (n := w1.heap.size) f1 hl1
  have x2 := cls_cell (n := w1.heap.size) f2 hl1
  have x3 := cls_cell (n := w1.heap.size) f3 hl1
  have y0 := cls_cell (n := w1.heap.size) g0 hl2
  have y1 := cls_cell (n := w1.heap.size) g1 hl2
  have y2 := cls_cell (n := w1.heap.size) g2 hl2
  have y3 := cls_cell (n := w1.heap.size) g3 hl2
  obtain ⟨R, hR⟩ : ∃ R, R = decide (cdB c = cdB d) := ⟨_, rfl⟩
  obtain ⟨A, hA⟩ : ∃ A, A = cdB c := ⟨_, rfl⟩
  obtain ⟨B, hB⟩ : ∃ B, B = cdB d := ⟨_, rfl⟩
  rw [← hA] at K1 hR
  rw [← hB] at K2 hR
  have hE : (A == B) = R := by rw [beqL, hR]
  rw [hA, hB] at hR
  rw [← hR]
  clear hw1 hb1 h1 h2 hin hin2 hsm hsm2 hints hints2 hb hb2 hm hp f0 f1 f2 f3 g0 g1 g2 g3 hl1 hl2 hR hA hB HZ1
  go_enter Tryz.func20, Tryz.ntmps20
  go_upto_region 1 with fail
  rw [← HW1.out]
  refine wp_region_cls (n := w1.heap.size) (w0 := w1) (Below.refl _ _) (by kernel_rfl) (by kernel_rfl) ?_
  go_big_quiet_step (fail)
  go_big_quiet_step (exact cls_calls K1.out _)
  go_big_quiet_step (fail)
  go_big_quiet_step (exact cls_calls K2.out _)
  iterate 2 (go_big_quiet_step (fail))
  refine wpQuiet_nil ?_
  rintro _ ⟨cc, rfl⟩
  obtain ⟨w2, hb2⟩ := cc
  dsimp only
  have HB2 : Hid (Below w.heap.size w w2) := HB1.out.trans (hb2.mono HB1.out.size)
  clear hb2 x0 x1 x2 x3 y0 y1 y2 y3
  go_wp2
  go_ret
  exact ⟨rfl, HB2.out⟩
end Go.Proofs.YtechkkphbajmoaaGreatDoor
