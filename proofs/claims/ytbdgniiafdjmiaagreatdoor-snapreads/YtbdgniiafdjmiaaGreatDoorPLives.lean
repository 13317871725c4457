/- snap: the laws' lives. -/
import Derived.Test.YtbdgniiafdjmiaaGreatDoorPEx
namespace Go.Proofs.YtbdgniiafdjmiaaGreatDoor
open Go.RowKit Go.Shelf

set_option maxRecDepth 100000 in
set_option maxHeartbeats 8000000 in
theorem lives10_any (w : World) (ht : TabsP w) :
    Calls Tryz.prog 9 #[] w fun e w' => e = .returned (.bool true) ∧ Below w.heap.size w w' := by
  have HT : Hid (∀ W, Below w.heap.size w W → TabsP W) := fun W hW => ht.below hW (Nat.le_refl _)
  have c := bytes_yes (w := w) (s := sZ) ⟨_, sZ_in w⟩ sZ_small ht sZ_may
  rw [sZ_bytes] at c
  simp only [sZ] at c
  clear ht
  go_enter Tryz.func9, Tryz.ntmps9
  go_wp2_with fail
  refine c.mono ?_
  clear c
  rintro e w1 ⟨⟨b1, n1, c1, rfl, hby1⟩, hb1⟩
  have HB1 : Hid (Below w.heap.size w w1) := hb1
  have HY1 : Hid (bytesAt w1 (.slice b1 n1 c1) [0, 0, 0, 0, 0, 0, 0]) := hby1
  clear hby1 hb1
  obtain ⟨w2, hw2, hb2, HZ2, h2a, h2b⟩ := box2 w1 (.cells #[.int .i64 2, .int .i64 1, .string ⟨#[]⟩] 54) (.cells #[.string ⟨#[80]⟩, .slice (some ⟨w1.heap.size, 0, none⟩) 1 1] 51)
  have HW2 : Hid (w2 = (w1.alloc (.cells #[.int .i64 2, .int .i64 1, .string ⟨#[]⟩] 54)).alloc (.cells #[.string ⟨#[80]⟩, .slice (some ⟨w1.heap.size, 0, none⟩) 1 1] 51)) := hw2
  have H12 : Hid (Below w1.heap.size w1 w2) := hb2
  have HB2 : Hid (Below w.heap.size w w2) := HB1.out.trans (hb2.mono HB1.out.size)
  have c := bytes_yes (sE_in h2a h2b) sE_small (HT.out w2 HB2.out) sE_may
  have HSE : Hid (snB sE = [0, 0, 0, 0, 2, 97, 0, 2, 2, 80, 2, 4, 2]) := sE_bytes
  rw [HSE.out] at c
  clear hw2 hb2 h2a h2b HSE
  go_wp2_with fail
  rw [← HW2.out]
  refine c.mono ?_
  clear c
  rintro e w3 ⟨⟨b3, n3, c3, rfl, hby3⟩, hb3⟩
  have H13 : Hid (Below w1.heap.size w1 w3) := H12.out.trans (hb3.mono H12.out.size)
  have HB3 : Hid (Below w.heap.size w w3) := HB1.out.trans (H13.out.mono HB1.out.size)
  have HY3 : Hid (bytesAt w3 (.slice b3 n3 c3) [0, 0, 0, 0, 2, 97, 0, 2, 2, 80, 2, 4, 2]) := hby3
  have c := load_yes (s := sE) (by rw [sE_bytes]; exact hby3) sE_small sE_may (HT.out w3 HB3.out)
  clear hby3 hb3
  go_wp2_with fail
  refine c.mono ?_
  clear c
  rintro e w4 ⟨⟨x1, m1, y1, x2, m2, y2, rfl, hin⟩, hb4⟩
  have H34 : Hid (Below w3.heap.size w3 w4) := hb4
  obtain ⟨hm2, -⟩ : m2 = 1 ∧ True := ⟨by obtain ⟨S, h⟩ := hin; obtain ⟨b, c, e, -⟩ := h.heap.at; cases e; rfl, trivial⟩
  subst hm2
  obtain ⟨w5, hw5, hb5, HZ5, h5⟩ := box1 w4 (.cells #[.int .i64 0, .int .i64 0, .int .i64 0, .slice x1 m1 y1, .slice x2 1 y2, .string ⟨#[97]⟩, .int .i64 0] 27)
  have HW5 : Hid (w5 = w4.alloc (.cells #[.int .i64 0, .int .i64 0, .int .i64 0, .slice x1 m1 y1, .slice x2 1 y2, .string ⟨#[97]⟩, .int .i64 0] 27)) := hw5
  have H35 : Hid (Below w3.heap.size w3 w5) := H34.out.trans (hb5.mono H34.out.size)
  have H15 : Hid (Below w1.heap.size w1 w5) := H13.out.trans (H35.out.mono H13.out.size)
  have HB5 : Hid (Below w.heap.size w w5) := HB1.out.trans (H15.out.mono HB1.out.size)
  obtain ⟨hn1, hrow1, -, -⟩ := bytesAt_row (bytesAt_below HY1.out H15.out (Nat.le_refl _))
  obtain ⟨hn3, hrow3, -, -⟩ := bytesAt_row (bytesAt_below HY3.out H35.out (Nat.le_refl _))
  subst hn1
  subst hn3
  have hc1 : (convert 30 9 (.slice b1 7 c1)).run Tryz.prog w5 = .ok (.string ⟨#[0, 0, 0, 0, 0, 0, 0]⟩) w5 := conv_row w5 b1 [0, 0, 0, 0, 0, 0, 0] c1 hrow1
  have hc3 : (convert 30 9 (.slice b3 13 c3)).run Tryz.prog w5 = .ok (.string ⟨#[0, 0, 0, 0, 2, 97, 0, 2, 2, 80, 2, 4, 2]⟩) w5 := conv_row w5 b3 [0, 0, 0, 0, 2, 97, 0, 2, 2, 80, 2, 4, 2] c3 hrow3
  obtain ⟨-, -, -, -, f4, f5, -⟩ := cells7 h5
  clear hin hb4 hw5 hb5 h5 HZ5 hrow1 hrow3
  go_upto_region 4 with fail
  change Code.wp _ _ _ _ (w4.alloc (.cells #[.int .i64 0, .int .i64 0, .int .i64 0, .slice x1 m1 y1, .slice x2 1 y2, .string ⟨#[97]⟩, .int .i64 0] 27))
  rw [← HW5.out]
  go_wp2
  go_ret
  exact ⟨rfl, HB5.out⟩
end Go.Proofs.YtbdgniiafdjmiaaGreatDoor
