/- Whatever is put, a store answers, has, and tells of any position, what the document says. -/
import Derived.Test.YtancnmbgncofiaaKPlays
import Derived.Deep.DeepCutAuto
namespace Go.Proofs.Ytancnmbgncofiaa
open Go.RowKit

set_option maxHeartbeats 16000000 in
set_option maxRecDepth 100000 in
theorem splays_walk (m : Int) (base : Option Addr) (cap : Nat) (ls : List PB) (pos : Int) (w : World) (hacts : kactsAt w base ls) (hlc : ls.length ≤ cap) (hs : ∀ a ∈ ls, a.2.length ≤ 140737488355328) :
    Calls Try.prog 3 #[.int .i64 m, .slice base ls.length cap, .int .i64 pos] w fun e w' => e = .returned (.bool true) ∧ Below w.heap.size w w' := by
  obtain ⟨na, hna⟩ : ∃ na, na = ls.length := ⟨_, rfl⟩
  have HNA : Hid (na = ls.length) := hna
  rw [← hna] at hlc ⊢
  have HA : Hid (kactsAt w base ls) := hacts
  have HSZ : Hid (∀ a ∈ ls, a.2.length ≤ 140737488355328) := hs
  obtain ⟨M, hM⟩ : ∃ M : Int, M = ((kMost m : Nat) : Int) := ⟨_, rfl⟩
  have HM : Hid (M = ((kMost m : Nat) : Int)) := hM
  clear hna hacts hs hM
  go_enter Try.func3, Try.ntmps3
  go_wp2_with fail
  refine (kNewX m w).mono ?_
  rintro e w1 ⟨h, rfl, hst, hb1⟩
  have HF1 : Hid (FiIn w m h [] (.slice none 0 0) w1) := ⟨hst, hb1⟩
  clear hst hb1
  go_wp2_with fail
  refine (rNew_any m w1).mono ?_
  rintro e w2 ⟨rfl, hb2⟩
  rw [← HM.out]
  obtain ⟨w3, hw3⟩ : ∃ w3, w3 = w2.alloc (.cells #[.int .i64 M, .slice none 0 0] 27) := ⟨_, rfl⟩
  have hb23 : Below w2.heap.size w2 w3 := by rw [hw3]; exact (Below.refl _ w2).alloc (Nat.le_refl _) _
  have hblk : w3.heap[w2.heap.size]? = some (.cells #[.int .i64 M, .slice none 0 0] 27 (0, 0)) := by rw [hw3]; exact heap_alloc_new _ _
  have HP3 : Hid (PlIn w m h w2.heap.size [] (.slice none 0 0) (.slice none 0 0) w3) := by
    refine ⟨(HF1.out.below hb2).below hb23, World.ownsRow_nil _ _ _ _, by rw [← HM.out]; exact hblk, ?_⟩
    have := (HF1.out.below hb2).b.size
    omega
  have HW3 : Hid (w3 = w2.alloc (.cells #[.int .i64 M, .slice none 0 0] 27)) := hw3
  clear hb2 hb23 hblk hw3 HF1
  go_upto_region 2 with fail
  rw [← HW3.out]
  clear HW3
  generalize hmb : w2.heap.size = mb at HP3 ⊢
  clear hmb
  by_cases hbig : 300 < na
  · go_wp2_with fail
    refine (lives11_any _).mono ?_
    rintro e w4 ⟨rfl, hb⟩
    have HB : Hid (Below w.heap.size w w4) := HP3.out.fi.b.trans (hb.mono HP3.out.fi.s.low)
    go_wp2
    go_ret
    exact ⟨rfl, HB.out⟩
  · go_wp2
    go_loopw [9] (fun vi wr => ∃ i : Nat, i ≤ na ∧ vi = .int .i64 (i : Int) ∧ ∃ l vk y, PlIn w m h mb l vk y wr) (fun vi _ => na - (intOf vi).toNat)
    case atStart => exact ⟨0, Nat.zero_le _, rfl, _, _, _, HP3.out⟩
    case round =>
      clear HP3
      obtain ⟨i, hin, rfl, l, vk, y, hpl⟩ := hrel
      have HP : Hid (PlIn w m h mb l vk y wr) := hpl
      obtain ⟨yb, yc, hy, -, -⟩ := kown_val hpl.rf
      clear hpl
      by_cases hlt : i < na
      · have hil : i < ls.length := by rw [← HNA.out]; exact hlt
        rcases HA.out with h0 | ⟨ab, ao, rfl, hcell⟩
        · rw [h0] at hil; simp at hil
        · obtain ⟨d0, d1, hp1, hp2⟩ := hcell i hil
          have hsz := HSZ.out (ls[i]) (List.getElem_mem hil)
          obtain ⟨ap, hap⟩ : ∃ ap, ap = (ls[i]).1 := ⟨_, rfl⟩
          obtain ⟨bs, hbs⟩ : ∃ bs, bs = (ls[i]).2 := ⟨_, rfl⟩
          rw [← hap] at d0 hp1 hp2
          rw [← hbs] at d1 hsz
          have halt : ab < w.heap.size := World.block_lt_of_cell? w _ d0
          have HC0 : Hid (∀ W, Below w.heap.size w W → W.cell? ⟨ab, ao + i * 2, none⟩ = some (.int .i64 ap) ∧ W.cell? ⟨ab, ao + i * 2 + 1, none⟩ = some (.string ⟨bs.toArray⟩)) := fun W hW => ⟨(kbelow_cell hW halt).trans d0, (kbelow_cell hW halt).trans d1⟩
          obtain ⟨F, hF⟩ : ∃ F : Int, F = if ap < 0 then 2 else 0 := ⟨_, rfl⟩
          obtain ⟨L, hL⟩ : ∃ L, L = actL (kMost m) l (ap, bs) := ⟨_, rfl⟩
          have HF : Hid (F = if ap < 0 then 2 else 0) := hF
          have HL : Hid (L = actL (kMost m) l (ap, bs)) := hL
          obtain ⟨n0, hn0⟩ : ∃ n0, n0 = l.length := ⟨_, rfl⟩
          rw [← hn0] at hy
          subst hy
          obtain ⟨e0, e1⟩ := HC0.out wr HP.out.fi.b
          have HRP : Hid (∀ W, Below wr.heap.size wr W → Calls Try.prog 7 #[.agg #[.int .i64 M, .slice yb n0 yc], .int .i64 ap, .string ⟨bs.toArray⟩] W fun e w' => ∃ yb yn yc, e = .returned (.tuple #[.agg #[.int .i64 M, .slice yb yn yc], .int .i64 F]) ∧ Hid (RfIn w' (.slice yb yn yc) L ∧ Below W.heap.size W w')) := fun W hW => by
            rw [HM.out, HL.out, HF.out]
            exact rPutA w m h l vk _ ap bs wr W HP.out.fi (HP.out.rf.below hW) hp2
          clear hap hbs hcell d0 d1 hF hL hn0
          obtain ⟨k0, k1, -⟩ := kcells2 HP.out.blk
          rw [← HM.out] at k0
          obtain ⟨sb, hsb⟩ : ∃ sb : ByteArray, sb = ⟨bs.toArray⟩ := ⟨_, rfl⟩
          have HSB : Hid (sb = ⟨bs.toArray⟩) := hsb
          rw [← hsb] at e1 HRP HC0
          clear hsb
          go_wp2_with fail
          go_cut [10, 11] (fun pp ee wx => ∃ g9 : Nat, pp = .pointer (some ⟨g9, 0, none⟩) ∧ ee = .int .i64 F ∧ Below wr.heap.size wr wx ∧ wr.heap.size ≤ g9 ∧ ∃ xb xn xc, wx.heap[g9]? = some (.cells #[.int .i64 M, .slice xb xn xc] 27 (0, 0)) ∧ RfIn wx (.slice xb xn xc) L)
          case first =>
            have HWD : Hid (Below wr.heap.size wr wr.drew) := (Below.refl _ _).drew
            have z0 : ∀ c : ClsP (fun W => Below wr.heap.size wr W), c.1.cell? ⟨ab, ao + i * 2, none⟩ = some (.int .i64 ap) := fun c => (HC0.out c.1 (HP.out.fi.b.trans (c.2.mono HP.out.fi.s.low))).1
            have z1 : ∀ c : ClsP (fun W => Below wr.heap.size wr W), c.1.cell? ⟨ab, ao + i * 2 + 1, none⟩ = some (.string sb) := fun c => (HC0.out c.1 (HP.out.fi.b.trans (c.2.mono HP.out.fi.s.low))).2
            have z2 : ∀ c : ClsP (fun W => Below wr.heap.size wr W), c.1.cell? ⟨mb, 0, none⟩ = some (.int .i64 M) := fun c => (kbelow_cell c.2 HP.out.lt).trans k0
            have z3 : ∀ c : ClsP (fun W => Below wr.heap.size wr W), c.1.cell? ⟨mb, 1, none⟩ = some (.slice yb n0 yc) := fun c => (kbelow_cell c.2 HP.out.lt).trans k1
            refine mix_begin (n := 18) (S := fun w' => ∃ c : ClsP (fun W => Below wr.heap.size wr W), w' = c.1) (by kernel_rfl) rfl rfl ?_
            refine mix_seg (fuel := 7) (fuel' := 18) (idx := [0, 1, 2, 3, 4, 5, 6, 7, 8, 9, 10]) (by decide +kernel) rfl rfl rfl (fun _ _ _ _ _ h => h) ⟨⟨wr.drew, HWD.out⟩, rfl⟩ ?_
            show wpQuiet _ _ _ _ [_, _, _, _, _, _, _, _, _, _, _] _
            iterate 11 (go_big_quiet_step (exact rfl))
            refine wpQuiet_nil ?_
            refine cmix_two (fuel := 6) (fuel' := 7) (i := 11) (k := 15) rfl rfl (by decide +kernel) rfl rfl rfl (by rfl) (by rfl) ?_ ?_
            · intro K hK
              go_simp
              refine (HRP.out _ HWD.out).mono ?_
              rintro e w4 ⟨xb, xn, xc, rfl, hx4⟩
              have HX4 : Hid (RfIn w4 (.slice xb xn xc) L ∧ Below wr.heap.size wr w4) := ⟨hx4.out.1, HWD.out.trans hx4.out.2⟩
              clear hx4
              (try go_simp)
              refine hK.out _ _ ⟨⟨w4, HX4.out.2⟩, rfl⟩ ?_
              clear hK K
              refine mix_seg (fuel := 3) (fuel' := 6) (idx := [12, 13, 14]) (by decide +kernel) rfl rfl rfl (fun _ _ _ _ _ h => h) ⟨⟨w4, HX4.out.2⟩, rfl⟩ ?_
              show wpQuiet _ _ _ _ [_, _, _] _
              iterate 3 (go_big_quiet_step (exact rfl))
              refine wpQuiet_nil ?_
              refine mix_loud (fuel := 2) (fuel' := 3) (i := 15) rfl (by decide +kernel) rfl rfl (by rfl) ?_
              intro K hK
              go_simp
              refine hK.out _ _ ⟨⟨_, HX4.out.2.alloc HX4.out.2.size _⟩, rfl⟩ ?_
              clear hK K
              refine mix_loud (fuel := 1) (fuel' := 2) (i := 16) rfl (by decide +kernel) rfl rfl (by rfl) ?_
              intro K hK
              go_simp
              have hbE : Below wr.heap.size wr (w4.alloc (.cells #[.int .i64 M, .slice xb xn xc] 27)) := HX4.out.2.alloc HX4.out.2.size _
              refine hK.out _ _ ⟨⟨_, hbE⟩, rfl⟩ ?_
              clear hK K
              refine mix_seg (fuel := 0) (fuel' := 1) (idx := [17]) (by decide +kernel) rfl rfl rfl (fun _ _ _ _ _ h => h) ⟨⟨_, hbE⟩, rfl⟩ ?_
              show wpQuiet _ _ _ _ [_] _
              iterate 1 (go_big_quiet_step (fail))
              refine wpQuiet_nil ?_
              refine mix_done (by decide +kernel) ?_
              go_wp2_with fail
              go_meet
              exact ⟨w4.heap.size, rfl, rfl, hbE, HX4.out.2.size, xb, xn, xc, heap_alloc_new _ _, HX4.out.1.below ((Below.refl _ _).alloc (Nat.le_refl _) _)⟩
            · intro K hK
              go_simp
              refine hK.out _ _ ⟨⟨(wr.alloc (.cells #[.int .i64 0, .slice none 0 0] 27)).drew, ((Below.refl _ _).alloc (Nat.le_refl _) _).drew⟩, rfl⟩ ?_
              clear hK K
              obtain ⟨w4, hw4⟩ : ∃ w4, w4 = (wr.alloc (.cells #[.int .i64 0, .slice none 0 0] 27)).drew := ⟨_, rfl⟩
              rw [← hw4]
              have h34 : Below wr.heap.size wr w4 := by rw [hw4]; exact ((Below.refl _ _).alloc (Nat.le_refl _) _).drew
              have HB34 : Hid (Below wr.heap.size wr w4) := h34
              have HZ4 : Hid (w4.heap[wr.heap.size]? = some (.cells #[.int .i64 0, .slice none 0 0] 27 (0, 0))) := by show _ = _; rw [hw4]; exact heap_alloc_new _ _
              clear hw4 h34
              refine mix_loud (fuel := 5) (fuel' := 6) (i := 11) rfl (by decide +kernel) rfl rfl (by rfl) ?_
              intro K hK
              go_simp
              refine (HRP.out _ HB34.out).mono ?_
              rintro e w5 ⟨xb, xn, xc, rfl, hx4⟩
              have HX4 : Hid (RfIn w5 (.slice xb xn xc) L ∧ Below wr.heap.size wr w5) := ⟨hx4.out.1, HB34.out.trans (hx4.out.2.mono HB34.out.size)⟩
              have HZ5 : Hid (w5.heap[wr.heap.size]? = some (.cells #[.int .i64 0, .slice none 0 0] 27 (0, 0))) := (hx4.out.2.block _ (Array.getElem?_eq_some_iff.1 HZ4.out).1).trans HZ4.out
              clear hx4 HZ4
              (try go_simp)
              refine hK.out _ _ ⟨⟨w5, HX4.out.2⟩, rfl⟩ ?_
              clear hK K
              refine mix_seg (fuel := 2) (fuel' := 5) (idx := [12, 13, 14]) (by decide +kernel) rfl rfl rfl (fun _ _ _ _ _ h => h) ⟨⟨w5, HX4.out.2⟩, rfl⟩ ?_
              show wpQuiet _ _ _ _ [_, _, _] _
              iterate 3 (go_big_quiet_step (exact rfl))
              refine wpQuiet_nil ?_
              obtain ⟨s0, s1, sf⟩ := kcells2 HZ5.out
              have sf0 := sf 0
              have sf1 := sf 1
              refine mix_loud (fuel := 1) (fuel' := 2) (i := 16) rfl (by decide +kernel) rfl rfl (by rfl) ?_
              intro K hK
              go_simp
              have hbE : Below wr.heap.size wr ((w5.setCell ⟨wr.heap.size, 0, none⟩ (.int .i64 M)).setCell ⟨wr.heap.size, 1, none⟩ (.slice xb xn xc)) := (HX4.out.2.setCell (Nat.le_refl _) _).setCell (Nat.le_refl _) _
              refine hK.out _ _ ⟨⟨_, hbE⟩, rfl⟩ ?_
              clear hK K
              refine mix_seg (fuel := 0) (fuel' := 1) (idx := [17]) (by decide +kernel) rfl rfl rfl (fun _ _ _ _ _ h => h) ⟨⟨_, hbE⟩, rfl⟩ ?_
              show wpQuiet _ _ _ _ [_] _
              iterate 1 (go_big_quiet_step (fail))
              refine wpQuiet_nil ?_
              refine mix_done (by decide +kernel) ?_
              go_wp2_with fail
              go_meet
              exact ⟨wr.heap.size, rfl, rfl, hbE, Nat.le_refl _, xb, xn, xc, kset2 HZ5.out, HX4.out.1.set2 _ _ HZ5.out⟩
          case rest =>
            obtain ⟨g9, rfl, rfl, hbx, hg9, xb, xn, xc, hblk, hrx⟩ := hcut
            have HPC : Hid (PlIn w m h mb l vk (.slice yb n0 yc) wc) := HP.out.below hbx
            have HX9 : Hid (wc.heap[g9]? = some (.cells #[.int .i64 M, .slice xb xn xc] 27 (0, 0)) ∧ RfIn wc (.slice xb xn xc) L) := ⟨hblk, hrx⟩
            clear hbx hblk hrx HRP e0 e1 k0 k1 HP hg9
            have hconv := fun (wx : World) => Lib.run_convert_string_bytes (P := Try.prog) wx 9 36 5 (⟨bs.toArray⟩ : ByteArray) Try.underlying9 Try.underlying36 Try.underlying5
            have hbsz : (⟨bs.toArray⟩ : ByteArray).size = bs.length := rfl
            have HCV : Hid (∀ W, bytesAt (Lib.bytesWorld W 5 (⟨bs.toArray⟩ : ByteArray)) (.slice (some ⟨W.heap.size, 0, none⟩) bs.length (grownCap W bs.length 0 5)) bs) := fun W => bytesAt_conv W 5 ⟨bs.toArray⟩ (by rw [hbsz]; unfold maxLen; omega)
            have HBW : Hid (∀ W, Below W.heap.size W (Lib.bytesWorld W 5 (⟨bs.toArray⟩ : ByteArray))) := fun W => bytesWorld_below W 5 _
            have tF : (F != F) = false := by simp
            rw [HSB.out] at HC0
            go_wp2_with fail
            have z0 : ∀ c : ClsP (fun W => Below w.heap.size w W), c.1.cell? ⟨ab, ao + i * 2, none⟩ = some (.int .i64 ap) := fun c => (HC0.out c.1 c.2).1
            have z1 : ∀ c : ClsP (fun W => Below w.heap.size w W), c.1.cell? ⟨ab, ao + i * 2 + 1, none⟩ = some (.string ⟨bs.toArray⟩) := fun c => (HC0.out c.1 c.2).2
            refine mix_begin (n := 15) (S := fun w' => ∃ c : ClsP (fun W => Below w.heap.size w W), w' = c.1) (by kernel_rfl) rfl rfl ?_
            refine mix_seg (fuel := 3) (fuel' := 15) (idx := [0, 1, 2, 3, 4, 5, 6, 7, 8, 9, 10, 13]) (by decide +kernel) rfl rfl rfl (fun _ _ _ _ _ h => h) ⟨⟨wc.drew, HPC.out.fi.b.drew⟩, rfl⟩ ?_
            show wpQuiet _ _ _ _ [_, _, _, _, _, _, _, _, _, _, _, _] _
            iterate 12 (go_big_quiet_step (exact rfl))
            refine wpQuiet_nil ?_
            refine mix_loud (fuel := 2) (fuel' := 3) (i := 11) rfl (by decide +kernel) rfl rfl (by rfl) ?_
            intro K hK
            go_simp
            have hbw := HBW.out wc.drew
            have hcv := HCV.out wc.drew
            obtain ⟨wb, hwb⟩ : ∃ wb, wb = Lib.bytesWorld wc.drew 5 (⟨bs.toArray⟩ : ByteArray) := ⟨_, rfl⟩
            obtain ⟨cp, hcp⟩ : ∃ cp, cp = grownCap wc.drew bs.length 0 5 := ⟨_, rfl⟩
            rw [← hwb] at hbw hcv ⊢
            rw [← hcp] at hcv ⊢
            have hbb : Below wc.heap.size wc wb := ((Below.refl _ wc).drew).trans hbw
            have HPB : Hid (PlIn w m h mb l vk (.slice yb n0 yc) wb) := HPC.out.below hbb
            have HXB : Hid (wb.heap[g9]? = some (.cells #[.int .i64 M, .slice xb xn xc] 27 (0, 0)) ∧ RfIn wb (.slice xb xn xc) L) := ⟨(hbb.block _ (Array.getElem?_eq_some_iff.1 HX9.out.1).1).trans HX9.out.1, HX9.out.2.below hbb⟩
            have HCB : Hid (bytesAt wb (.slice (some ⟨wc.heap.size, 0, none⟩) bs.length cp) bs) := hcv
            refine hK.out _ _ ⟨⟨wb, HPB.out.fi.b⟩, rfl⟩ ?_
            clear hK K hwb hcp hbw hcv hconv HCV HBW hbb HX9 HPC
            refine mix_loud (fuel := 1) (fuel' := 2) (i := 12) rfl (by decide +kernel) rfl rfl (by rfl) ?_
            intro K hK
            go_simp
            refine (kPutA w m h _ vk ap _ bs wb HPB.out.fi hp2 HCB.out hsz).mono ?_
            rintro e w6 ⟨rfl, vk2, hfi, hks⟩
            rw [← HF.out]
            rw [← HL.out] at hfi
            have HF6 : Hid (FiIn w m h L vk2 w6) := hfi
            have HX6 : Hid (w6.heap[g9]? = some (.cells #[.int .i64 M, .slice xb xn xc] 27 (0, 0)) ∧ RfIn w6 (.slice xb xn xc) L) := ⟨HPB.out.fi.putBeside hks HXB.out.1, HPB.out.fi.putRow hks HXB.out.2⟩
            have HM6 : Hid (w6.heap[mb]? = some (.cells #[.int .i64 M, .slice yb n0 yc] 27 (0, 0))) := HPB.out.fi.putBeside hks (by rw [HM.out]; exact HPB.out.blk)
            have HLO : Hid (w.heap.size ≤ mb) := HPB.out.lo
            clear hfi hks HPB HXB HCB
            (try go_simp)
            refine hK.out _ _ ⟨⟨w6, HF6.out.b⟩, rfl⟩ ?_
            clear hK K
            refine mix_seg (fuel := 0) (fuel' := 1) (idx := [14]) (by decide +kernel) rfl rfl rfl (fun _ _ _ _ _ h => h) ⟨⟨w6, HF6.out.b⟩, rfl⟩ ?_
            show wpQuiet _ _ _ _ [_] _
            iterate 1 (go_big_quiet_step (exact rfl))
            refine wpQuiet_nil ?_
            refine mix_done (by decide +kernel) ?_
            clear z0 z1
            obtain ⟨g0, g1, -⟩ := kcells2 HX6.out.1
            obtain ⟨r0, r1, rf⟩ := kcells2 HM6.out
            have HP7 : Hid (PlIn w m h mb L vk2 (.slice xb xn xc) ((w6.setCell ⟨mb, 0, none⟩ (.int .i64 M)).setCell ⟨mb, 1, none⟩ (.slice xb xn xc))) := ⟨HF6.out.set2 _ _ HM6.out HLO.out, HX6.out.2.set2 _ _ HM6.out, by rw [← HM.out]; exact kset2 HM6.out, HLO.out⟩
            go_upto_region 11 with fail
            obtain ⟨w7, hw7⟩ : ∃ w7, w7 = (w6.setCell ⟨mb, 0, none⟩ (.int .i64 M)).setCell ⟨mb, 1, none⟩ (.slice xb xn xc) := ⟨_, rfl⟩
            rw [← hw7] at HP7 ⊢
            clear hw7 g0 g1 r0 r1 rf HX6 HM6 HF6 HLO
            obtain ⟨c0, -⟩ := HC0.out w7 HP7.out.fi.b
            have HFC : Hid (Calls Try.prog 9 #[.pointer (some ⟨h, 0, none⟩), .int .i64 ap] w7 fun e w' => ∃ bx nx cx, e = .returned (.tuple #[.int .i64 (flP L ap), .slice bx nx cx, .bool (flO L ap)]) ∧ Hid (Below w7.heap.size w7 w' ∧ FlT w' (.slice bx nx cx) (flS L ap))) := kFloorA _ _ L h vk2 ap w7 HP7.out.fi.s
            obtain ⟨PP, hPP⟩ : ∃ PP, PP = flP L ap := ⟨_, rfl⟩
            obtain ⟨SS, hSS⟩ : ∃ SS, SS = flS L ap := ⟨_, rfl⟩
            obtain ⟨OO, hOO⟩ : ∃ OO, OO = flO L ap := ⟨_, rfl⟩
            have HRF : Hid (∀ W y, RfIn W y L → Calls Try.prog 10 #[.agg #[.int .i64 M, y], .int .i64 ap] W fun e w' => e = .returned (.tuple #[.int .i64 PP, .string ⟨SS.toArray⟩, .bool OO]) ∧ Hid (Below W.heap.size W w')) := fun W y hy => by
              rw [hPP, hSS, hOO]
              exact rFloorA M L y ap W hy (Nat.le_trans HP7.out.few.1 HP7.out.few.2)
            rw [← hPP, ← hSS, ← hOO] at HFC
            have HLW : Hid (L.length ≤ 64) := Nat.le_trans HP7.out.few.1 HP7.out.few.2
            clear hPP hSS hOO
            go_wp2_with fail
            refine HFC.out.mono ?_
            rintro e w8 ⟨bx, nx, cx, rfl, hf8⟩
            have HP8 : Hid (PlIn w m h mb L vk2 (.slice xb xn xc) w8) := HP7.out.below hf8.out.1
            have HFT : Hid (FlT w8 (.slice bx nx cx) SS) := hf8.out.2
            clear HFC hf8 HP7 c0
            obtain ⟨k0, k1, -⟩ := kcells2 HP8.out.blk
            rw [← HM.out] at k0
            go_wp2_with fail
            have z0 : ∀ c : ClsP (fun W => Below w8.heap.size w8 W), c.1.cell? ⟨ab, ao + i * 2, none⟩ = some (.int .i64 ap) := fun c => (HC0.out c.1 (HP8.out.fi.b.trans (c.2.mono HP8.out.fi.s.low))).1
            have z2 : ∀ c : ClsP (fun W => Below w8.heap.size w8 W), c.1.cell? ⟨mb, 0, none⟩ = some (.int .i64 M) := fun c => (kbelow_cell c.2 HP8.out.lt).trans k0
            have z3 : ∀ c : ClsP (fun W => Below w8.heap.size w8 W), c.1.cell? ⟨mb, 1, none⟩ = some (.slice xb xn xc) := fun c => (kbelow_cell c.2 HP8.out.lt).trans k1
            have HD8 : Hid (Below w8.heap.size w8 w8.drew) := (Below.refl _ _).drew
            refine mix_begin (n := 14) (S := fun w' => ∃ c : ClsP (fun W => Below w8.heap.size w8 W), w' = c.1) (by kernel_rfl) rfl rfl ?_
            refine mix_seg (fuel := 8) (fuel' := 14) (idx := [0, 1, 2, 3, 4, 5]) (by decide +kernel) rfl rfl rfl (fun _ _ _ _ _ h => h) ⟨⟨w8.drew, HD8.out⟩, rfl⟩ ?_
            show wpQuiet _ _ _ _ [_, _, _, _, _, _] _
            iterate 6 (go_big_quiet_step (exact rfl))
            refine wpQuiet_nil ?_
            refine mix_loud (fuel := 7) (fuel' := 8) (i := 6) rfl (by decide +kernel) rfl rfl (by rfl) ?_
            intro K hK
            go_simp
            refine (HRF.out w8.drew _ (HP8.out.rf.below HD8.out)).mono ?_
            rintro e w9 ⟨rfl, hb9⟩
            have HB9 : Hid (Below w8.heap.size w8 w9) := HD8.out.trans hb9.out
            have HP9 : Hid (PlIn w m h mb L vk2 (.slice xb xn xc) w9) := HP8.out.below HB9.out
            have HFT9 : Hid (FlT w9 (.slice bx nx cx) SS) := HFT.out.below HB9.out
            clear hb9
            (try go_simp)
            refine hK.out _ _ ⟨⟨w9, HB9.out⟩, rfl⟩ ?_
            clear hK K
            refine mix_seg (fuel := 0) (fuel' := 7) (idx := [7, 8, 9, 10, 11, 12, 13]) (by decide +kernel) rfl rfl rfl (fun _ _ _ _ _ h => h) ⟨⟨w9, HB9.out⟩, rfl⟩ ?_
            show wpQuiet _ _ _ _ [_, _, _, _, _, _, _] _
            iterate 7 (go_big_quiet_step (exact rfl))
            refine wpQuiet_nil ?_
            refine mix_done (by decide +kernel) ?_
            clear z0 z2 z3 k0 k1 HP8 HD8 HFT HB9
            obtain ⟨k0, k1, -⟩ := kcells2 HP9.out.blk
            rw [← HM.out] at k0
            have HAC : Hid (∀ W, Below w9.heap.size w9 W → Calls Try.prog 12 #[.pointer (some ⟨h, 0, none⟩)] W fun e w' => ∃ v, e = .returned v ∧ w'.ownsRow W.heap.size 3 1 v L.length (intC (L.map (·.1))) ∧ Below W.heap.size W w') := fun W hW => kAllX _ _ L h vk2 W (HP9.out.fi.s.below hW)
            have HRA : Hid (∀ W, Below w9.heap.size w9 W → Calls Try.prog 13 #[.agg #[.int .i64 M, .slice xb xn xc]] W fun e w' => ∃ x, e = .returned x ∧ w'.ownsRow W.heap.size 3 1 x L.length (intC (L.map (·.1))) ∧ Below W.heap.size W w') := fun W hW => rAll_any M L _ W (HP9.out.rf.below hW) (by have := HLW.out; omega)
            have tP : (PP != PP) = false := by simp
            have tO : (OO != OO) = false := by simp
            obtain ⟨sS, hsS⟩ : ∃ sS : ByteArray, sS = ⟨SS.toArray⟩ := ⟨_, rfl⟩
            have HsS : Hid (sS = ⟨SS.toArray⟩) := hsS
            rw [← hsS]
            clear hsS
            go_wp2_with fail
            have z2 : ∀ c : ClsP (fun W => Below w9.heap.size w9 W), c.1.cell? ⟨mb, 0, none⟩ = some (.int .i64 M) := fun c => (kbelow_cell c.2 HP9.out.lt).trans k0
            have z3 : ∀ c : ClsP (fun W => Below w9.heap.size w9 W), c.1.cell? ⟨mb, 1, none⟩ = some (.slice xb xn xc) := fun c => (kbelow_cell c.2 HP9.out.lt).trans k1
            have z4 : ∀ c : ClsP (fun W => Below w9.heap.size w9 W), (convert 36 9 (.slice bx nx cx)).run Try.prog c.1 = .ok (.string sS) c.1 := fun c => by rw [HsS.out]; exact HFT9.out c.1 c.2
            have HD9 : Hid (Below w9.heap.size w9 w9.drew) := (Below.refl _ _).drew
            refine mix_begin (n := 22) (S := fun w' => ∃ c : ClsP (fun W => Below w9.heap.size w9 W), w' = c.1) (by kernel_rfl) rfl rfl ?_
            refine mix_seg (fuel := 20) (fuel' := 22) (idx := [0, 2]) (by decide +kernel) rfl rfl rfl (fun _ _ _ _ _ h => h) ⟨⟨w9.drew, HD9.out⟩, rfl⟩ ?_
            show wpQuiet _ _ _ _ [_, _] _
            iterate 2 (go_big_quiet_step (exact rfl))
            refine wpQuiet_nil ?_
            refine mix_loud (fuel := 19) (fuel' := 20) (i := 1) rfl (by decide +kernel) rfl rfl (by rfl) ?_
            intro K hK
            go_simp
            refine (HAC.out w9.drew HD9.out).mono ?_
            rintro e wa ⟨va, rfl, hoa, hba⟩
            have HBA : Hid (Below w9.heap.size w9 wa) := HD9.out.trans hba
            have HOA : Hid (wa.ownsRow 0 3 1 va (L.map (·.1)).length (intC (L.map (·.1)))) := by rw [List.length_map]; exact kown_base hoa (Nat.zero_le _)
            clear hoa hba
            (try go_simp)
            refine hK.out _ _ ⟨⟨wa, HBA.out⟩, rfl⟩ ?_
            clear hK K
            refine mix_loud (fuel := 18) (fuel' := 19) (i := 3) rfl (by decide +kernel) rfl rfl (by rfl) ?_
            intro K hK
            go_simp
            refine (HRA.out wa HBA.out).mono ?_
            rintro e wb ⟨vb, rfl, hob, hbb⟩
            have HBB : Hid (Below w9.heap.size w9 wb) := HBA.out.trans (hbb.mono HBA.out.size)
            have HOB : Hid (wb.ownsRow 0 3 1 vb (L.map (·.1)).length (intC (L.map (·.1)))) := by rw [List.length_map]; exact kown_base hob (Nat.zero_le _)
            have HOA2 : Hid (wb.ownsRow 0 3 1 va (L.map (·.1)).length (intC (L.map (·.1)))) := kbelowRow HOA.out hbb
            clear hob hbb HOA
            (try go_simp)
            refine hK.out _ _ ⟨⟨wb, HBB.out⟩, rfl⟩ ?_
            clear hK K
            refine mix_loud (fuel := 17) (fuel' := 18) (i := 4) rfl (by decide +kernel) rfl rfl (by rfl) ?_
            intro K hK
            go_simp
            refine (kSame_any (L.map (·.1)) (L.map (·.1)) va vb wb HOA2.out HOB.out (by have := HLW.out; rw [List.length_map]; omega)).mono ?_
            rintro e wd ⟨rfl, hbd⟩
            have HBD : Hid (Below w9.heap.size w9 wd) := HBB.out.trans (hbd.mono HBB.out.size)
            rw [show decide (L.map (·.1) = L.map (·.1)) = true by simp]
            clear hbd HOA2 HOB
            (try go_simp)
            refine hK.out _ _ ⟨⟨wd, HBD.out⟩, rfl⟩ ?_
            clear hK K
            refine mix_seg (fuel := 0) (fuel' := 17) (idx := [5, 6, 7, 8, 9, 10, 11, 12, 13, 14, 15, 16, 17, 18, 19, 20, 21]) (by decide +kernel) rfl rfl rfl (fun _ _ _ _ _ h => h) ⟨⟨wd, HBD.out⟩, rfl⟩ ?_
            show wpQuiet _ _ _ _ [_, _, _, _, _, _, _, _, _, _, _, _, _, _, _, _, _] _
            iterate 17 (go_big_quiet_step (exact rfl))
            refine wpQuiet_nil ?_
            refine mix_done (by decide +kernel) ?_
            have HPD : Hid (PlIn w m h mb L vk2 (.slice xb xn xc) wd) := HP9.out.below HBD.out
            clear z2 z3 z4 k0 k1
            go_wp2
            go_roundw
            case rel => exact ⟨i + 1, by omega, by go_num, L, vk2, _, HPD.out⟩
            case measure => simp [intOf]; omega
      · obtain rfl : i = na := by omega
        have HFC : Hid (Calls Try.prog 9 #[.pointer (some ⟨h, 0, none⟩), .int .i64 pos] wr fun e w' => ∃ bx nx cx, e = .returned (.tuple #[.int .i64 (flP l pos), .slice bx nx cx, .bool (flO l pos)]) ∧ Hid (Below wr.heap.size wr w' ∧ FlT w' (.slice bx nx cx) (flS l pos))) := kFloorA _ _ l h vk pos wr HP.out.fi.s
        obtain ⟨PP, hPP⟩ : ∃ PP, PP = flP l pos := ⟨_, rfl⟩
        obtain ⟨SS, hSS⟩ : ∃ SS, SS = flS l pos := ⟨_, rfl⟩
        obtain ⟨OO, hOO⟩ : ∃ OO, OO = flO l pos := ⟨_, rfl⟩
        have HRF : Hid (∀ W y, RfIn W y l → Calls Try.prog 10 #[.agg #[.int .i64 M, y], .int .i64 pos] W fun e w' => e = .returned (.tuple #[.int .i64 PP, .string ⟨SS.toArray⟩, .bool OO]) ∧ Hid (Below W.heap.size W w')) := fun W y hy => by
          rw [hPP, hSS, hOO]
          exact rFloorA M l y pos W hy (Nat.le_trans HP.out.few.1 HP.out.few.2)
        rw [← hPP, ← hSS, ← hOO] at HFC
        obtain ⟨n0, hn0⟩ : ∃ n0, n0 = l.length := ⟨_, rfl⟩
        rw [← hn0] at hy
        subst hy
        clear hPP hSS hOO hn0
        go_wp2_with fail
        refine HFC.out.mono ?_
        rintro e w8 ⟨bx, nx, cx, rfl, hf8⟩
        have HP8 : Hid (PlIn w m h mb l vk (.slice yb n0 yc) w8) := HP.out.below hf8.out.1
        have HFT : Hid (FlT w8 (.slice bx nx cx) SS) := hf8.out.2
        clear HFC hf8
        obtain ⟨k0, k1, -⟩ := kcells2 HP8.out.blk
        rw [← HM.out] at k0
        go_wp2_with fail
        refine (HRF.out w8 _ HP8.out.rf).mono ?_
        rintro e w9 ⟨rfl, hb9⟩
        have HP9 : Hid (PlIn w m h mb l vk (.slice yb n0 yc) w9) := HP8.out.below hb9.out
        have hcv : (convert 36 9 (.slice bx nx cx)).run Try.prog w9 = .ok (.string ⟨SS.toArray⟩) w9 := HFT.out w9 hb9.out
        clear hb9 k0 k1
        obtain ⟨sS, hsS⟩ : ∃ sS : ByteArray, sS = ⟨SS.toArray⟩ := ⟨_, rfl⟩
        rw [← hsS] at hcv ⊢
        clear hsS
        go_wp2_with fail
        refine (lives11_any w9).mono ?_
        rintro e wz ⟨rfl, hb⟩
        have HB : Hid (Below w.heap.size w wz) := HP9.out.fi.b.trans (hb.mono HP9.out.fi.s.low)
        go_wp2
        go_ret
        exact ⟨rfl, HB.out⟩
end Go.Proofs.Ytancnmbgncofiaa
