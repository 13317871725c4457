/- CodeChecks: any code is right or not, and its heights are what the document says. -/
import Derived.Test.YtechkkphbajmoaaGreatDoorCRfHts
import Derived.Test.YtechkkphbajmoaaGreatDoorCRefT
import Derived.Test.YtechkkphbajmoaaGreatDoorCLight
import Derived.Test.YtechkkphbajmoaaGreatDoorCLives7
namespace Go.Proofs.YtechkkphbajmoaaGreatDoor
open Go.RowKit Go.Shelf

/-- What Heights answers, in one word: a row and a number. -/
theorem HtRet.two {c : Cd} {n : Int} {N M : Nat} {e f : Ending} {w1 w2 : World} (h1 : HtRet N c n e w1) (h2 : HtRet M c n f w2) : ∃ (l : List Int) (v u : Value) (q : Int), e = .returned (.tuple #[v, .int .i64 q]) ∧ f = .returned (.tuple #[u, .int .i64 q]) ∧ rowIn (fun b => N ≤ b) w1 v 1 intE l ∧ rowIn (fun b => M ≤ b) w2 u 1 intE l ∧ l.length ≤ 1048576 := by
  have nil : ∀ (N : Nat) (w : World), rowIn (fun b => N ≤ b) w (.slice none 0 0) 1 intE [] := fun N w => ⟨none, 0, rfl, Nat.le_refl _, Nat.zero_le _, .inl rfl⟩
  rcases h1 with ⟨r1, he⟩ | ⟨r1, n1, he⟩ | ⟨r1, i, hi, v, hn, he, hv⟩
  · rcases h2 with ⟨r2, hf⟩ | ⟨r2, n2, hf⟩ | ⟨r2, j, hj, u, hm, hf, hu⟩
    · exact ⟨[], _, _, 2, he, hf, nil _ _, nil _ _, by simp⟩
    · rw [r1] at r2; cases r2
    · rw [r1] at r2; cases r2
  · rcases h2 with ⟨r2, hf⟩ | ⟨r2, n2, hf⟩ | ⟨r2, j, hj, u, hm, hf, hu⟩
    · rw [r1] at r2; cases r2
    · exact ⟨[], _, _, 10, he, hf, nil _ _, nil _ _, by simp⟩
    · exact absurd ⟨by omega, by omega⟩ n1
  · rcases h2 with ⟨r2, hf⟩ | ⟨r2, n2, hf⟩ | ⟨r2, j, hj, u, hm, hf, hu⟩
    · rw [r1] at r2; cases r2
    · exact absurd ⟨by omega, by omega⟩ n2
    · obtain rfl : i = j := by omega
      refine ⟨hts c c.units[i], v, u, 0, he, hf, hv, hu, ?_⟩
      rw [hts_len]
      have := (unitR_parts ((rightC_parts r1).2.1 _ (List.getElem_mem hi))).2.2.2.1.2
      omega

set_option maxRecDepth 100000 in
set_option maxHeartbeats 8000000 in
theorem codeChecks_any (S : Nat → Prop) (c : Cd) (n : Int) (bs bh bu : Option Addr) (ns cs nh ch nu cu : Nat) (w : World) (hin : CodeIn S w c (.slice bs ns cs) (.slice bh nh ch) (.slice bu nu cu)) (hsm : SmallC c) (hints : IntsC c) (hun : ∀ u ∈ c.units, u.ins.length ≤ 1048576 ∧ u.vars.length ≤ 1048576) (ht : TabsP w) (hot : OpT w) :
    Calls Tryz.prog 3 #[cdV (.slice bs ns cs) (.slice bh nh ch) (.slice bu nu cu) c.main, .int .i64 n] w fun e w' => e = .returned (.bool true) ∧ Below w.heap.size w w' := by
  have hns : ns = c.strs.length := by obtain ⟨b, c, e, -⟩ := hin.strs.at; cases e; rfl
  have hnh : nh = c.shapes.length := by obtain ⟨b, c, e, -⟩ := hin.shapes.at; cases e; rfl
  have hnu : nu = c.units.length := by obtain ⟨b, c, e, -⟩ := hin.units.at; cases e; rfl
  obtain ⟨m, hm⟩ : ∃ m, m = c.main := ⟨_, rfl⟩
  rw [← hm]
  obtain ⟨w1, hw1, hb1, HZ1, h1⟩ := box1 w (.cells #[.slice bs ns cs, .slice bh nh ch, .slice bu nu cu, .int .i64 m] 26)
  have HW1 : Hid (w1 = w.alloc (.cells #[.slice bs ns cs, .slice bh nh ch, .slice bu nu cu, .int .i64 m] 26)) := hw1
  have HB1 : Hid (Below w.heap.size w w1) := hb1
  have HLT : Hid (w.heap.size < w1.heap.size) := heap_lt h1
  have HF : Hid (∀ W, Below w1.heap.size w1 W → W.cell? ⟨w.heap.size, 0, none⟩ = some (.slice bs ns cs) ∧ W.cell? ⟨w.heap.size, 1, none⟩ = some (.slice bh nh ch) ∧ W.cell? ⟨w.heap.size, 2, none⟩ = some (.slice bu nu cu) ∧ W.cell? ⟨w.heap.size, 3, none⟩ = some (.int .i64 m)) := fun W hW => bcells4 ((hW.block w.heap.size HLT.out).trans h1)
  have HBW : Hid (∀ W, Below w1.heap.size w1 W → Below w.heap.size w W) := fun W hW => hb1.trans (hW.mono hb1.size)
  have HCIN : Hid (∀ W, Below w.heap.size w W → CodeIn S W c (.slice bs ns cs) (.slice bh nh ch) (.slice bu nu cu)) := fun W hW => hin.below hW
  have HT : Hid (∀ W, Below w.heap.size w W → TabsP W ∧ OpT W) := fun W hW => ⟨ht.below hW (Nat.le_refl _), hot.below hW (Nat.le_refl _)⟩
  have CH : Hid (∀ (W : World), Below w.heap.size w W → Calls Tryz.prog 8 #[.agg #[.slice bs ns cs, .slice bh nh ch, .slice bu nu cu, .int .i64 m], .int .i64 n] W fun e w' => HtRet W.heap.size c n e w' ∧ Below W.heap.size W w') := fun W hW => by
    rw [hm]; exact cHeights_any S c n bs bh bu ns cs nh ch nu cu W (HCIN.out W hW) hsm (HT.out W hW).1 (HT.out W hW).2
  have CRH : Hid (∀ (W : World), Below w.heap.size w W → Calls Tryz.prog 9 #[.agg #[.slice bs ns cs, .slice bh nh ch, .slice bu nu cu, .int .i64 m], .int .i64 n] W fun e w' => HtRet W.heap.size c n e w' ∧ Below W.heap.size W w') := fun W hW => by
    rw [hm]; exact rfHeights S c n bs bh bu ns cs nh ch nu cu W (HCIN.out W hW) hsm hints hun
  obtain ⟨K, hK⟩ : ∃ K : Int, K = if rightC c then 0 else 2 := ⟨_, rfl⟩
  have CC : Hid (∀ (W : World), Below w.heap.size w W → Calls Tryz.prog 10 #[.agg #[.slice bs ns cs, .slice bh nh ch, .slice bu nu cu, .int .i64 m]] W fun e w' => e = .returned (.int .i64 K) ∧ Below W.heap.size W w') := fun W hW => by
    rw [hm, hK]; exact cCheck_any S c bs bh bu ns cs nh ch nu cu W (HCIN.out W hW) hsm (HT.out W hW).1 (HT.out W hW).2
  have CRC : Hid (∀ (W : World), Below w.heap.size w W → Calls Tryz.prog 11 #[.agg #[.slice bs ns cs, .slice bh nh ch, .slice bu nu cu, .int .i64 m]] W fun e w' => e = .returned (.int .i64 K) ∧ Below W.heap.size W w') := fun W hW => by
    rw [hm, hK]; exact rfCheck S c bs bh bu ns cs nh ch nu cu W (HCIN.out W hW) hsm hints hun
  have CL : Hid (∀ (W : World), Below w.heap.size w W → Calls Tryz.prog 6 #[.agg #[.slice bs ns cs, .slice bh nh ch, .slice bu nu cu, .int .i64 m]] W fun e w' => Told e ∧ Below W.heap.size W w') := fun W hW => by
    rw [hm]; exact light_any S c bs bh bu ns cs nh ch nu cu W (HCIN.out W hW) (by have := hsm.nstrs; omega) (by have := hsm.nshapes; omega) (by have := hsm.nunits; omega) hun
  have CV : Hid (∀ (W : World), Below w.heap.size w W → Calls Tryz.prog 7 #[] W fun e w' => e = .returned (.bool true) ∧ Below W.heap.size W w') := fun W hW => lives07_any W (HT.out W hW).1 (HT.out W hW).2
  obtain ⟨f0, f1, f2, f3⟩ := HF.out w1 (Below.refl _ _)
  have c1 := CL.out w1 hb1
  clear hns hnh hnu hm hw1 hb1 h1 hin hsm hints hun ht hot HZ1 hK
  go_enter Tryz.func3, Tryz.ntmps3
  go_wp2_with fail
  rw [← HW1.out]
  refine c1.mono ?_
  clear c1 f0 f1 f2 f3
  rintro e w2 ⟨⟨L, rfl⟩, hb2⟩
  have HB2 : Hid (Below w1.heap.size w1 w2) := hb2
  have HBw2 : Hid (Below w.heap.size w w2) := HBW.out _ hb2
  clear hb2
  cases L with
  | false =>
    have c2 := CV.out w2 HBw2.out
    go_wp2_with fail
    refine c2.mono ?_
    clear c2
    rintro e w3 ⟨rfl, hb3⟩
    have HBw3 : Hid (Below w.heap.size w w3) := HBw2.out.trans (hb3.mono HBw2.out.size)
    clear hb3
    go_wp2
    go_ret
    exact ⟨rfl, HBw3.out⟩
  | true =>
    obtain ⟨f0, f1, f2, f3⟩ := HF.out w2 HB2.out
    have c2 := CH.out w2 HBw2.out
    go_wp2_with fail
    refine c2.mono ?_
    clear c2 f0 f1 f2 f3
    rintro e w3 ⟨hret1, hb3⟩
    have HB3 : Hid (Below w1.heap.size w1 w3) := HB2.out.trans (hb3.mono HB2.out.size)
    have HBw3 : Hid (Below w.heap.size w w3) := HBW.out _ HB3.out
    obtain ⟨f0, f1, f2, f3⟩ := HF.out w3 HB3.out
    have c3 := CRH.out w3 HBw3.out
    have HR1 : Hid (HtRet w2.heap.size c n e w3) := hret1
    obtain ⟨v, q, hev⟩ : ∃ v q, e = .returned (.tuple #[v, .int .i64 q]) := by
      rcases hret1 with ⟨-, he⟩ | ⟨-, -, he⟩ | ⟨-, i, hi, v, -, he, -⟩
      · exact ⟨_, _, he⟩
      · exact ⟨_, _, he⟩
      · exact ⟨_, _, he⟩
    subst hev
    clear hb3 hret1
    go_wp2_with fail
    refine c3.mono ?_
    clear c3 f0 f1 f2 f3
    rintro e w4 ⟨hret2, hb4⟩
    have HB4 : Hid (Below w1.heap.size w1 w4) := HB3.out.trans (hb4.mono HB3.out.size)
    have HBw4 : Hid (Below w.heap.size w w4) := HBW.out _ HB4.out
    obtain ⟨l, v1, u, q1, e1, e2, hr1, hr2, hll⟩ := HR1.out.two hret2
    cases e1
    subst e2
    have CS : Hid (∀ W, Below w4.heap.size w4 W → Calls Tryz.prog 12 #[v, u] W fun e w' => e = .returned (.bool true) ∧ Below w4.heap.size w4 w') := fun W hW => by
      have h9 := rfSameNums _ _ l l v u W (rowIn.kept hr1 (intE_keeps _) (Nat.le_trans hb4.size hW.size) fun a _ ha => (hW.block a (Nat.lt_of_lt_of_le ha hb4.size)).trans (hb4.block a ha)) (rowIn.kept hr2 (intE_keeps _) hW.size fun a _ ha => hW.block a ha) hll
      rw [decide_eq_true rfl] at h9
      exact h9.mono fun e w' ⟨he, hb⟩ => ⟨he, hW.trans (hb.mono hW.size)⟩
    have C1 : Hid (∀ W, Below w4.heap.size w4 W → Calls Tryz.prog 10 #[.agg #[.slice bs ns cs, .slice bh nh ch, .slice bu nu cu, .int .i64 m]] W fun e w' => e = .returned (.int .i64 K) ∧ Below w4.heap.size w4 w') := fun W hW => (CC.out W (HBw4.out.trans (hW.mono HBw4.out.size))).mono fun e w' ⟨he, hb⟩ => ⟨he, hW.trans (hb.mono hW.size)⟩
    have C2 : Hid (∀ W, Below w4.heap.size w4 W → Calls Tryz.prog 11 #[.agg #[.slice bs ns cs, .slice bh nh ch, .slice bu nu cu, .int .i64 m]] W fun e w' => e = .returned (.int .i64 K) ∧ Below w4.heap.size w4 w') := fun W hW => (CRC.out W (HBw4.out.trans (hW.mono HBw4.out.size))).mono fun e w' ⟨he, hb⟩ => ⟨he, hW.trans (hb.mono hW.size)⟩
    have C3 : Hid (∀ W, Below w4.heap.size w4 W → Calls Tryz.prog 7 #[] W fun e w' => e = .returned (.bool true) ∧ Below w4.heap.size w4 w') := fun W hW => (CV.out W (HBw4.out.trans (hW.mono HBw4.out.size))).mono fun e w' ⟨he, hb⟩ => ⟨he, hW.trans (hb.mono hW.size)⟩
    obtain ⟨f0, f1, f2, f3⟩ := HF.out w4 HB4.out
    have hsz : w.heap.size < w4.heap.size := Nat.lt_of_lt_of_le HLT.out HB4.out.size
    have z0 := cls_cell (n := w4.heap.size) f0 (by simp only; omega)
    have z1 := cls_cell (n := w4.heap.size) f1 (by simp only; omega)
    have z2 := cls_cell (n := w4.heap.size) f2 (by simp only; omega)
    have z3 := cls_cell (n := w4.heap.size) f3 (by simp only; omega)
    clear hb4 hret2 hr1 hr2 hll HR1 f0 f1 f2 f3 hsz
    go_upto_region 5 with fail
    refine wp_region_cls (n := w4.heap.size) (w0 := w4) (Below.refl _ _) (by kernel_rfl) (by kernel_rfl) ?_
    iterate 1 (go_big_quiet_step (fail))
    go_big_quiet_step (exact cls_calls C1.out _)
    iterate 1 (go_big_quiet_step (fail))
    go_big_quiet_step (exact cls_calls C2.out _)
    iterate 4 (go_big_quiet_step (fail))
    go_big_quiet_step (exact cls_calls CS.out _)
    iterate 7 (go_big_quiet_step (fail))
    go_big_quiet_step (exact cls_calls C3.out _)
    iterate 2 (go_big_quiet_step (fail))
    refine wpQuiet_nil ?_
    rintro _ ⟨cc, rfl⟩
    obtain ⟨w5, hb5⟩ := cc
    dsimp only
    have HBw5 : Hid (Below w.heap.size w w5) := HBw4.out.trans (hb5.mono HBw4.out.size)
    clear hb5 z0 z1 z2 z3
    go_wp2
    go_ret
    exact ⟨rfl, HBw5.out⟩
end Go.Proofs.YtechkkphbajmoaaGreatDoor
