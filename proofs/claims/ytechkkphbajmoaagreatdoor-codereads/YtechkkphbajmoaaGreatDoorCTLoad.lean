/- code: the document's own reading of a code. -/
import Derived.Test.YtechkkphbajmoaaGreatDoorMT
import Derived.Test.YtechkkphbajmoaaGreatDoorCRfRight
import Derived.Test.YtechkkphbajmoaaGreatDoorMK
namespace Go.Proofs.YtechkkphbajmoaaGreatDoor
open Go.RowKit Go.Shelf

theorem okcd_ints {c : Cd} (h : okCdx c) : IntsC c :=
  ⟨h.2.2.2, fun u hu => ⟨(h.2.2.1.1 u hu).2.1, (h.2.2.1.1 u hu).2.2.1, (h.2.2.1.1 u hu).2.2.2.1⟩, fun u hu y hy => (h.2.2.1.1 u hu).2.2.2.2.2.1.1 y hy, fun u hu y hy => ((h.2.2.1.1 u hu).2.2.2.2.2.2.1 y hy).2⟩
theorem okcd_few {c : Cd} (h : okCdx c) : ∀ u ∈ c.units, u.ins.length ≤ 1048576 ∧ u.vars.length ≤ 1048576 := fun u hu => ⟨(h.2.2.1.1 u hu).2.2.2.2.2.1.2, (h.2.2.1.1 u hu).2.2.2.2.2.2.2⟩
theorem shE_wide {S S' : Nat → Prop} {w : World} (hS : ∀ q, q < w.heap.size → S q → S' q) : ∀ b o x, shE S w b o x → shE S' w b o x := fun _ _ _ ⟨a, u, c, d⟩ => ⟨a, u, c, rowIn.wide d hS fun _ _ _ h => h⟩
theorem unE_wide {S S' : Nat → Prop} {w : World} (hS : ∀ q, q < w.heap.size → S q → S' q) : ∀ b o x, unE S w b o x → unE S' w b o x := fun _ _ _ ⟨a, b, c, d, e, ⟨u, f, g⟩, y, h, i⟩ => ⟨a, b, c, d, e, ⟨u, f, rowIn.wide g hS fun _ _ _ h => h⟩, y, h, rowIn.wide i hS fun _ _ _ h => h⟩
theorem grown_to_below {w W : World} {p : Nat} (h : w.grownBy W (some p)) (hp : w.heap.size ≤ p) : Below w.heap.size w W := ⟨h.os, h.tape, h.output, h.size, fun k hk => h.block k hk (by simp; omega)⟩

set_option maxRecDepth 100000 in
set_option maxHeartbeats 16000000 in
theorem rfLoad (bs : List UInt8) (w : World) (hfew : bs.length ≤ 1048576) :
    Calls Tryz.prog 19 #[.string (strB bs)] w fun e w' => LoadRet w.heap.size bs e w' ∧ Below w.heap.size w w' := by
  obtain ⟨wP, hwP, hbP, HZP, hRb, hPb⟩ := box2 w (.cells #[.slice none 0 0, .slice none 0 0, .slice none 0 0, .int .i64 0] 26) (.cells #[.string (strB bs), .int .i64 0, .int .i64 0] 101)
  have HWP : Hid (wP = (w.alloc (.cells #[.slice none 0 0, .slice none 0 0, .slice none 0 0, .int .i64 0] 26)).alloc (.cells #[.string (strB bs), .int .i64 0, .int .i64 0] 101)) := hwP
  have HRB : Hid (wP.heap[w.heap.size]? = some (.cells #[.slice none 0 0, .slice none 0 0, .slice none 0 0, .int .i64 0] 26 (0, 0))) := hRb
  obtain ⟨p, hp⟩ : ∃ p, p = w.heap.size + 1 := ⟨_, rfl⟩
  have HP : Hid (p = w.heap.size + 1) := hp
  have hTP : TkAt wP p bs 0 0 := ⟨by rw [hp]; exact hPb, Nat.zero_le _, hfew⟩
  have HGP : Hid (w.grownBy wP (some p)) := tkg_below p hbP
  have HPS : Hid (wP.heap.size = p + 1) := by rw [hp]; exact HZP.out
  obtain ⟨x0, a1, r1, hx0⟩ : ∃ x ya yr, rAll bs (rT bs) 0 0 = (x, ya, yr) := ⟨_, _, _, rfl⟩
  obtain ⟨x1, a2, r2, hx1⟩ : ∃ x ya yr, rAll bs (rSh bs) a1 r1 = (x, ya, yr) := ⟨_, _, _, rfl⟩
  obtain ⟨x2, a3, r3, hx2⟩ : ∃ x ya yr, rAll bs (rUn bs) a2 r2 = (x, ya, yr) := ⟨_, _, _, rfl⟩
  obtain ⟨x3, a4, r4, hx3⟩ : ∃ x ya yr, rI bs a3 r3 = (x, ya, yr) := ⟨_, _, _, rfl⟩
  have HRES : Hid (rCode bs = ((⟨x0, x1, x2, x3⟩ : Cd), a4, r4)) := by
    show _ = _
    simp only [rCode, hx0, hx1, hx2, hx3]
  obtain ⟨nI, aI, rI', hcI⟩ : ∃ x ya yr, rC bs a1 r1 = (x, ya, yr) := ⟨_, _, _, rfl⟩
  obtain ⟨nV, aV, rV', hcV⟩ : ∃ x ya yr, rC bs a2 r2 = (x, ya, yr) := ⟨_, _, _, rfl⟩
  have hbI := rC_bound bs a1 r1
  have hbV := rC_bound bs a2 r2
  rw [hcI] at hbI
  rw [hcV] at hbV
  simp only at hbI hbV
  obtain ⟨nI, rfl⟩ : ∃ n : Nat, nI = n := ⟨nI.toNat, by omega⟩
  obtain ⟨nV, rfl⟩ : ∃ n : Nat, nV = n := ⟨nV.toNat, by omega⟩
  have HX1 : Hid (loopR (rSh bs) nI aI rI' = (x1, a2, r2)) := by
    have h9 := hx1
    unfold rAll at h9
    rw [hcI] at h9
    show _ = _
    simpa using h9
  have HX2 : Hid (loopR (rUn bs) nV aV rV' = (x2, a3, r3)) := by
    have h9 := hx2
    unfold rAll at h9
    rw [hcV] at h9
    show _ = _
    simpa using h9
  have HX3' : Hid (rI bs a3 r3 = (x3, a4, r4)) := hx3
  have HCI : Hid (rC bs a1 r1 = ((nI : Int), aI, rI')) := hcI
  have HCV : Hid (rC bs a2 r2 = ((nV : Int), aV, rV')) := hcV
  have hnI : (nI : Int) ≤ 1048576 := hbI.2
  have hnV : (nV : Int) ≤ 1048576 := hbV.2
  have HNI : Hid (nI ≤ 1048576 ∧ nV ≤ 1048576) := ⟨by omega, by omega⟩
  obtain ⟨iI, hinfI, hzI0, hzI1, hzI2⟩ := info_parts info_shT
  obtain ⟨iV, hinfV, hzV0, hzV1, hzV2⟩ := info_parts info_unT
  have c := tkTexts p bs 0 0 wP hTP
  have HX0 : Hid (rAll bs (rT bs) 0 0 = (x0, a1, r1)) := hx0
  clear hwP hbP HZP hRb hPb hTP hp hx0 hx1 hx2 hx3 hcI hcV hbI hbV hfew
  go_enter Tryz.func19, Tryz.ntmps19
  go_wp2_with fail
  rw [← HWP.out, ← HP.out]
  refine c.mono ?_
  clear c
  rintro e V0 ⟨b0, n0, c0, rfl, hin0, hT0, hG0⟩
  rw [HX0.out] at hin0 hT0
  simp only at hin0 hT0
  have HIN0 : Hid (strsIn (fun q => wP.heap.size ≤ q) V0 (.slice b0 n0 c0) x0) := hin0
  obtain ⟨W1, hW1, hb1, HZ1, hU1⟩ := box1 V0 (.cells #[.slice b0 n0 c0, .slice none 0 0, .slice none 0 0, .int .i64 0] 26)
  have HW1 : Hid (W1 = V0.alloc (.cells #[.slice b0 n0 c0, .slice none 0 0, .slice none 0 0, .int .i64 0] 26)) := hW1
  have HRV : Hid (p < V0.heap.size ∧ wP.heap.size ≤ V0.heap.size) := ⟨heap_lt hT0.blk, hG0.size⟩
  have B1 : Hid (UBx w W1 p bs a1 r1 V0.heap.size 26 #[.slice none 0 0, .slice none 0 0, .slice none 0 0, .int .i64 0] #[.slice b0 n0 c0, .slice none 0 0, .slice none 0 0, .int .i64 0]) := by
    have hp := HP.out
    have hr := HRV.out
    refine ⟨hT0.kept (hb1.block p (heap_lt hT0.blk)), hU1, ?_, tkg_trans HGP.out (tkg_trans hG0 (tkg_below p hb1)), by omega, heap_lt hT0.blk, by omega⟩
    rw [hb1.block _ (by omega), hG0.block _ (heap_lt HRB.out) (by simp; omega)]
    exact HRB.out
  have HK1 : Hid (∀ q, q < V0.heap.size → W1.heap[q]? = V0.heap[q]?) := fun q hq => hb1.block q hq
  clear hT0 hG0 hin0 hW1 hb1 HZ1 hU1
  have c := tkCount p bs a1 r1 W1 B1.out.rd
  rw [HCI.out] at c
  simp only at c
  go_wp2_with fail
  rw [← HW1.out]
  refine c.mono ?_
  clear c
  rintro e V5 ⟨rfl, hr1, hg1⟩
  have B6 : Hid (UBx w V5 p bs aI rI' V0.heap.size 26 #[.slice none 0 0, .slice none 0 0, .slice none 0 0, .int .i64 0] #[.slice b0 n0 c0, .slice none 0 0, .slice none 0 0, .int .i64 0]) := B1.out.call hr1 hg1
  have HUN : Hid (V0.heap.size < V5.heap.size) := heap_lt B6.out.X
  have HS5 : Hid (strsIn (fun q => wP.heap.size ≤ q ∧ q < V0.heap.size) V5 (.slice b0 n0 c0) x0) := by
    have i1 := rowIn.wide (S' := fun q => wP.heap.size ≤ q ∧ q < V0.heap.size) HIN0.out (fun q hq hS => ⟨hS, hq⟩) fun _ _ _ h => h
    have i2 := rowIn.kept (w' := W1) i1 (strE_keeps _) (by rw [HW1.out]; simp) fun q hq _ => HK1.out q hq.2
    exact rowIn.kept i2 (strE_keeps _) hg1.size fun q hq hlt => hg1.block q hlt (by have := HPS.out; have := hq.1; simp; omega)
  clear hr1 hg1 HIN0 HK1
  go_wp2
  go_loopw [7] (fun vi wr => ∃ (i : Nat) (l : List Sh) (css : List (List Value)) (a' r' : Nat) (b n c : _), vi = .int .i64 (i : Int) ∧ LoopX (rSh bs) nI aI rI' i l a' r' ∧ UBx w wr p bs a' r' V0.heap.size 26 #[.slice none 0 0, .slice none 0 0, .slice none 0 0, .int .i64 0] #[.slice b0 n0 c0, .slice b n c, .slice none 0 0, .int .i64 0] ∧ RowX coSh 2 V5.heap.size 77 (.slice b n c) wr l css ∧ Hid (∀ q, wP.heap.size ≤ q → q < V5.heap.size → q ≠ V0.heap.size → wr.heap[q]? = V5.heap[q]?)) (fun vi _ => nI - (intOf vi).toNat)
  case atStart => exact ⟨0, [], [], aI, rI', none, 0, 0, rfl, LoopX.start _ _ _ _, B6.out, RowX.start (Nat.le_refl _), fun q _ _ _ => rfl⟩
  case round =>
    obtain ⟨i, l, css, a', r', b5, n5, c5, rfl, hL, hB, hX, HMID⟩ := hrel
    have HL : Hid (LoopX (rSh bs) nI aI rI' i l a' r') := hL
    have HB : Hid (UBx w wr p bs a' r' V0.heap.size 26 #[.slice none 0 0, .slice none 0 0, .slice none 0 0, .int .i64 0] #[.slice b0 n0 c0, .slice b5 n5 c5, .slice none 0 0, .int .i64 0]) := hB
    have HX : Hid (RowX coSh 2 V5.heap.size 77 (.slice b5 n5 c5) wr l css) := hX
    have hle := hL.le
    have hfew := hL.few
    by_cases hgo : i < nI ∧ r' = 0
    · obtain ⟨hi, rfl⟩ := hgo
      have hi2 : (i : Int) < nI := by omega
      have cw := tkWell p bs a' 0 wr hB.rd
      rw [decide_eq_true rfl] at cw
      have c1 := tkText p bs a' 0 wr hB.rd
      have HNX := hL.next hi
      obtain ⟨y0, e1, s1, hy0⟩ : ∃ x ya yr, rT bs a' 0 = (x, ya, yr) := ⟨_, _, _, rfl⟩
      obtain ⟨y1, e2, s2, hy1⟩ : ∃ x ya yr, rAll bs (rT bs) e1 s1 = (x, ya, yr) := ⟨_, _, _, rfl⟩
      have HY1 : Hid (rAll bs (rT bs) e1 s1 = (y1, e2, s2)) := hy1
      have hri : rSh bs a' 0 = (⟨y0, y1⟩, e2, s2) := by simp only [rSh, hy0, hy1]
      rw [hri] at HNX
      rw [hy0] at c1
      simp only at c1 HNX
      have HNXT : Hid (LoopX (rSh bs) nI aI rI' (i + 1) (l ++ [⟨y0, y1⟩]) e2 s2) := HNX
      have HFW : Hid (l.length ≤ 1048576) := by have := HNI.out; show _ ≤ _; omega
      have HLOW : Hid (V5.heap.size ≤ wr.heap.size) := hX.low
      clear hL hB hX hle hfew HNX hy0 hy1 hri
      go_wp2_with fail
      refine cw.mono ?_
      clear cw
      rintro e w2 ⟨rfl, rfl⟩
      go_wp2_with fail
      refine c1.mono ?_
      clear c1
      rintro e w3 ⟨rfl, hT3, hG3⟩
      have HB3 : Hid (UBx w w3 p bs e1 s1 V0.heap.size 26 #[.slice none 0 0, .slice none 0 0, .slice none 0 0, .int .i64 0] #[.slice b0 n0 c0, .slice b5 n5 c5, .slice none 0 0, .int .i64 0]) := HB.out.call hT3 hG3
      have HX3 : Hid (RowX coSh 2 V5.heap.size 77 (.slice b5 n5 c5) w3 l css) := HX.out.keep lawSh hG3.size fun q hq hlt => hG3.block q hlt (by have := HRV.out; have := HUN.out; simp; omega)
      have HM3 : Hid (∀ q, wP.heap.size ≤ q → q < V5.heap.size → q ≠ V0.heap.size → w3.heap[q]? = V5.heap[q]?) := fun q h1 h2 h3 => (hG3.block q (by have := HLOW.out; omega) (by have := HPS.out; simp; omega)).trans (HMID.out q h1 h2 h3)
      have HW3 : Hid (wr.heap.size ≤ w3.heap.size) := hG3.size
      clear hT3 hG3
      haveI hne : Nonempty (ClsP (fun _ => True)) := ⟨⟨w3, trivial⟩⟩
      have HTd : Hid (TkAt w3.drew p bs e1 s1) := HB3.out.rd.kept rfl
      have q5 : w3.drew.cell? ⟨V0.heap.size, 1, none⟩ = some (.slice b5 n5 c5) := (bcells4 HB3.out.X).2.1
      have HC2 := tkTexts p bs e1 s1 w3.drew HTd.out
      go_upto_region 8 with fail
      refine mix_begin (n := 10) (S := fun w' => ∃ c' : ClsP (fun _ => True), w' = c'.1) (by kernel_rfl) rfl rfl ?_
      refine mix_seg (fuel := 7) (fuel' := 10) (idx := [0, 2, 3]) (by decide +kernel) rfl rfl rfl (fun _ _ _ _ _ h => h) ⟨⟨w3.drew, trivial⟩, rfl⟩ ?_
      show wpQuiet _ _ _ _ [_, _, _] _
      iterate 3 (go_big_quiet_step (fail))
      refine wpQuiet_nil ?_
      refine cmix_two (fuel := 6) (fuel' := 7) (i := 1) (k := 4) rfl rfl (by decide +kernel) rfl rfl rfl (by rfl) (by rfl) ?_ ?_
      · intro K hK
        go_simp
        refine hK.out _ _ ⟨⟨w3.drew, trivial⟩, rfl⟩ ?_
        clear hK K
        refine mix_loud (fuel := 5) (fuel' := 6) (i := 4) rfl (by decide +kernel) rfl rfl (by rfl) ?_
        intro K hK
        go_simp
        refine HC2.mono ?_
        rintro e z1 ⟨bf, nf, cf, rfl, hin4, hT4, hG4⟩
        rw [HY1.out] at hin4 hT4
        simp only at hin4 hT4
        have hG4' : w3.grownBy z1 (some p) := ⟨hG4.os, hG4.tape, hG4.output, hG4.size, hG4.block⟩
        have HBz : Hid (UBx w z1 p bs e2 s2 V0.heap.size 26 #[.slice none 0 0, .slice none 0 0, .slice none 0 0, .int .i64 0] #[.slice b0 n0 c0, .slice b5 n5 c5, .slice none 0 0, .int .i64 0]) := HB3.out.call hT4 hG4'
        have HXz : Hid (RowX coSh 2 V5.heap.size 77 (.slice b5 n5 c5) z1 l css) := HX3.out.keep lawSh hG4'.size fun q hq hlt => hG4'.block q hlt (by have := HRV.out; have := HUN.out; simp; omega)
        have HMz : Hid (∀ q, wP.heap.size ≤ q → q < V5.heap.size → q ≠ V0.heap.size → z1.heap[q]? = V5.heap[q]?) := fun q h1 h2 h3 => (hG4'.block q (by have := HLOW.out; have := HW3.out; omega) (by have := HPS.out; simp; omega)).trans (HM3.out q h1 h2 h3)
        have HCO : Hid (coSh (fun b => w3.heap.size ≤ b) z1 ⟨y0, y1⟩ [.string (strB y0), .slice bf nf cf]) := ⟨bf, nf, cf, rfl, hin4⟩
        have HG4 : Hid (w3.grownBy z1 (some p)) := hG4'
        clear hT4 hG4 hG4' hin4
        (try go_simp)
        refine hK.out _ _ ⟨⟨z1, trivial⟩, rfl⟩ ?_
        clear hK K
        refine mix_seg (fuel := 4) (fuel' := 5) (idx := [5]) (by decide +kernel) rfl rfl rfl (fun _ _ _ _ _ h => h) ⟨⟨z1, trivial⟩, rfl⟩ ?_
        show wpQuiet _ _ _ _ [_] _
        iterate 1 (go_big_quiet_step (fail))
        refine wpQuiet_nil ?_
        refine mix_loud (fuel := 3) (fuel' := 4) (i := 6) rfl (by decide +kernel) rfl rfl (by rfl) ?_
        intro K hK
        go_simp
        refine hK.out _ _ ⟨⟨_, trivial⟩, rfl⟩ ?_
        clear hK K
        refine mix_law (fuel := 2) (fuel' := 3) (i := 7) rfl (by decide +kernel) rfl rfl (by rfl) ?_
        intro K hK
        refine cstep_append_at (.tmp 32) (.tmp 37) 23 rfl (by rfl) V5.heap.size 77 iI (.agg #[.string ⟨#[]⟩, .slice none 0 0]) 2 40 Tryz.underlying23 hinfI hzI0 hzI1 hzI2 rfl (by decide) _ _ _ rfl (HXz.out.row.alloc _) ⟨z1.heap.size, 0, none⟩ 1 1 [.string (strB y0), .slice bf nf cf] rfl rfl (rcells_new _ _ _) (by simp [Value.oneCell']) (by have := HFW.out; unfold maxLen; omega) (by have := HFW.out; omega) (by have := HXz.out.low; simp; omega) ?_
        intro v' z3 hown9 hgrow9 hloc9
        have hlk := HXz.out.lowkept (w1 := z1) rfl (Nat.le_refl _) hgrow9
        have HX9 : Hid (RowX coSh 2 V5.heap.size 77 v' z3 (l ++ [⟨y0, y1⟩]) (css ++ [[.string (strB y0), .slice bf nf cf]])) := HX3.out.snoc lawSh (w1 := z1) HG4.out.size (fun q hq hlt => HG4.out.block q hlt (by have := HRV.out; have := HUN.out; simp; omega)) HCO.out rfl hown9 hgrow9 hloc9
        have HB9 : Hid (UBx w z3 p bs e2 s2 V0.heap.size 26 #[.slice none 0 0, .slice none 0 0, .slice none 0 0, .int .i64 0] #[.slice b0 n0 c0, .slice b5 n5 c5, .slice none 0 0, .int .i64 0]) := HBz.out.low HUN.out hlk hgrow9.os hgrow9.tape hgrow9.output (by have := hgrow9.size; simp at this; omega)
        have HM9 : Hid (∀ q, wP.heap.size ≤ q → q < V5.heap.size → q ≠ V0.heap.size → z3.heap[q]? = V5.heap[q]?) := fun q h1 h2 h3 => (hlk q h2).trans (HMz.out q h1 h2 h3)
        obtain ⟨b9, n9, c9, rfl⟩ : ∃ b n c, v' = .slice b n c := by
          rcases HX9.out.row.2 with ⟨e, -⟩ | ⟨g, cp, cur, e, -⟩
          · exact ⟨_, _, _, e⟩
          · exact ⟨_, _, _, e⟩
        clear hown9 hgrow9 hloc9 hlk
        refine hK.out _ _ ⟨⟨z3, trivial⟩, rfl⟩ ?_
        clear hK K
        simp only [Act.put, List.setIfInBounds_toArray, List.set_cons_zero, List.set_cons_succ]
        refine mix_seg (fuel := 1) (fuel' := 2) (idx := [8]) (by decide +kernel) rfl rfl rfl (fun _ _ _ _ _ h => h) ⟨⟨z3, trivial⟩, rfl⟩ ?_
        show wpQuiet _ _ _ _ [_] _
        iterate 1 (go_big_quiet_step (fail))
        refine wpQuiet_nil ?_
        have q7 : z3.cell? ⟨V0.heap.size, 1, none⟩ = some (.slice b5 n5 c5) := (bcells4 HB9.out.X).2.1
        have fz7 := cfrozen HB9.out.X 1
        refine mix_loud (fuel := 0) (fuel' := 1) (i := 9) rfl (by decide +kernel) rfl rfl (by rfl) ?_
        intro K hK
        go_simp
        refine hK.out _ _ ⟨⟨_, trivial⟩, rfl⟩ ?_
        clear hK K q7 fz7
        refine mix_done (by kernel_rfl) ?_
        have HB10 : Hid (UBx w (z3.setCell ⟨V0.heap.size, 1, none⟩ (.slice b9 n9 c9)) p bs e2 s2 V0.heap.size 26 #[.slice none 0 0, .slice none 0 0, .slice none 0 0, .int .i64 0] #[.slice b0 n0 c0, .slice b9 n9 c9, .slice none 0 0, .int .i64 0]) := HB9.out.store 1 _
        have HX10 : Hid (RowX coSh 2 V5.heap.size 77 (.slice b9 n9 c9) (z3.setCell ⟨V0.heap.size, 1, none⟩ (.slice b9 n9 c9)) (l ++ [⟨y0, y1⟩]) (css ++ [[.string (strB y0), .slice bf nf cf]])) := HX9.out.keep lawSh (by simp) fun q hq _ => heap_setCell_other _ _ _ _ (by have := HUN.out; simp; omega)
        have HM10 : Hid (∀ q, wP.heap.size ≤ q → q < V5.heap.size → q ≠ V0.heap.size → (z3.setCell ⟨V0.heap.size, 1, none⟩ (.slice b9 n9 c9)).heap[q]? = V5.heap[q]?) := fun q h1 h2 h3 => (heap_setCell_other _ _ _ _ (by simp; omega)).trans (HM9.out q h1 h2 h3)
        go_wp2
        exact ⟨⟨i + 1, _, _, e2, s2, b9, n9, c9, by go_num, HNXT.out, HB10.out, HX10.out, HM10⟩, by simp [intOf]; omega⟩
      · intro K hK
        go_simp
        refine HC2.mono ?_
        rintro e z1 ⟨bf, nf, cf, rfl, hin4, hT4, hG4⟩
        rw [HY1.out] at hin4 hT4
        simp only at hin4 hT4
        have hG4' : w3.grownBy z1 (some p) := ⟨hG4.os, hG4.tape, hG4.output, hG4.size, hG4.block⟩
        have HBz : Hid (UBx w z1 p bs e2 s2 V0.heap.size 26 #[.slice none 0 0, .slice none 0 0, .slice none 0 0, .int .i64 0] #[.slice b0 n0 c0, .slice b5 n5 c5, .slice none 0 0, .int .i64 0]) := HB3.out.call hT4 hG4'
        have HXz : Hid (RowX coSh 2 V5.heap.size 77 (.slice b5 n5 c5) z1 l css) := HX3.out.keep lawSh hG4'.size fun q hq hlt => hG4'.block q hlt (by have := HRV.out; have := HUN.out; simp; omega)
        have HMz : Hid (∀ q, wP.heap.size ≤ q → q < V5.heap.size → q ≠ V0.heap.size → z1.heap[q]? = V5.heap[q]?) := fun q h1 h2 h3 => (hG4'.block q (by have := HLOW.out; have := HW3.out; omega) (by have := HPS.out; simp; omega)).trans (HM3.out q h1 h2 h3)
        have HCO : Hid (coSh (fun b => w3.heap.size ≤ b) z1 ⟨y0, y1⟩ [.string (strB y0), .slice bf nf cf]) := ⟨bf, nf, cf, rfl, hin4⟩
        have HG4 : Hid (w3.grownBy z1 (some p)) := hG4'
        clear hT4 hG4 hG4' hin4
        (try go_simp)
        refine hK.out _ _ ⟨⟨z1, trivial⟩, rfl⟩ ?_
        clear hK K
        have q6 : z1.cell? ⟨V0.heap.size, 1, none⟩ = some (.slice b5 n5 c5) := (bcells4 HBz.out.X).2.1
        have hul6 : V0.heap.size < z1.heap.size := heap_lt HBz.out.X
        refine mix_seg (fuel := 5) (fuel' := 6) (idx := [5]) (by decide +kernel) rfl rfl rfl (fun _ _ _ _ _ h => h) ⟨⟨z1, trivial⟩, rfl⟩ ?_
        show wpQuiet _ _ _ _ [_] _
        iterate 1 (go_big_quiet_step (fail))
        refine wpQuiet_nil ?_
        refine cmix_two (fuel := 4) (fuel' := 5) (i := 1) (k := 6) rfl rfl (by decide +kernel) rfl rfl rfl (by rfl) (by rfl) ?_ ?_
        · intro K hK
          go_simp
          refine hK.out _ _ ⟨⟨z1, trivial⟩, rfl⟩ ?_
          clear hK K q6 hul6
          refine mix_loud (fuel := 3) (fuel' := 4) (i := 6) rfl (by decide +kernel) rfl rfl (by rfl) ?_
          intro K hK
          go_simp
          refine hK.out _ _ ⟨⟨_, trivial⟩, rfl⟩ ?_
          clear hK K
          refine mix_law (fuel := 2) (fuel' := 3) (i := 7) rfl (by decide +kernel) rfl rfl (by rfl) ?_
          intro K hK
          refine cstep_append_at (.tmp 32) (.tmp 37) 23 rfl (by rfl) V5.heap.size 77 iI (.agg #[.string ⟨#[]⟩, .slice none 0 0]) 2 40 Tryz.underlying23 hinfI hzI0 hzI1 hzI2 rfl (by decide) _ _ _ rfl (HXz.out.row.alloc _) ⟨z1.heap.size, 0, none⟩ 1 1 [.string (strB y0), .slice bf nf cf] rfl rfl (rcells_new _ _ _) (by simp [Value.oneCell']) (by have := HFW.out; unfold maxLen; omega) (by have := HFW.out; omega) (by have := HXz.out.low; simp; omega) ?_
          intro v' z3 hown9 hgrow9 hloc9
          have hlk := HXz.out.lowkept (w1 := z1) rfl (Nat.le_refl _) hgrow9
          have HX9 : Hid (RowX coSh 2 V5.heap.size 77 v' z3 (l ++ [⟨y0, y1⟩]) (css ++ [[.string (strB y0), .slice bf nf cf]])) := HX3.out.snoc lawSh (w1 := z1) HG4.out.size (fun q hq hlt => HG4.out.block q hlt (by have := HRV.out; have := HUN.out; simp; omega)) HCO.out rfl hown9 hgrow9 hloc9
          have HB9 : Hid (UBx w z3 p bs e2 s2 V0.heap.size 26 #[.slice none 0 0, .slice none 0 0, .slice none 0 0, .int .i64 0] #[.slice b0 n0 c0, .slice b5 n5 c5, .slice none 0 0, .int .i64 0]) := HBz.out.low HUN.out hlk hgrow9.os hgrow9.tape hgrow9.output (by have := hgrow9.size; simp at this; omega)
          have HM9 : Hid (∀ q, wP.heap.size ≤ q → q < V5.heap.size → q ≠ V0.heap.size → z3.heap[q]? = V5.heap[q]?) := fun q h1 h2 h3 => (hlk q h2).trans (HMz.out q h1 h2 h3)
          obtain ⟨b9, n9, c9, rfl⟩ : ∃ b n c, v' = .slice b n c := by
            rcases HX9.out.row.2 with ⟨e, -⟩ | ⟨g, cp, cur, e, -⟩
            · exact ⟨_, _, _, e⟩
            · exact ⟨_, _, _, e⟩
          clear hown9 hgrow9 hloc9 hlk
          refine hK.out _ _ ⟨⟨z3, trivial⟩, rfl⟩ ?_
          clear hK K
          simp only [Act.put, List.setIfInBounds_toArray, List.set_cons_zero, List.set_cons_succ]
          refine mix_seg (fuel := 1) (fuel' := 2) (idx := [8]) (by decide +kernel) rfl rfl rfl (fun _ _ _ _ _ h => h) ⟨⟨z3, trivial⟩, rfl⟩ ?_
          show wpQuiet _ _ _ _ [_] _
          iterate 1 (go_big_quiet_step (fail))
          refine wpQuiet_nil ?_
          have q7 : z3.cell? ⟨V0.heap.size, 1, none⟩ = some (.slice b5 n5 c5) := (bcells4 HB9.out.X).2.1
          have fz7 := cfrozen HB9.out.X 1
          refine mix_loud (fuel := 0) (fuel' := 1) (i := 9) rfl (by decide +kernel) rfl rfl (by rfl) ?_
          intro K hK
          go_simp
          refine hK.out _ _ ⟨⟨_, trivial⟩, rfl⟩ ?_
          clear hK K q7 fz7
          refine mix_done (by kernel_rfl) ?_
          have HB10 : Hid (UBx w (z3.setCell ⟨V0.heap.size, 1, none⟩ (.slice b9 n9 c9)) p bs e2 s2 V0.heap.size 26 #[.slice none 0 0, .slice none 0 0, .slice none 0 0, .int .i64 0] #[.slice b0 n0 c0, .slice b9 n9 c9, .slice none 0 0, .int .i64 0]) := HB9.out.store 1 _
          have HX10 : Hid (RowX coSh 2 V5.heap.size 77 (.slice b9 n9 c9) (z3.setCell ⟨V0.heap.size, 1, none⟩ (.slice b9 n9 c9)) (l ++ [⟨y0, y1⟩]) (css ++ [[.string (strB y0), .slice bf nf cf]])) := HX9.out.keep lawSh (by simp) fun q hq _ => heap_setCell_other _ _ _ _ (by have := HUN.out; simp; omega)
          have HM10 : Hid (∀ q, wP.heap.size ≤ q → q < V5.heap.size → q ≠ V0.heap.size → (z3.setCell ⟨V0.heap.size, 1, none⟩ (.slice b9 n9 c9)).heap[q]? = V5.heap[q]?) := fun q h1 h2 h3 => (heap_setCell_other _ _ _ _ (by simp; omega)).trans (HM9.out q h1 h2 h3)
          go_wp2
          exact ⟨⟨i + 1, _, _, e2, s2, b9, n9, c9, by go_num, HNXT.out, HB10.out, HX10.out, HM10⟩, by simp [intOf]; omega⟩
        · intro K hK
          go_simp
          refine hK.out _ _ ⟨⟨_, trivial⟩, rfl⟩ ?_
          clear hK K
          refine mix_loud (fuel := 3) (fuel' := 4) (i := 1) rfl (by decide +kernel) rfl rfl (by rfl) ?_
          intro K hK
          go_simp
          refine hK.out _ _ ⟨⟨_, trivial⟩, rfl⟩ ?_
          clear hK K
          clear q6 hul6
          refine mix_law (fuel := 2) (fuel' := 3) (i := 7) rfl (by decide +kernel) rfl rfl (by rfl) ?_
          intro K hK
          refine cstep_append_at (.tmp 32) (.tmp 37) 23 rfl (by rfl) V5.heap.size 77 iI (.agg #[.string ⟨#[]⟩, .slice none 0 0]) 2 40 Tryz.underlying23 hinfI hzI0 hzI1 hzI2 rfl (by decide) _ _ _ rfl (HXz.out.row.alloc _) ⟨z1.heap.size, 0, none⟩ 1 1 [.string (strB y0), .slice bf nf cf] rfl rfl (rcells_new _ _ _) (by simp [Value.oneCell']) (by have := HFW.out; unfold maxLen; omega) (by have := HFW.out; omega) (by have := HXz.out.low; simp; omega) ?_
          intro v' z3 hown9 hgrow9 hloc9
          have hlk := HXz.out.lowkept (w1 := z1) rfl (Nat.le_refl _) hgrow9
          have HX9 : Hid (RowX coSh 2 V5.heap.size 77 v' z3 (l ++ [⟨y0, y1⟩]) (css ++ [[.string (strB y0), .slice bf nf cf]])) := HX3.out.snoc lawSh (w1 := z1) HG4.out.size (fun q hq hlt => HG4.out.block q hlt (by have := HRV.out; have := HUN.out; simp; omega)) HCO.out rfl hown9 hgrow9 hloc9
          have HB9 : Hid (UBx w z3 p bs e2 s2 V0.heap.size 26 #[.slice none 0 0, .slice none 0 0, .slice none 0 0, .int .i64 0] #[.slice b0 n0 c0, .slice b5 n5 c5, .slice none 0 0, .int .i64 0]) := HBz.out.low HUN.out hlk hgrow9.os hgrow9.tape hgrow9.output (by have := hgrow9.size; simp at this; omega)
          have HM9 : Hid (∀ q, wP.heap.size ≤ q → q < V5.heap.size → q ≠ V0.heap.size → z3.heap[q]? = V5.heap[q]?) := fun q h1 h2 h3 => (hlk q h2).trans (HMz.out q h1 h2 h3)
          obtain ⟨b9, n9, c9, rfl⟩ : ∃ b n c, v' = .slice b n c := by
            rcases HX9.out.row.2 with ⟨e, -⟩ | ⟨g, cp, cur, e, -⟩
            · exact ⟨_, _, _, e⟩
            · exact ⟨_, _, _, e⟩
          clear hown9 hgrow9 hloc9 hlk
          refine hK.out _ _ ⟨⟨z3, trivial⟩, rfl⟩ ?_
          clear hK K
          simp only [Act.put, List.setIfInBounds_toArray, List.set_cons_zero, List.set_cons_succ]
          refine mix_seg (fuel := 1) (fuel' := 2) (idx := [8]) (by decide +kernel) rfl rfl rfl (fun _ _ _ _ _ h => h) ⟨⟨z3, trivial⟩, rfl⟩ ?_
          show wpQuiet _ _ _ _ [_] _
          iterate 1 (go_big_quiet_step (fail))
          refine wpQuiet_nil ?_
          have q7 : z3.cell? ⟨V0.heap.size, 1, none⟩ = some (.slice b5 n5 c5) := (bcells4 HB9.out.X).2.1
          have fz7 := cfrozen HB9.out.X 1
          refine mix_loud (fuel := 0) (fuel' := 1) (i := 9) rfl (by decide +kernel) rfl rfl (by rfl) ?_
          intro K hK
          go_simp
          refine hK.out _ _ ⟨⟨_, trivial⟩, rfl⟩ ?_
          clear hK K q7 fz7
          refine mix_done (by kernel_rfl) ?_
          have HB10 : Hid (UBx w (z3.setCell ⟨V0.heap.size, 1, none⟩ (.slice b9 n9 c9)) p bs e2 s2 V0.heap.size 26 #[.slice none 0 0, .slice none 0 0, .slice none 0 0, .int .i64 0] #[.slice b0 n0 c0, .slice b9 n9 c9, .slice none 0 0, .int .i64 0]) := HB9.out.store 1 _
          have HX10 : Hid (RowX coSh 2 V5.heap.size 77 (.slice b9 n9 c9) (z3.setCell ⟨V0.heap.size, 1, none⟩ (.slice b9 n9 c9)) (l ++ [⟨y0, y1⟩]) (css ++ [[.string (strB y0), .slice bf nf cf]])) := HX9.out.keep lawSh (by simp) fun q hq _ => heap_setCell_other _ _ _ _ (by have := HUN.out; simp; omega)
          have HM10 : Hid (∀ q, wP.heap.size ≤ q → q < V5.heap.size → q ≠ V0.heap.size → (z3.setCell ⟨V0.heap.size, 1, none⟩ (.slice b9 n9 c9)).heap[q]? = V5.heap[q]?) := fun q h1 h2 h3 => (heap_setCell_other _ _ _ _ (by simp; omega)).trans (HM9.out q h1 h2 h3)
          go_wp2
          exact ⟨⟨i + 1, _, _, e2, s2, b9, n9, c9, by go_num, HNXT.out, HB10.out, HX10.out, HM10⟩, by simp [intOf]; omega⟩
    · have hend : loopR (rSh bs) nI aI rI' = (l, a', r') := by
        by_cases hi : i < nI
        · exact hL.bad fun e => hgo ⟨hi, e⟩
        · obtain rfl : i = nI := by omega
          exact hL.last
      have h9 := HX1.out
      rw [hend] at h9
      obtain ⟨rfl, h10⟩ := Prod.mk.inj h9
      obtain ⟨rfl, rfl⟩ := Prod.mk.inj h10
      have HIN : Hid (shapesIn (fun b => V5.heap.size ≤ b) wr (.slice b5 n5 c5) l) := hX.rowIn lawSh (E := shE _) fun x cs b o hco hcs => by
        obtain ⟨b9, n9, c9, e, hs⟩ := hco
        subst e
        exact ⟨hcs 0 (by simp), _, hcs 1 (by simp), hs⟩
      have HLOW : Hid (V5.heap.size ≤ wr.heap.size) := hX.low
      have HSS : Hid (strsIn (fun q => wP.heap.size ≤ q ∧ q < V0.heap.size) wr (.slice b0 n0 c0) x0) := rowIn.kept HS5.out (strE_keeps _) hX.low fun q hq hlt => HMID.out q hq.1 hlt (by have := hq.2; omega)
      have cc := tkCount p bs a' r' wr hB.rd
      rw [HCV.out] at cc
      simp only at cc
      clear hL hX hend h9 h10 HX1 hfew HMID
      by_cases hi : i < nI
      · have hi2 : (i : Int) < nI := by omega
        have cw := tkWell p bs a' r' wr hB.rd
        have hr : r' ≠ 0 := fun e => hgo ⟨hi, e⟩
        rw [decide_eq_false hr] at cw
        clear hgo hr hB
        go_wp2_with fail
        refine cw.mono ?_
        clear cw
        rintro e w2 ⟨rfl, rfl⟩
        go_wp2_with fail
        refine cc.mono ?_
        clear cc
        rintro e V6 ⟨rfl, hr1, hg1⟩
        have C6 : Hid (UBx w V6 p bs aV rV' V0.heap.size 26 #[.slice none 0 0, .slice none 0 0, .slice none 0 0, .int .i64 0] #[.slice b0 n0 c0, .slice b5 n5 c5, .slice none 0 0, .int .i64 0]) := HB.out.call hr1 hg1
        have HSH6 : Hid (shapesIn (fun b => V5.heap.size ≤ b) V6 (.slice b5 n5 c5) l) := rowIn.kept HIN.out (shE_keeps _) hg1.size fun q hq hlt => hg1.block q hlt (by have := HRV.out; have := HUN.out; simp; omega)
        have HSS6 : Hid (strsIn (fun q => wP.heap.size ≤ q ∧ q < V0.heap.size) V6 (.slice b0 n0 c0) x0) := rowIn.kept HSS.out (strE_keeps _) hg1.size fun q hq hlt => hg1.block q hlt (by have := HPS.out; have := hq.1; simp; omega)
        have HU6 : Hid (V0.heap.size < V6.heap.size ∧ V5.heap.size ≤ V6.heap.size) := ⟨heap_lt C6.out.X, Nat.le_trans HLOW.out hg1.size⟩
        clear hr1 hg1 HB HX HL HIN HSS HLOW
        go_wp2
        go_loopw [9] (fun vi wr => ∃ (i : Nat) (m : List Un) (css : List (List Value)) (a' r' : Nat) (b n c : _), vi = .int .i64 (i : Int) ∧ LoopX (rUn bs) nV aV rV' i m a' r' ∧ UBx w wr p bs a' r' V0.heap.size 26 #[.slice none 0 0, .slice none 0 0, .slice none 0 0, .int .i64 0] #[.slice b0 n0 c0, .slice b5 n5 c5, .slice b n c, .int .i64 0] ∧ RowX coUn 7 V6.heap.size 58 (.slice b n c) wr m css ∧ Hid (∀ q, wP.heap.size ≤ q → q < V6.heap.size → q ≠ V0.heap.size → wr.heap[q]? = V6.heap[q]?)) (fun vi _ => nV - (intOf vi).toNat)
        case atStart => exact ⟨0, [], [], aV, rV', none, 0, 0, rfl, LoopX.start _ _ _ _, C6.out, RowX.start (Nat.le_refl _), fun q _ _ _ => rfl⟩
        case round =>
          obtain ⟨i2, m, css2, f', t', b6, n6, c6, rfl, hL, hB, hX, HMID⟩ := hrel
          have HB : Hid (UBx w wr p bs f' t' V0.heap.size 26 #[.slice none 0 0, .slice none 0 0, .slice none 0 0, .int .i64 0] #[.slice b0 n0 c0, .slice b5 n5 c5, .slice b6 n6 c6, .int .i64 0]) := hB
          have HX : Hid (RowX coUn 7 V6.heap.size 58 (.slice b6 n6 c6) wr m css2) := hX
          have hle := hL.le
          have hfew := hL.few
          by_cases hgo : i2 < nV ∧ t' = 0
          · obtain ⟨hi3, rfl⟩ := hgo
            have hi4 : (i2 : Int) < nV := by omega
            have cw := tkWell p bs f' 0 wr hB.rd
            rw [decide_eq_true rfl] at cw
            have HNX := hL.next hi3
            obtain ⟨y0, e1, s1, hy0⟩ : ∃ x ya yr, rUn bs f' 0 = (x, ya, yr) := ⟨_, _, _, rfl⟩
            have HY0 : Hid (rUn bs f' 0 = (y0, e1, s1)) := hy0
            rw [hy0] at HNX
            simp only at HNX
            have HNXT : Hid (LoopX (rUn bs) nV aV rV' (i2 + 1) (m ++ [y0]) e1 s1) := HNX
            have HFW : Hid (m.length ≤ 1048576) := by have := HNI.out; show _ ≤ _; omega
            have HLOW2 : Hid (V6.heap.size ≤ wr.heap.size) := hX.low
            clear hL hB hX hle hfew HNX hy0
            go_wp2_with fail
            refine cw.mono ?_
            clear cw
            rintro e w3 ⟨rfl, rfl⟩
            obtain ⟨w3, hw3⟩ : ∃ w3, w3 = wr := ⟨_, rfl⟩
            rw [← hw3] at HB HX HMID HLOW2 ⊢
            clear hw3
            have HB3 : Hid (UBx w w3 p bs f' 0 V0.heap.size 26 #[.slice none 0 0, .slice none 0 0, .slice none 0 0, .int .i64 0] #[.slice b0 n0 c0, .slice b5 n5 c5, .slice b6 n6 c6, .int .i64 0]) := HB.out
            have HX3 : Hid (RowX coUn 7 V6.heap.size 58 (.slice b6 n6 c6) w3 m css2) := HX.out
            have HM3 : Hid (∀ q, wP.heap.size ≤ q → q < V6.heap.size → q ≠ V0.heap.size → w3.heap[q]? = V6.heap[q]?) := HMID.out
            haveI hne : Nonempty (ClsP (fun _ => True)) := ⟨⟨w3, trivial⟩⟩
            have HTd : Hid (TkAt w3.drew p bs f' 0) := HB3.out.rd.kept rfl
            have q5 : w3.drew.cell? ⟨V0.heap.size, 2, none⟩ = some (.slice b6 n6 c6) := (bcells4 HB3.out.X).2.2.1
            have HC2 := tkUnit p bs f' 0 w3.drew HTd.out
            go_upto_region 13 with fail
            refine mix_begin (n := 8) (S := fun w' => ∃ c' : ClsP (fun _ => True), w' = c'.1) (by kernel_rfl) rfl rfl ?_
            refine mix_seg (fuel := 6) (fuel' := 8) (idx := [0, 2]) (by decide +kernel) rfl rfl rfl (fun _ _ _ _ _ h => h) ⟨⟨w3.drew, trivial⟩, rfl⟩ ?_
            show wpQuiet _ _ _ _ [_, _] _
            iterate 2 (go_big_quiet_step (fail))
            refine wpQuiet_nil ?_
            refine cmix_two (fuel := 5) (fuel' := 6) (i := 1) (k := 3) rfl rfl (by decide +kernel) rfl rfl rfl (by rfl) (by rfl) ?_ ?_
            · intro K hK
              go_simp
              refine hK.out _ _ ⟨⟨w3.drew, trivial⟩, rfl⟩ ?_
              clear hK K
              refine mix_loud (fuel := 4) (fuel' := 5) (i := 3) rfl (by decide +kernel) rfl rfl (by rfl) ?_
              intro K hK
              go_simp
              refine HC2.mono ?_
              rintro e z1 ⟨⟨bi, ni, ci, bv, nv, cv, rfl, hin4, hvn4⟩, hT4, hG4⟩
              rw [HY0.out] at hin4 hvn4 hT4
              simp only at hin4 hvn4 hT4
              have hG4' : w3.grownBy z1 (some p) := ⟨hG4.os, hG4.tape, hG4.output, hG4.size, hG4.block⟩
              have HBz : Hid (UBx w z1 p bs e1 s1 V0.heap.size 26 #[.slice none 0 0, .slice none 0 0, .slice none 0 0, .int .i64 0] #[.slice b0 n0 c0, .slice b5 n5 c5, .slice b6 n6 c6, .int .i64 0]) := HB3.out.call hT4 hG4'
              have HXz : Hid (RowX coUn 7 V6.heap.size 58 (.slice b6 n6 c6) z1 m css2) := HX3.out.keep lawUn hG4'.size fun q hq hlt => hG4'.block q hlt (by have := HRV.out; have := HU6.out; simp; omega)
              have HMz : Hid (∀ q, wP.heap.size ≤ q → q < V6.heap.size → q ≠ V0.heap.size → z1.heap[q]? = V6.heap[q]?) := fun q h1 h2 h3 => (hG4'.block q (by have := HLOW2.out; omega) (by have := HPS.out; simp; omega)).trans (HM3.out q h1 h2 h3)
              have HCO : Hid (coUn (fun b => w3.heap.size ≤ b) z1 y0 [.string (strB y0.name), .int .i64 y0.params, .int .i64 y0.slots, .int .i64 y0.stack, .bool y0.result, .slice bi ni ci, .slice bv nv cv]) := ⟨bi, ni, ci, bv, nv, cv, rfl, hin4, hvn4⟩
              have HG4 : Hid (w3.grownBy z1 (some p)) := hG4'
              rw [HY0.out]
              simp only [unV]
              clear hT4 hG4 hG4' hin4 hvn4
              (try go_simp)
              refine hK.out _ _ ⟨⟨z1, trivial⟩, rfl⟩ ?_
              clear hK K
              refine mix_loud (fuel := 3) (fuel' := 4) (i := 4) rfl (by decide +kernel) rfl rfl (by rfl) ?_
              intro K hK
              go_simp
              refine hK.out _ _ ⟨⟨_, trivial⟩, rfl⟩ ?_
              clear hK K
              refine mix_law (fuel := 2) (fuel' := 3) (i := 5) rfl (by decide +kernel) rfl rfl (by rfl) ?_
              intro K hK
              refine cstep_append_at (.tmp 52) (.tmp 55) 24 rfl (by rfl) V6.heap.size 58 iV (.agg #[.string ⟨#[]⟩, .int .i64 0, .int .i64 0, .int .i64 0, .bool false, .slice none 0 0, .slice none 0 0]) 7 96 Tryz.underlying24 hinfV hzV0 hzV1 hzV2 rfl (by decide) _ _ _ rfl (HXz.out.row.alloc _) ⟨z1.heap.size, 0, none⟩ 1 1 [.string (strB y0.name), .int .i64 y0.params, .int .i64 y0.slots, .int .i64 y0.stack, .bool y0.result, .slice bi ni ci, .slice bv nv cv] rfl rfl (rcells_new _ _ _) (by simp [Value.oneCell']) (by have := HFW.out; unfold maxLen; omega) (by have := HFW.out; omega) (by have := HXz.out.low; simp; omega) ?_
              intro v' z3 hown9 hgrow9 hloc9
              have hlk := HXz.out.lowkept (w1 := z1) rfl (Nat.le_refl _) hgrow9
              have HX9 : Hid (RowX coUn 7 V6.heap.size 58 v' z3 (m ++ [y0]) (css2 ++ [[.string (strB y0.name), .int .i64 y0.params, .int .i64 y0.slots, .int .i64 y0.stack, .bool y0.result, .slice bi ni ci, .slice bv nv cv]])) := HX3.out.snoc lawUn (w1 := z1) HG4.out.size (fun q hq hlt => HG4.out.block q hlt (by have := HRV.out; have := HU6.out; simp; omega)) HCO.out rfl hown9 hgrow9 hloc9
              have HB9 : Hid (UBx w z3 p bs e1 s1 V0.heap.size 26 #[.slice none 0 0, .slice none 0 0, .slice none 0 0, .int .i64 0] #[.slice b0 n0 c0, .slice b5 n5 c5, .slice b6 n6 c6, .int .i64 0]) := HBz.out.low HU6.out.1 hlk hgrow9.os hgrow9.tape hgrow9.output (by have := hgrow9.size; simp at this; omega)
              have HM9 : Hid (∀ q, wP.heap.size ≤ q → q < V6.heap.size → q ≠ V0.heap.size → z3.heap[q]? = V6.heap[q]?) := fun q h1 h2 h3 => (hlk q h2).trans (HMz.out q h1 h2 h3)
              obtain ⟨b9, n9, c9, rfl⟩ : ∃ b n c, v' = .slice b n c := by
                rcases HX9.out.row.2 with ⟨e, -⟩ | ⟨g, cp, cur, e, -⟩
                · exact ⟨_, _, _, e⟩
                · exact ⟨_, _, _, e⟩
              clear hown9 hgrow9 hloc9 hlk
              refine hK.out _ _ ⟨⟨z3, trivial⟩, rfl⟩ ?_
              clear hK K
              simp only [Act.put, List.setIfInBounds_toArray, List.set_cons_zero, List.set_cons_succ]
              refine mix_seg (fuel := 1) (fuel' := 2) (idx := [6]) (by decide +kernel) rfl rfl rfl (fun _ _ _ _ _ h => h) ⟨⟨z3, trivial⟩, rfl⟩ ?_
              show wpQuiet _ _ _ _ [_] _
              iterate 1 (go_big_quiet_step (fail))
              refine wpQuiet_nil ?_
              have q7 : z3.cell? ⟨V0.heap.size, 2, none⟩ = some (.slice b6 n6 c6) := (bcells4 HB9.out.X).2.2.1
              have fz7 := cfrozen HB9.out.X 2
              refine mix_loud (fuel := 0) (fuel' := 1) (i := 7) rfl (by decide +kernel) rfl rfl (by rfl) ?_
              intro K hK
              go_simp
              refine hK.out _ _ ⟨⟨_, trivial⟩, rfl⟩ ?_
              clear hK K q7 fz7
              refine mix_done (by kernel_rfl) ?_
              have HB10 : Hid (UBx w (z3.setCell ⟨V0.heap.size, 2, none⟩ (.slice b9 n9 c9)) p bs e1 s1 V0.heap.size 26 #[.slice none 0 0, .slice none 0 0, .slice none 0 0, .int .i64 0] #[.slice b0 n0 c0, .slice b5 n5 c5, .slice b9 n9 c9, .int .i64 0]) := HB9.out.store 2 _
              have HX10 : Hid (RowX coUn 7 V6.heap.size 58 (.slice b9 n9 c9) (z3.setCell ⟨V0.heap.size, 2, none⟩ (.slice b9 n9 c9)) (m ++ [y0]) (css2 ++ [[.string (strB y0.name), .int .i64 y0.params, .int .i64 y0.slots, .int .i64 y0.stack, .bool y0.result, .slice bi ni ci, .slice bv nv cv]])) := HX9.out.keep lawUn (by simp) fun q hq _ => heap_setCell_other _ _ _ _ (by have := HU6.out; simp; omega)
              have HM10 : Hid (∀ q, wP.heap.size ≤ q → q < V6.heap.size → q ≠ V0.heap.size → (z3.setCell ⟨V0.heap.size, 2, none⟩ (.slice b9 n9 c9)).heap[q]? = V6.heap[q]?) := fun q h1 h2 h3 => (heap_setCell_other _ _ _ _ (by simp; omega)).trans (HM9.out q h1 h2 h3)
              go_wp2
              exact ⟨⟨i2 + 1, _, _, e1, s1, b9, n9, c9, by go_num, HNXT.out, HB10.out, HX10.out, HM10⟩, by simp [intOf]; omega⟩
            · intro K hK
              go_simp
              refine HC2.mono ?_
              rintro e z1 ⟨⟨bi, ni, ci, bv, nv, cv, rfl, hin4, hvn4⟩, hT4, hG4⟩
              rw [HY0.out] at hin4 hvn4 hT4
              simp only at hin4 hvn4 hT4
              have hG4' : w3.grownBy z1 (some p) := ⟨hG4.os, hG4.tape, hG4.output, hG4.size, hG4.block⟩
              have HBz : Hid (UBx w z1 p bs e1 s1 V0.heap.size 26 #[.slice none 0 0, .slice none 0 0, .slice none 0 0, .int .i64 0] #[.slice b0 n0 c0, .slice b5 n5 c5, .slice b6 n6 c6, .int .i64 0]) := HB3.out.call hT4 hG4'
              have HXz : Hid (RowX coUn 7 V6.heap.size 58 (.slice b6 n6 c6) z1 m css2) := HX3.out.keep lawUn hG4'.size fun q hq hlt => hG4'.block q hlt (by have := HRV.out; have := HU6.out; simp; omega)
              have HMz : Hid (∀ q, wP.heap.size ≤ q → q < V6.heap.size → q ≠ V0.heap.size → z1.heap[q]? = V6.heap[q]?) := fun q h1 h2 h3 => (hG4'.block q (by have := HLOW2.out; omega) (by have := HPS.out; simp; omega)).trans (HM3.out q h1 h2 h3)
              have HCO : Hid (coUn (fun b => w3.heap.size ≤ b) z1 y0 [.string (strB y0.name), .int .i64 y0.params, .int .i64 y0.slots, .int .i64 y0.stack, .bool y0.result, .slice bi ni ci, .slice bv nv cv]) := ⟨bi, ni, ci, bv, nv, cv, rfl, hin4, hvn4⟩
              have HG4 : Hid (w3.grownBy z1 (some p)) := hG4'
              rw [HY0.out]
              simp only [unV]
              clear hT4 hG4 hG4' hin4 hvn4
              (try go_simp)
              refine hK.out _ _ ⟨⟨z1, trivial⟩, rfl⟩ ?_
              clear hK K
              have q6 : z1.cell? ⟨V0.heap.size, 2, none⟩ = some (.slice b6 n6 c6) := (bcells4 HBz.out.X).2.2.1
              have hul6 : V0.heap.size < z1.heap.size := heap_lt HBz.out.X
              refine cmix_two (fuel := 4) (fuel' := 5) (i := 1) (k := 4) rfl rfl (by decide +kernel) rfl rfl rfl (by rfl) (by rfl) ?_ ?_
              · intro K hK
                go_simp
                refine hK.out _ _ ⟨⟨z1, trivial⟩, rfl⟩ ?_
                clear hK K q6 hul6
                refine mix_loud (fuel := 3) (fuel' := 4) (i := 4) rfl (by decide +kernel) rfl rfl (by rfl) ?_
                intro K hK
                go_simp
                refine hK.out _ _ ⟨⟨_, trivial⟩, rfl⟩ ?_
                clear hK K
                refine mix_law (fuel := 2) (fuel' := 3) (i := 5) rfl (by decide +kernel) rfl rfl (by rfl) ?_
                intro K hK
                refine cstep_append_at (.tmp 52) (.tmp 55) 24 rfl (by rfl) V6.heap.size 58 iV (.agg #[.string ⟨#[]⟩, .int .i64 0, .int .i64 0, .int .i64 0, .bool false, .slice none 0 0, .slice none 0 0]) 7 96 Tryz.underlying24 hinfV hzV0 hzV1 hzV2 rfl (by decide) _ _ _ rfl (HXz.out.row.alloc _) ⟨z1.heap.size, 0, none⟩ 1 1 [.string (strB y0.name), .int .i64 y0.params, .int .i64 y0.slots, .int .i64 y0.stack, .bool y0.result, .slice bi ni ci, .slice bv nv cv] rfl rfl (rcells_new _ _ _) (by simp [Value.oneCell']) (by have := HFW.out; unfold maxLen; omega) (by have := HFW.out; omega) (by have := HXz.out.low; simp; omega) ?_
                intro v' z3 hown9 hgrow9 hloc9
                have hlk := HXz.out.lowkept (w1 := z1) rfl (Nat.le_refl _) hgrow9
                have HX9 : Hid (RowX coUn 7 V6.heap.size 58 v' z3 (m ++ [y0]) (css2 ++ [[.string (strB y0.name), .int .i64 y0.params, .int .i64 y0.slots, .int .i64 y0.stack, .bool y0.result, .slice bi ni ci, .slice bv nv cv]])) := HX3.out.snoc lawUn (w1 := z1) HG4.out.size (fun q hq hlt => HG4.out.block q hlt (by have := HRV.out; have := HU6.out; simp; omega)) HCO.out rfl hown9 hgrow9 hloc9
                have HB9 : Hid (UBx w z3 p bs e1 s1 V0.heap.size 26 #[.slice none 0 0, .slice none 0 0, .slice none 0 0, .int .i64 0] #[.slice b0 n0 c0, .slice b5 n5 c5, .slice b6 n6 c6, .int .i64 0]) := HBz.out.low HU6.out.1 hlk hgrow9.os hgrow9.tape hgrow9.output (by have := hgrow9.size; simp at this; omega)
                have HM9 : Hid (∀ q, wP.heap.size ≤ q → q < V6.heap.size → q ≠ V0.heap.size → z3.heap[q]? = V6.heap[q]?) := fun q h1 h2 h3 => (hlk q h2).trans (HMz.out q h1 h2 h3)
                obtain ⟨b9, n9, c9, rfl⟩ : ∃ b n c, v' = .slice b n c := by
                  rcases HX9.out.row.2 with ⟨e, -⟩ | ⟨g, cp, cur, e, -⟩
                  · exact ⟨_, _, _, e⟩
                  · exact ⟨_, _, _, e⟩
                clear hown9 hgrow9 hloc9 hlk
                refine hK.out _ _ ⟨⟨z3, trivial⟩, rfl⟩ ?_
                clear hK K
                simp only [Act.put, List.setIfInBounds_toArray, List.set_cons_zero, List.set_cons_succ]
                refine mix_seg (fuel := 1) (fuel' := 2) (idx := [6]) (by decide +kernel) rfl rfl rfl (fun _ _ _ _ _ h => h) ⟨⟨z3, trivial⟩, rfl⟩ ?_
                show wpQuiet _ _ _ _ [_] _
                iterate 1 (go_big_quiet_step (fail))
                refine wpQuiet_nil ?_
                have q7 : z3.cell? ⟨V0.heap.size, 2, none⟩ = some (.slice b6 n6 c6) := (bcells4 HB9.out.X).2.2.1
                have fz7 := cfrozen HB9.out.X 2
                refine mix_loud (fuel := 0) (fuel' := 1) (i := 7) rfl (by decide +kernel) rfl rfl (by rfl) ?_
                intro K hK
                go_simp
                refine hK.out _ _ ⟨⟨_, trivial⟩, rfl⟩ ?_
                clear hK K q7 fz7
                refine mix_done (by kernel_rfl) ?_
                have HB10 : Hid (UBx w (z3.setCell ⟨V0.heap.size, 2, none⟩ (.slice b9 n9 c9)) p bs e1 s1 V0.heap.size 26 #[.slice none 0 0, .slice none 0 0, .slice none 0 0, .int .i64 0] #[.slice b0 n0 c0, .slice b5 n5 c5, .slice b9 n9 c9, .int .i64 0]) := HB9.out.store 2 _
                have HX10 : Hid (RowX coUn 7 V6.heap.size 58 (.slice b9 n9 c9) (z3.setCell ⟨V0.heap.size, 2, none⟩ (.slice b9 n9 c9)) (m ++ [y0]) (css2 ++ [[.string (strB y0.name), .int .i64 y0.params, .int .i64 y0.slots, .int .i64 y0.stack, .bool y0.result, .slice bi ni ci, .slice bv nv cv]])) := HX9.out.keep lawUn (by simp) fun q hq _ => heap_setCell_other _ _ _ _ (by have := HU6.out; simp; omega)
                have HM10 : Hid (∀ q, wP.heap.size ≤ q → q < V6.heap.size → q ≠ V0.heap.size → (z3.setCell ⟨V0.heap.size, 2, none⟩ (.slice b9 n9 c9)).heap[q]? = V6.heap[q]?) := fun q h1 h2 h3 => (heap_setCell_other _ _ _ _ (by simp; omega)).trans (HM9.out q h1 h2 h3)
                go_wp2
                exact ⟨⟨i2 + 1, _, _, e1, s1, b9, n9, c9, by go_num, HNXT.out, HB10.out, HX10.out, HM10⟩, by simp [intOf]; omega⟩
              · intro K hK
                go_simp
                refine hK.out _ _ ⟨⟨_, trivial⟩, rfl⟩ ?_
                clear hK K
                refine mix_loud (fuel := 3) (fuel' := 4) (i := 1) rfl (by decide +kernel) rfl rfl (by rfl) ?_
                intro K hK
                go_simp
                refine hK.out _ _ ⟨⟨_, trivial⟩, rfl⟩ ?_
                clear hK K
                clear q6 hul6
                refine mix_law (fuel := 2) (fuel' := 3) (i := 5) rfl (by decide +kernel) rfl rfl (by rfl) ?_
                intro K hK
                refine cstep_append_at (.tmp 52) (.tmp 55) 24 rfl (by rfl) V6.heap.size 58 iV (.agg #[.string ⟨#[]⟩, .int .i64 0, .int .i64 0, .int .i64 0, .bool false, .slice none 0 0, .slice none 0 0]) 7 96 Tryz.underlying24 hinfV hzV0 hzV1 hzV2 rfl (by decide) _ _ _ rfl (HXz.out.row.alloc _) ⟨z1.heap.size, 0, none⟩ 1 1 [.string (strB y0.name), .int .i64 y0.params, .int .i64 y0.slots, .int .i64 y0.stack, .bool y0.result, .slice bi ni ci, .slice bv nv cv] rfl rfl (rcells_new _ _ _) (by simp [Value.oneCell']) (by have := HFW.out; unfold maxLen; omega) (by have := HFW.out; omega) (by have := HXz.out.low; simp; omega) ?_
                intro v' z3 hown9 hgrow9 hloc9
                have hlk := HXz.out.lowkept (w1 := z1) rfl (Nat.le_refl _) hgrow9
                have HX9 : Hid (RowX coUn 7 V6.heap.size 58 v' z3 (m ++ [y0]) (css2 ++ [[.string (strB y0.name), .int .i64 y0.params, .int .i64 y0.slots, .int .i64 y0.stack, .bool y0.result, .slice bi ni ci, .slice bv nv cv]])) := HX3.out.snoc lawUn (w1 := z1) HG4.out.size (fun q hq hlt => HG4.out.block q hlt (by have := HRV.out; have := HU6.out; simp; omega)) HCO.out rfl hown9 hgrow9 hloc9
                have HB9 : Hid (UBx w z3 p bs e1 s1 V0.heap.size 26 #[.slice none 0 0, .slice none 0 0, .slice none 0 0, .int .i64 0] #[.slice b0 n0 c0, .slice b5 n5 c5, .slice b6 n6 c6, .int .i64 0]) := HBz.out.low HU6.out.1 hlk hgrow9.os hgrow9.tape hgrow9.output (by have := hgrow9.size; simp at this; omega)
                have HM9 : Hid (∀ q, wP.heap.size ≤ q → q < V6.heap.size → q ≠ V0.heap.size → z3.heap[q]? = V6.heap[q]?) := fun q h1 h2 h3 => (hlk q h2).trans (HMz.out q h1 h2 h3)
                obtain ⟨b9, n9, c9, rfl⟩ : ∃ b n c, v' = .slice b n c := by
                  rcases HX9.out.row.2 with ⟨e, -⟩ | ⟨g, cp, cur, e, -⟩
                  · exact ⟨_, _, _, e⟩
                  · exact ⟨_, _, _, e⟩
                clear hown9 hgrow9 hloc9 hlk
                refine hK.out _ _ ⟨⟨z3, trivial⟩, rfl⟩ ?_
                clear hK K
                simp only [Act.put, List.setIfInBounds_toArray, List.set_cons_zero, List.set_cons_succ]
                refine mix_seg (fuel := 1) (fuel' := 2) (idx := [6]) (by decide +kernel) rfl rfl rfl (fun _ _ _ _ _ h => h) ⟨⟨z3, trivial⟩, rfl⟩ ?_
                show wpQuiet _ _ _ _ [_] _
                iterate 1 (go_big_quiet_step (fail))
                refine wpQuiet_nil ?_
                have q7 : z3.cell? ⟨V0.heap.size, 2, none⟩ = some (.slice b6 n6 c6) := (bcells4 HB9.out.X).2.2.1
                have fz7 := cfrozen HB9.out.X 2
                refine mix_loud (fuel := 0) (fuel' := 1) (i := 7) rfl (by decide +kernel) rfl rfl (by rfl) ?_
                intro K hK
                go_simp
                refine hK.out _ _ ⟨⟨_, trivial⟩, rfl⟩ ?_
                clear hK K q7 fz7
                refine mix_done (by kernel_rfl) ?_
                have HB10 : Hid (UBx w (z3.setCell ⟨V0.heap.size, 2, none⟩ (.slice b9 n9 c9)) p bs e1 s1 V0.heap.size 26 #[.slice none 0 0, .slice none 0 0, .slice none 0 0, .int .i64 0] #[.slice b0 n0 c0, .slice b5 n5 c5, .slice b9 n9 c9, .int .i64 0]) := HB9.out.store 2 _
                have HX10 : Hid (RowX coUn 7 V6.heap.size 58 (.slice b9 n9 c9) (z3.setCell ⟨V0.heap.size, 2, none⟩ (.slice b9 n9 c9)) (m ++ [y0]) (css2 ++ [[.string (strB y0.name), .int .i64 y0.params, .int .i64 y0.slots, .int .i64 y0.stack, .bool y0.result, .slice bi ni ci, .slice bv nv cv]])) := HX9.out.keep lawUn (by simp) fun q hq _ => heap_setCell_other _ _ _ _ (by have := HU6.out; simp; omega)
                have HM10 : Hid (∀ q, wP.heap.size ≤ q → q < V6.heap.size → q ≠ V0.heap.size → (z3.setCell ⟨V0.heap.size, 2, none⟩ (.slice b9 n9 c9)).heap[q]? = V6.heap[q]?) := fun q h1 h2 h3 => (heap_setCell_other _ _ _ _ (by simp; omega)).trans (HM9.out q h1 h2 h3)
                go_wp2
                exact ⟨⟨i2 + 1, _, _, e1, s1, b9, n9, c9, by go_num, HNXT.out, HB10.out, HX10.out, HM10⟩, by simp [intOf]; omega⟩
          · have hend : loopR (rUn bs) nV aV rV' = (m, f', t') := by
              by_cases hi : i2 < nV
              · exact hL.bad fun e => hgo ⟨hi, e⟩
              · obtain rfl : i2 = nV := by omega
                exact hL.last
            have h9 := HX2.out
            rw [hend] at h9
            obtain ⟨rfl, h10⟩ := Prod.mk.inj h9
            obtain ⟨rfl, rfl⟩ := Prod.mk.inj h10
            have HUNI : Hid (unitsIn (fun b => V6.heap.size ≤ b) wr (.slice b6 n6 c6) m) := hX.rowIn lawUn (E := unE _) fun x cs b o hco hcs => by
              obtain ⟨g1, g2, g3, g4, g5, g6, e, hs1, hs2⟩ := hco
              subst e
              exact ⟨hcs 0 (by simp), hcs 1 (by simp), hcs 2 (by simp), hcs 3 (by simp), hcs 4 (by simp), ⟨_, hcs 5 (by simp), hs1⟩, _, hcs 6 (by simp), hs2⟩
            have HLOW2 : Hid (V6.heap.size ≤ wr.heap.size) := hX.low
            have HSH7 : Hid (shapesIn (fun b => V5.heap.size ≤ b ∧ b < V6.heap.size) wr (.slice b5 n5 c5) l) := by
              have i1 := rowIn.wide (S' := fun b => V5.heap.size ≤ b ∧ b < V6.heap.size) HSH6.out (fun q hq hS => ⟨hS, hq⟩) (shE_wide (S' := fun b => V5.heap.size ≤ b ∧ b < V6.heap.size) fun q hq hS => ⟨hS, hq⟩)
              exact rowIn.kept i1 (shE_keeps _) hX.low fun q hq hlt => HMID.out q (by have := hq.1; have := HUN.out; have := HRV.out; omega) hlt (by have := hq.1; have := HUN.out; omega)
            have HSS7 : Hid (strsIn (fun q => wP.heap.size ≤ q ∧ q < V0.heap.size) wr (.slice b0 n0 c0) x0) := rowIn.kept HSS6.out (strE_keeps _) hX.low fun q hq hlt => HMID.out q hq.1 hlt (by have := hq.2; omega)
            have cn := tkNum p bs f' t' wr hB.rd
            rw [HX3'.out] at cn
            simp only at cn
            have HC : Hid (∀ W, wr.heap.size ≤ W.heap.size → (∀ q, wP.heap.size ≤ q → q < wr.heap.size → q ≠ V0.heap.size → W.heap[q]? = wr.heap[q]?) → CodeIn (fun b => w.heap.size ≤ b) W ⟨x0, l, m, x3⟩ (.slice b0 n0 c0) (.slice b5 n5 c5) (.slice b6 n6 c6)) := fun W hs hk => by
              have hp := HP.out
              have hps := HPS.out
              have h1 := HUN.out
              have h2 := HU6.out
              have h3 := HRV.out
              refine ⟨?_, ?_, ?_⟩
              · exact rowIn.wide (rowIn.kept HSS7.out (strE_keeps _) hs fun q hq hlt => hk q hq.1 hlt (by have := hq.2; omega)) (fun q _ hq => by have := hq.1; omega) fun _ _ _ h => h
              · exact rowIn.wide (rowIn.kept HSH7.out (shE_keeps _) hs fun q hq hlt => hk q (by have := hq.1; omega) hlt (by have := hq.1; omega)) (fun q _ hq => by have := hq.1; omega) (shE_wide fun q _ hq => by have := hq.1; omega)
              · exact rowIn.wide (rowIn.kept HUNI.out (unE_keeps _) hs fun q hq hlt => hk q (by omega) hlt (by omega)) (fun q _ hq => by omega) (unE_wide fun q _ hq => by omega)
            have hwell : ∀ P : Prop, P → P := fun _ h => h
            clear hL hX hend h9 h10 hfew HX2 HMID hwell
            by_cases hi : i2 < nV
            · have hi4 : (i2 : Int) < nV := by omega
              have cw := tkWell p bs f' t' wr hB.rd
              have hr : t' ≠ 0 := fun e => hgo ⟨hi, e⟩
              rw [decide_eq_false hr] at cw
              clear hgo hr hB
              go_wp2_with fail
              refine cw.mono ?_
              clear cw
              rintro e w2 ⟨rfl, rfl⟩
              go_wp2_with fail
              refine cn.mono ?_
              clear cn
              rintro e V7 ⟨rfl, hr1, hg1⟩
              have C7 : Hid (UBx w V7 p bs a4 r4 V0.heap.size 26 #[.slice none 0 0, .slice none 0 0, .slice none 0 0, .int .i64 0] #[.slice b0 n0 c0, .slice b5 n5 c5, .slice b6 n6 c6, .int .i64 0]) := HB.out.call hr1 hg1
              obtain ⟨W8, hW⟩ : ∃ W, W = V7.setCell ⟨V0.heap.size, 3, none⟩ (.int .i64 x3) := ⟨_, rfl⟩
              have HW8 : Hid (W8 = V7.setCell ⟨V0.heap.size, 3, none⟩ (.int .i64 x3)) := hW
              have C8 : Hid (UBx w W8 p bs a4 r4 V0.heap.size 26 #[.slice none 0 0, .slice none 0 0, .slice none 0 0, .int .i64 0] #[.slice b0 n0 c0, .slice b5 n5 c5, .slice b6 n6 c6, .int .i64 x3]) := by rw [hW]; exact C7.out.store 3 _
              have HK8 : Hid (wr.heap.size ≤ W8.heap.size ∧ ∀ q, wP.heap.size ≤ q → q < wr.heap.size → q ≠ V0.heap.size → W8.heap[q]? = wr.heap[q]?) := ⟨by rw [hW]; have := hg1.size; simp; omega, fun q h1 h2 h3 => by rw [hW, heap_setCell_other _ _ _ _ h3]; exact hg1.block q h2 (by have := HPS.out; simp; omega)⟩
              obtain ⟨q0, q1, q2, q3⟩ := bcells4 C7.out.X
              have fz := cfrozen C7.out.X 3
              have hul : V0.heap.size < V7.heap.size := heap_lt C7.out.X
              obtain ⟨ev, hev⟩ : ∃ ev, ev = ldE bs := ⟨_, rfl⟩
              have HEV : Hid (ev = ldE bs) := hev
              have ce : Calls Tryz.prog 59 #[.agg #[.string (strB bs), .int .i64 (a4 : Nat), .int .i64 (r4 : Nat)]] W8 fun e w' => e = .returned (.int .i64 (ev : Nat)) ∧ Below W8.heap.size W8 w' := by
                have h9 := refREnd_any (strB bs) a4 r4 W8
                rw [strB_size] at h9
                rw [hev]
                unfold ldE
                rw [HRES.out]
                exact h9
              obtain ⟨t0, t1, t2⟩ := tcells3 C8.out.rd.blk
              clear hr1 hg1 hW hev
              go_upto_region 15 with fail
              rw [← HW8.out]
              clear q0 q1 q2 q3 fz hul
              go_wp2_with fail
              refine ce.mono ?_
              clear ce t0 t1 t2
              rintro e W9 ⟨rfl, hb9⟩
              have C9 : Hid (UBx w W9 p bs a4 r4 V0.heap.size 26 #[.slice none 0 0, .slice none 0 0, .slice none 0 0, .int .i64 0] #[.slice b0 n0 c0, .slice b5 n5 c5, .slice b6 n6 c6, .int .i64 x3]) := C8.out.below hb9
              have HK9 : Hid (wr.heap.size ≤ W9.heap.size ∧ ∀ q, wP.heap.size ≤ q → q < wr.heap.size → q ≠ V0.heap.size → W9.heap[q]? = wr.heap[q]?) := ⟨Nat.le_trans HK8.out.1 hb9.size, fun q h1 h2 h3 => (hb9.block q (Nat.lt_of_lt_of_le h2 HK8.out.1)).trans (HK8.out.2 q h1 h2 h3)⟩
              clear hb9
              by_cases he0 : ev = 0
              · have HE0 : Hid (ldE bs = 0) := HEV.out.symm.trans he0
                have hn0 : ((ev : Int) != 0) = false := by rw [he0]; rfl
                obtain ⟨hok, -⟩ := ldE_form HE0.out
                have hsm := rCode_small bs
                rw [HRES.out] at hok hsm
                simp only at hok hsm
                obtain ⟨R, hR⟩ : ∃ R, R = rightC ⟨x0, l, m, x3⟩ := ⟨_, rfl⟩
                have HRR : Hid (R = rightC (rCode bs).1) := by rw [HRES.out]; exact hR
                have cr : Calls Tryz.prog 25 #[.agg #[.slice b0 n0 c0, .slice b5 n5 c5, .slice b6 n6 c6, .int .i64 x3]] W9 fun e w' => e = .returned (.bool R) ∧ Below W9.heap.size W9 w' := by
                  rw [hR]; exact rfRight _ ⟨x0, l, m, x3⟩ b0 b5 b6 n0 c0 n5 c5 n6 c6 W9 (HC.out W9 HK9.out.1 HK9.out.2) hsm (okcd_ints hok) (okcd_few hok)
                obtain ⟨q0, q1, q2, q3⟩ := bcells4 C9.out.X
                clear hok hsm hR he0
                go_wp2_with fail
                refine cr.mono ?_
                clear cr q0 q1 q2 q3
                rintro e W10 ⟨rfl, hb10⟩
                have C10 : Hid (UBx w W10 p bs a4 r4 V0.heap.size 26 #[.slice none 0 0, .slice none 0 0, .slice none 0 0, .int .i64 0] #[.slice b0 n0 c0, .slice b5 n5 c5, .slice b6 n6 c6, .int .i64 x3]) := C9.out.below hb10
                have HK10 : Hid (wr.heap.size ≤ W10.heap.size ∧ ∀ q, wP.heap.size ≤ q → q < wr.heap.size → q ≠ V0.heap.size → W10.heap[q]? = wr.heap[q]?) := ⟨Nat.le_trans HK9.out.1 hb10.size, fun q h1 h2 h3 => (hb10.block q (Nat.lt_of_lt_of_le h2 HK9.out.1)).trans (HK9.out.2 q h1 h2 h3)⟩
                clear hb10
                obtain ⟨q0, q1, q2, q3⟩ := bcells4 C10.out.X
                obtain ⟨o0, o1, o2, o3⟩ := bcells4 C10.out.Y
                have g0 := cfrozen C10.out.Y 0
                have g1 := cfrozen C10.out.Y 1
                have g2 := cfrozen C10.out.Y 2
                have g3 := cfrozen C10.out.Y 3
                have hrl : w.heap.size < W10.heap.size := heap_lt C10.out.Y
                cases R with
                | false =>
                  obtain ⟨WE, hWE⟩ : ∃ WE, WE = ((((W10.setCell ⟨w.heap.size, 0, none⟩ (.slice none 0 0)).setCell ⟨w.heap.size, 1, none⟩ (.slice none 0 0)).setCell ⟨w.heap.size, 2, none⟩ (.slice none 0 0)).setCell ⟨w.heap.size, 3, none⟩ (.int .i64 0)) := ⟨_, rfl⟩
                  have HE : Hid (UBx w WE p bs a4 r4 V0.heap.size 26 #[.slice none 0 0, .slice none 0 0, .slice none 0 0, .int .i64 0] #[.slice b0 n0 c0, .slice b5 n5 c5, .slice b6 n6 c6, .int .i64 x3]) := by rw [hWE]; exact (((C10.out.storeY 0 _).storeY 1 _).storeY 2 _).storeY 3 _
                  obtain ⟨z0, z1, z2, z3⟩ := bcells4 HE.out.Y
                  have HWE : Hid (WE = ((((W10.setCell ⟨w.heap.size, 0, none⟩ (.slice none 0 0)).setCell ⟨w.heap.size, 1, none⟩ (.slice none 0 0)).setCell ⟨w.heap.size, 2, none⟩ (.slice none 0 0)).setCell ⟨w.heap.size, 3, none⟩ (.int .i64 0))) := hWE
                  rw [hWE] at z0 z1 z2 z3
                  clear hWE
                  go_wp2
                  refine bodyPost_ret (v := .tuple #[.agg #[.slice none 0 0, .slice none 0 0, .slice none 0 0, .int .i64 0], .int .i64 2]) (by simp [results, Tryz.results19, go_sem, z0, z1, z2, z3]) rfl ?_
                  rw [← HWE.out]
                  exact ⟨.inr (.inl ⟨HE0.out, HRR.out.symm, rfl⟩), grown_to_below HE.out.G (by have := HP.out; omega)⟩
                | true =>
                  obtain ⟨WE, hWE⟩ : ∃ WE, WE = ((((W10.setCell ⟨w.heap.size, 0, none⟩ (.slice b0 n0 c0)).setCell ⟨w.heap.size, 1, none⟩ (.slice b5 n5 c5)).setCell ⟨w.heap.size, 2, none⟩ (.slice b6 n6 c6)).setCell ⟨w.heap.size, 3, none⟩ (.int .i64 x3)) := ⟨_, rfl⟩
                  have HE : Hid (UBx w WE p bs a4 r4 V0.heap.size 26 #[.slice b0 n0 c0, .slice b5 n5 c5, .slice b6 n6 c6, .int .i64 x3] #[.slice b0 n0 c0, .slice b5 n5 c5, .slice b6 n6 c6, .int .i64 x3]) := by rw [hWE]; exact (((C10.out.storeY 0 _).storeY 1 _).storeY 2 _).storeY 3 _
                  obtain ⟨z0, z1, z2, z3⟩ := bcells4 HE.out.Y
                  have HWE : Hid (WE = ((((W10.setCell ⟨w.heap.size, 0, none⟩ (.slice b0 n0 c0)).setCell ⟨w.heap.size, 1, none⟩ (.slice b5 n5 c5)).setCell ⟨w.heap.size, 2, none⟩ (.slice b6 n6 c6)).setCell ⟨w.heap.size, 3, none⟩ (.int .i64 x3))) := hWE
                  have HCE : Hid (CodeIn (fun b => w.heap.size ≤ b) WE ⟨x0, l, m, x3⟩ (.slice b0 n0 c0) (.slice b5 n5 c5) (.slice b6 n6 c6)) := HC.out WE (by rw [hWE]; have := HK10.out.1; simp; omega) fun q h1 h2 h3 => by
                    have hne : q ≠ w.heap.size := by have := HP.out; have := HPS.out; omega
                    rw [hWE, heap_setCell_other _ _ _ _ hne, heap_setCell_other _ _ _ _ hne, heap_setCell_other _ _ _ _ hne, heap_setCell_other _ _ _ _ hne]
                    exact HK10.out.2 q h1 h2 h3
                  rw [hWE] at z0 z1 z2 z3
                  clear hWE
                  go_wp2
                  refine bodyPost_ret (v := .tuple #[.agg #[.slice b0 n0 c0, .slice b5 n5 c5, .slice b6 n6 c6, .int .i64 x3], .int .i64 0]) (by simp [results, Tryz.results19, go_sem, z0, z1, z2, z3]) rfl ?_
                  rw [← HWE.out]
                  refine ⟨.inr (.inr ⟨HE0.out, HRR.out.symm, b0, n0, c0, b5, n5, c5, b6, n6, c6, by rw [HRES.out], ?_⟩), grown_to_below HE.out.G (by have := HP.out; omega)⟩
                  rw [HRES.out]
                  exact HCE.out
              · have HNE : Hid (ldE bs ≠ 0) := fun h => he0 (HEV.out.trans h)
                have hn0 : ((ev : Int) != 0) = true := by rw [bne_iff_ne]; omega
                obtain ⟨o0, o1, o2, o3⟩ := bcells4 C9.out.Y
                have g0 := cfrozen C9.out.Y 0
                have g1 := cfrozen C9.out.Y 1
                have g2 := cfrozen C9.out.Y 2
                have g3 := cfrozen C9.out.Y 3
                have hrl : w.heap.size < W9.heap.size := heap_lt C9.out.Y
                obtain ⟨WE, hWE⟩ : ∃ WE, WE = ((((W9.setCell ⟨w.heap.size, 0, none⟩ (.slice none 0 0)).setCell ⟨w.heap.size, 1, none⟩ (.slice none 0 0)).setCell ⟨w.heap.size, 2, none⟩ (.slice none 0 0)).setCell ⟨w.heap.size, 3, none⟩ (.int .i64 0)) := ⟨_, rfl⟩
                have HE : Hid (UBx w WE p bs a4 r4 V0.heap.size 26 #[.slice none 0 0, .slice none 0 0, .slice none 0 0, .int .i64 0] #[.slice b0 n0 c0, .slice b5 n5 c5, .slice b6 n6 c6, .int .i64 x3]) := by rw [hWE]; exact (((C9.out.storeY 0 _).storeY 1 _).storeY 2 _).storeY 3 _
                obtain ⟨z0, z1, z2, z3⟩ := bcells4 HE.out.Y
                have HWE : Hid (WE = ((((W9.setCell ⟨w.heap.size, 0, none⟩ (.slice none 0 0)).setCell ⟨w.heap.size, 1, none⟩ (.slice none 0 0)).setCell ⟨w.heap.size, 2, none⟩ (.slice none 0 0)).setCell ⟨w.heap.size, 3, none⟩ (.int .i64 0))) := hWE
                rw [hWE] at z0 z1 z2 z3
                clear hWE he0
                go_wp2
                refine bodyPost_ret (v := .tuple #[.agg #[.slice none 0 0, .slice none 0 0, .slice none 0 0, .int .i64 0], .int .i64 (ev : Int)]) (by simp [results, Tryz.results19, go_sem, z0, z1, z2, z3]) rfl ?_
                rw [← HWE.out]
                exact ⟨.inl ⟨HNE.out, by rw [HEV.out]⟩, grown_to_below HE.out.G (by have := HP.out; omega)⟩
            · obtain rfl : i2 = nV := by omega
              have hi4 : ¬ (i2 : Int) < i2 := by omega
              clear hgo hi hB
              go_wp2_with fail
              refine cn.mono ?_
              clear cn
              rintro e V7 ⟨rfl, hr1, hg1⟩
              have C7 : Hid (UBx w V7 p bs a4 r4 V0.heap.size 26 #[.slice none 0 0, .slice none 0 0, .slice none 0 0, .int .i64 0] #[.slice b0 n0 c0, .slice b5 n5 c5, .slice b6 n6 c6, .int .i64 0]) := HB.out.call hr1 hg1
              obtain ⟨W8, hW⟩ : ∃ W, W = V7.setCell ⟨V0.heap.size, 3, none⟩ (.int .i64 x3) := ⟨_, rfl⟩
              have HW8 : Hid (W8 = V7.setCell ⟨V0.heap.size, 3, none⟩ (.int .i64 x3)) := hW
              have C8 : Hid (UBx w W8 p bs a4 r4 V0.heap.size 26 #[.slice none 0 0, .slice none 0 0, .slice none 0 0, .int .i64 0] #[.slice b0 n0 c0, .slice b5 n5 c5, .slice b6 n6 c6, .int .i64 x3]) := by rw [hW]; exact C7.out.store 3 _
              have HK8 : Hid (wr.heap.size ≤ W8.heap.size ∧ ∀ q, wP.heap.size ≤ q → q < wr.heap.size → q ≠ V0.heap.size → W8.heap[q]? = wr.heap[q]?) := ⟨by rw [hW]; have := hg1.size; simp; omega, fun q h1 h2 h3 => by rw [hW, heap_setCell_other _ _ _ _ h3]; exact hg1.block q h2 (by have := HPS.out; simp; omega)⟩
              obtain ⟨q0, q1, q2, q3⟩ := bcells4 C7.out.X
              have fz := cfrozen C7.out.X 3
              have hul : V0.heap.size < V7.heap.size := heap_lt C7.out.X
              obtain ⟨ev, hev⟩ : ∃ ev, ev = ldE bs := ⟨_, rfl⟩
              have HEV : Hid (ev = ldE bs) := hev
              have ce : Calls Tryz.prog 59 #[.agg #[.string (strB bs), .int .i64 (a4 : Nat), .int .i64 (r4 : Nat)]] W8 fun e w' => e = .returned (.int .i64 (ev : Nat)) ∧ Below W8.heap.size W8 w' := by
                have h9 := refREnd_any (strB bs) a4 r4 W8
                rw [strB_size] at h9
                rw [hev]
                unfold ldE
                rw [HRES.out]
                exact h9
              obtain ⟨t0, t1, t2⟩ := tcells3 C8.out.rd.blk
              clear hr1 hg1 hW hev
              go_upto_region 15 with fail
              rw [← HW8.out]
              clear q0 q1 q2 q3 fz hul
              go_wp2_with fail
              refine ce.mono ?_
              clear ce t0 t1 t2
              rintro e W9 ⟨rfl, hb9⟩
              have C9 : Hid (UBx w W9 p bs a4 r4 V0.heap.size 26 #[.slice none 0 0, .slice none 0 0, .slice none 0 0, .int .i64 0] #[.slice b0 n0 c0, .slice b5 n5 c5, .slice b6 n6 c6, .int .i64 x3]) := C8.out.below hb9
              have HK9 : Hid (wr.heap.size ≤ W9.heap.size ∧ ∀ q, wP.heap.size ≤ q → q < wr.heap.size → q ≠ V0.heap.size → W9.heap[q]? = wr.heap[q]?) := ⟨Nat.le_trans HK8.out.1 hb9.size, fun q h1 h2 h3 => (hb9.block q (Nat.lt_of_lt_of_le h2 HK8.out.1)).trans (HK8.out.2 q h1 h2 h3)⟩
              clear hb9
              by_cases he0 : ev = 0
              · have HE0 : Hid (ldE bs = 0) := HEV.out.symm.trans he0
                have hn0 : ((ev : Int) != 0) = false := by rw [he0]; rfl
                obtain ⟨hok, -⟩ := ldE_form HE0.out
                have hsm := rCode_small bs
                rw [HRES.out] at hok hsm
                simp only at hok hsm
                obtain ⟨R, hR⟩ : ∃ R, R = rightC ⟨x0, l, m, x3⟩ := ⟨_, rfl⟩
                have HRR : Hid (R = rightC (rCode bs).1) := by rw [HRES.out]; exact hR
                have cr : Calls Tryz.prog 25 #[.agg #[.slice b0 n0 c0, .slice b5 n5 c5, .slice b6 n6 c6, .int .i64 x3]] W9 fun e w' => e = .returned (.bool R) ∧ Below W9.heap.size W9 w' := by
                  rw [hR]; exact rfRight _ ⟨x0, l, m, x3⟩ b0 b5 b6 n0 c0 n5 c5 n6 c6 W9 (HC.out W9 HK9.out.1 HK9.out.2) hsm (okcd_ints hok) (okcd_few hok)
                obtain ⟨q0, q1, q2, q3⟩ := bcells4 C9.out.X
                clear hok hsm hR he0
                go_wp2_with fail
                refine cr.mono ?_
                clear cr q0 q1 q2 q3
                rintro e W10 ⟨rfl, hb10⟩
                have C10 : Hid (UBx w W10 p bs a4 r4 V0.heap.size 26 #[.slice none 0 0, .slice none 0 0, .slice none 0 0, .int .i64 0] #[.slice b0 n0 c0, .slice b5 n5 c5, .slice b6 n6 c6, .int .i64 x3]) := C9.out.below hb10
                have HK10 : Hid (wr.heap.size ≤ W10.heap.size ∧ ∀ q, wP.heap.size ≤ q → q < wr.heap.size → q ≠ V0.heap.size → W10.heap[q]? = wr.heap[q]?) := ⟨Nat.le_trans HK9.out.1 hb10.size, fun q h1 h2 h3 => (hb10.block q (Nat.lt_of_lt_of_le h2 HK9.out.1)).trans (HK9.out.2 q h1 h2 h3)⟩
                clear hb10
                obtain ⟨q0, q1, q2, q3⟩ := bcells4 C10.out.X
                obtain ⟨o0, o1, o2, o3⟩ := bcells4 C10.out.Y
                have g0 := cfrozen C10.out.Y 0
                have g1 := cfrozen C10.out.Y 1
                have g2 := cfrozen C10.out.Y 2
                have g3 := cfrozen C10.out.Y 3
                have hrl : w.heap.size < W10.heap.size := heap_lt C10.out.Y
                cases R with
                | false =>
                  obtain ⟨WE, hWE⟩ : ∃ WE, WE = ((((W10.setCell ⟨w.heap.size, 0, none⟩ (.slice none 0 0)).setCell ⟨w.heap.size, 1, none⟩ (.slice none 0 0)).setCell ⟨w.heap.size, 2, none⟩ (.slice none 0 0)).setCell ⟨w.heap.size, 3, none⟩ (.int .i64 0)) := ⟨_, rfl⟩
                  have HE : Hid (UBx w WE p bs a4 r4 V0.heap.size 26 #[.slice none 0 0, .slice none 0 0, .slice none 0 0, .int .i64 0] #[.slice b0 n0 c0, .slice b5 n5 c5, .slice b6 n6 c6, .int .i64 x3]) := by rw [hWE]; exact (((C10.out.storeY 0 _).storeY 1 _).storeY 2 _).storeY 3 _
                  obtain ⟨z0, z1, z2, z3⟩ := bcells4 HE.out.Y
                  have HWE : Hid (WE = ((((W10.setCell ⟨w.heap.size, 0, none⟩ (.slice none 0 0)).setCell ⟨w.heap.size, 1, none⟩ (.slice none 0 0)).setCell ⟨w.heap.size, 2, none⟩ (.slice none 0 0)).setCell ⟨w.heap.size, 3, none⟩ (.int .i64 0))) := hWE
                  rw [hWE] at z0 z1 z2 z3
                  clear hWE
                  go_wp2
                  refine bodyPost_ret (v := .tuple #[.agg #[.slice none 0 0, .slice none 0 0, .slice none 0 0, .int .i64 0], .int .i64 2]) (by simp [results, Tryz.results19, go_sem, z0, z1, z2, z3]) rfl ?_
                  rw [← HWE.out]
                  exact ⟨.inr (.inl ⟨HE0.out, HRR.out.symm, rfl⟩), grown_to_below HE.out.G (by have := HP.out; omega)⟩
                | true =>
                  obtain ⟨WE, hWE⟩ : ∃ WE, WE = ((((W10.setCell ⟨w.heap.size, 0, none⟩ (.slice b0 n0 c0)).setCell ⟨w.heap.size, 1, none⟩ (.slice b5 n5 c5)).setCell ⟨w.heap.size, 2, none⟩ (.slice b6 n6 c6)).setCell ⟨w.heap.size, 3, none⟩ (.int .i64 x3)) := ⟨_, rfl⟩
                  have HE : Hid (UBx w WE p bs a4 r4 V0.heap.size 26 #[.slice b0 n0 c0, .slice b5 n5 c5, .slice b6 n6 c6, .int .i64 x3] #[.slice b0 n0 c0, .slice b5 n5 c5, .slice b6 n6 c6, .int .i64 x3]) := by rw [hWE]; exact (((C10.out.storeY 0 _).storeY 1 _).storeY 2 _).storeY 3 _
                  obtain ⟨z0, z1, z2, z3⟩ := bcells4 HE.out.Y
                  have HWE : Hid (WE = ((((W10.setCell ⟨w.heap.size, 0, none⟩ (.slice b0 n0 c0)).setCell ⟨w.heap.size, 1, none⟩ (.slice b5 n5 c5)).setCell ⟨w.heap.size, 2, none⟩ (.slice b6 n6 c6)).setCell ⟨w.heap.size, 3, none⟩ (.int .i64 x3))) := hWE
                  have HCE : Hid (CodeIn (fun b => w.heap.size ≤ b) WE ⟨x0, l, m, x3⟩ (.slice b0 n0 c0) (.slice b5 n5 c5) (.slice b6 n6 c6)) := HC.out WE (by rw [hWE]; have := HK10.out.1; simp; omega) fun q h1 h2 h3 => by
                    have hne : q ≠ w.heap.size := by have := HP.out; have := HPS.out; omega
                    rw [hWE, heap_setCell_other _ _ _ _ hne, heap_setCell_other _ _ _ _ hne, heap_setCell_other _ _ _ _ hne, heap_setCell_other _ _ _ _ hne]
                    exact HK10.out.2 q h1 h2 h3
                  rw [hWE] at z0 z1 z2 z3
                  clear hWE
                  go_wp2
                  refine bodyPost_ret (v := .tuple #[.agg #[.slice b0 n0 c0, .slice b5 n5 c5, .slice b6 n6 c6, .int .i64 x3], .int .i64 0]) (by simp [results, Tryz.results19, go_sem, z0, z1, z2, z3]) rfl ?_
                  rw [← HWE.out]
                  refine ⟨.inr (.inr ⟨HE0.out, HRR.out.symm, b0, n0, c0, b5, n5, c5, b6, n6, c6, by rw [HRES.out], ?_⟩), grown_to_below HE.out.G (by have := HP.out; omega)⟩
                  rw [HRES.out]
                  exact HCE.out
              · have HNE : Hid (ldE bs ≠ 0) := fun h => he0 (HEV.out.trans h)
                have hn0 : ((ev : Int) != 0) = true := by rw [bne_iff_ne]; omega
                obtain ⟨o0, o1, o2, o3⟩ := bcells4 C9.out.Y
                have g0 := cfrozen C9.out.Y 0
                have g1 := cfrozen C9.out.Y 1
                have g2 := cfrozen C9.out.Y 2
                have g3 := cfrozen C9.out.Y 3
                have hrl : w.heap.size < W9.heap.size := heap_lt C9.out.Y
                obtain ⟨WE, hWE⟩ : ∃ WE, WE = ((((W9.setCell ⟨w.heap.size, 0, none⟩ (.slice none 0 0)).setCell ⟨w.heap.size, 1, none⟩ (.slice none 0 0)).setCell ⟨w.heap.size, 2, none⟩ (.slice none 0 0)).setCell ⟨w.heap.size, 3, none⟩ (.int .i64 0)) := ⟨_, rfl⟩
                have HE : Hid (UBx w WE p bs a4 r4 V0.heap.size 26 #[.slice none 0 0, .slice none 0 0, .slice none 0 0, .int .i64 0] #[.slice b0 n0 c0, .slice b5 n5 c5, .slice b6 n6 c6, .int .i64 x3]) := by rw [hWE]; exact (((C9.out.storeY 0 _).storeY 1 _).storeY 2 _).storeY 3 _
                obtain ⟨z0, z1, z2, z3⟩ := bcells4 HE.out.Y
                have HWE : Hid (WE = ((((W9.setCell ⟨w.heap.size, 0, none⟩ (.slice none 0 0)).setCell ⟨w.heap.size, 1, none⟩ (.slice none 0 0)).setCell ⟨w.heap.size, 2, none⟩ (.slice none 0 0)).setCell ⟨w.heap.size, 3, none⟩ (.int .i64 0))) := hWE
                rw [hWE] at z0 z1 z2 z3
                clear hWE he0
                go_wp2
                refine bodyPost_ret (v := .tuple #[.agg #[.slice none 0 0, .slice none 0 0, .slice none 0 0, .int .i64 0], .int .i64 (ev : Int)]) (by simp [results, Tryz.results19, go_sem, z0, z1, z2, z3]) rfl ?_
                rw [← HWE.out]
                exact ⟨.inl ⟨HNE.out, by rw [HEV.out]⟩, grown_to_below HE.out.G (by have := HP.out; omega)⟩
      · obtain rfl : i = nI := by omega
        have hi2 : ¬ (i : Int) < i := by omega
        clear hgo hi hB
        go_wp2_with fail
        refine cc.mono ?_
        clear cc
        rintro e V6 ⟨rfl, hr1, hg1⟩
        have C6 : Hid (UBx w V6 p bs aV rV' V0.heap.size 26 #[.slice none 0 0, .slice none 0 0, .slice none 0 0, .int .i64 0] #[.slice b0 n0 c0, .slice b5 n5 c5, .slice none 0 0, .int .i64 0]) := HB.out.call hr1 hg1
        have HSH6 : Hid (shapesIn (fun b => V5.heap.size ≤ b) V6 (.slice b5 n5 c5) l) := rowIn.kept HIN.out (shE_keeps _) hg1.size fun q hq hlt => hg1.block q hlt (by have := HRV.out; have := HUN.out; simp; omega)
        have HSS6 : Hid (strsIn (fun q => wP.heap.size ≤ q ∧ q < V0.heap.size) V6 (.slice b0 n0 c0) x0) := rowIn.kept HSS.out (strE_keeps _) hg1.size fun q hq hlt => hg1.block q hlt (by have := HPS.out; have := hq.1; simp; omega)
        have HU6 : Hid (V0.heap.size < V6.heap.size ∧ V5.heap.size ≤ V6.heap.size) := ⟨heap_lt C6.out.X, Nat.le_trans HLOW.out hg1.size⟩
        clear hr1 hg1 HB HX HL HIN HSS HLOW
        go_wp2
        go_loopw [9] (fun vi wr => ∃ (i : Nat) (m : List Un) (css : List (List Value)) (a' r' : Nat) (b n c : _), vi = .int .i64 (i : Int) ∧ LoopX (rUn bs) nV aV rV' i m a' r' ∧ UBx w wr p bs a' r' V0.heap.size 26 #[.slice none 0 0, .slice none 0 0, .slice none 0 0, .int .i64 0] #[.slice b0 n0 c0, .slice b5 n5 c5, .slice b n c, .int .i64 0] ∧ RowX coUn 7 V6.heap.size 58 (.slice b n c) wr m css ∧ Hid (∀ q, wP.heap.size ≤ q → q < V6.heap.size → q ≠ V0.heap.size → wr.heap[q]? = V6.heap[q]?)) (fun vi _ => nV - (intOf vi).toNat)
        case atStart => exact ⟨0, [], [], aV, rV', none, 0, 0, rfl, LoopX.start _ _ _ _, C6.out, RowX.start (Nat.le_refl _), fun q _ _ _ => rfl⟩
        case round =>
          obtain ⟨i2, m, css2, f', t', b6, n6, c6, rfl, hL, hB, hX, HMID⟩ := hrel
          have HB : Hid (UBx w wr p bs f' t' V0.heap.size 26 #[.slice none 0 0, .slice none 0 0, .slice none 0 0, .int .i64 0] #[.slice b0 n0 c0, .slice b5 n5 c5, .slice b6 n6 c6, .int .i64 0]) := hB
          have HX : Hid (RowX coUn 7 V6.heap.size 58 (.slice b6 n6 c6) wr m css2) := hX
          have hle := hL.le
          have hfew := hL.few
          by_cases hgo : i2 < nV ∧ t' = 0
          · obtain ⟨hi3, rfl⟩ := hgo
            have hi4 : (i2 : Int) < nV := by omega
            have cw := tkWell p bs f' 0 wr hB.rd
            rw [decide_eq_true rfl] at cw
            have HNX := hL.next hi3
            obtain ⟨y0, e1, s1, hy0⟩ : ∃ x ya yr, rUn bs f' 0 = (x, ya, yr) := ⟨_, _, _, rfl⟩
            have HY0 : Hid (rUn bs f' 0 = (y0, e1, s1)) := hy0
            rw [hy0] at HNX
            simp only at HNX
            have HNXT : Hid (LoopX (rUn bs) nV aV rV' (i2 + 1) (m ++ [y0]) e1 s1) := HNX
            have HFW : Hid (m.length ≤ 1048576) := by have := HNI.out; show _ ≤ _; omega
            have HLOW2 : Hid (V6.heap.size ≤ wr.heap.size) := hX.low
            clear hL hB hX hle hfew HNX hy0
            go_wp2_with fail
            refine cw.mono ?_
            clear cw
            rintro e w3 ⟨rfl, rfl⟩
            obtain ⟨w3, hw3⟩ : ∃ w3, w3 = wr := ⟨_, rfl⟩
            rw [← hw3] at HB HX HMID HLOW2 ⊢
            clear hw3
            have HB3 : Hid (UBx w w3 p bs f' 0 V0.heap.size 26 #[.slice none 0 0, .slice none 0 0, .slice none 0 0, .int .i64 0] #[.slice b0 n0 c0, .slice b5 n5 c5, .slice b6 n6 c6, .int .i64 0]) := HB.out
            have HX3 : Hid (RowX coUn 7 V6.heap.size 58 (.slice b6 n6 c6) w3 m css2) := HX.out
            have HM3 : Hid (∀ q, wP.heap.size ≤ q → q < V6.heap.size → q ≠ V0.heap.size → w3.heap[q]? = V6.heap[q]?) := HMID.out
            haveI hne : Nonempty (ClsP (fun _ => True)) := ⟨⟨w3, trivial⟩⟩
            have HTd : Hid (TkAt w3.drew p bs f' 0) := HB3.out.rd.kept rfl
            have q5 : w3.drew.cell? ⟨V0.heap.size, 2, none⟩ = some (.slice b6 n6 c6) := (bcells4 HB3.out.X).2.2.1
            have HC2 := tkUnit p bs f' 0 w3.drew HTd.out
            go_upto_region 13 with fail
            refine mix_begin (n := 8) (S := fun w' => ∃ c' : ClsP (fun _ => True), w' = c'.1) (by kernel_rfl) rfl rfl ?_
            refine mix_seg (fuel := 6) (fuel' := 8) (idx := [0, 2]) (by decide +kernel) rfl rfl rfl (fun _ _ _ _ _ h => h) ⟨⟨w3.drew, trivial⟩, rfl⟩ ?_
            show wpQuiet _ _ _ _ [_, _] _
            iterate 2 (go_big_quiet_step (fail))
            refine wpQuiet_nil ?_
            refine cmix_two (fuel := 5) (fuel' := 6) (i := 1) (k := 3) rfl rfl (by decide +kernel) rfl rfl rfl (by rfl) (by rfl) ?_ ?_
            · intro K hK
              go_simp
              refine hK.out _ _ ⟨⟨w3.drew, trivial⟩, rfl⟩ ?_
              clear hK K
              refine mix_loud (fuel := 4) (fuel' := 5) (i := 3) rfl (by decide +kernel) rfl rfl (by rfl) ?_
              intro K hK
              go_simp
              refine HC2.mono ?_
              rintro e z1 ⟨⟨bi, ni, ci, bv, nv, cv, rfl, hin4, hvn4⟩, hT4, hG4⟩
              rw [HY0.out] at hin4 hvn4 hT4
              simp only at hin4 hvn4 hT4
              have hG4' : w3.grownBy z1 (some p) := ⟨hG4.os, hG4.tape, hG4.output, hG4.size, hG4.block⟩
              have HBz : Hid (UBx w z1 p bs e1 s1 V0.heap.size 26 #[.slice none 0 0, .slice none 0 0, .slice none 0 0, .int .i64 0] #[.slice b0 n0 c0, .slice b5 n5 c5, .slice b6 n6 c6, .int .i64 0]) := HB3.out.call hT4 hG4'
              have HXz : Hid (RowX coUn 7 V6.heap.size 58 (.slice b6 n6 c6) z1 m css2) := HX3.out.keep lawUn hG4'.size fun q hq hlt => hG4'.block q hlt (by have := HRV.out; have := HU6.out; simp; omega)
              have HMz : Hid (∀ q, wP.heap.size ≤ q → q < V6.heap.size → q ≠ V0.heap.size → z1.heap[q]? = V6.heap[q]?) := fun q h1 h2 h3 => (hG4'.block q (by have := HLOW2.out; omega) (by have := HPS.out; simp; omega)).trans (HM3.out q h1 h2 h3)
              have HCO : Hid (coUn (fun b => w3.heap.size ≤ b) z1 y0 [.string (strB y0.name), .int .i64 y0.params, .int .i64 y0.slots, .int .i64 y0.stack, .bool y0.result, .slice bi ni ci, .slice bv nv cv]) := ⟨bi, ni, ci, bv, nv, cv, rfl, hin4, hvn4⟩
              have HG4 : Hid (w3.grownBy z1 (some p)) := hG4'
              rw [HY0.out]
              simp only [unV]
              clear hT4 hG4 hG4' hin4 hvn4
              (try go_simp)
              refine hK.out _ _ ⟨⟨z1, trivial⟩, rfl⟩ ?_
              clear hK K
              refine mix_loud (fuel := 3) (fuel' := 4) (i := 4) rfl (by decide +kernel) rfl rfl (by rfl) ?_
              intro K hK
              go_simp
              refine hK.out _ _ ⟨⟨_, trivial⟩, rfl⟩ ?_
              clear hK K
              refine mix_law (fuel := 2) (fuel' := 3) (i := 5) rfl (by decide +kernel) rfl rfl (by rfl) ?_
              intro K hK
              refine cstep_append_at (.tmp 52) (.tmp 55) 24 rfl (by rfl) V6.heap.size 58 iV (.agg #[.string ⟨#[]⟩, .int .i64 0, .int .i64 0, .int .i64 0, .bool false, .slice none 0 0, .slice none 0 0]) 7 96 Tryz.underlying24 hinfV hzV0 hzV1 hzV2 rfl (by decide) _ _ _ rfl (HXz.out.row.alloc _) ⟨z1.heap.size, 0, none⟩ 1 1 [.string (strB y0.name), .int .i64 y0.params, .int .i64 y0.slots, .int .i64 y0.stack, .bool y0.result, .slice bi ni ci, .slice bv nv cv] rfl rfl (rcells_new _ _ _) (by simp [Value.oneCell']) (by have := HFW.out; unfold maxLen; omega) (by have := HFW.out; omega) (by have := HXz.out.low; simp; omega) ?_
              intro v' z3 hown9 hgrow9 hloc9
              have hlk := HXz.out.lowkept (w1 := z1) rfl (Nat.le_refl _) hgrow9
              have HX9 : Hid (RowX coUn 7 V6.heap.size 58 v' z3 (m ++ [y0]) (css2 ++ [[.string (strB y0.name), .int .i64 y0.params, .int .i64 y0.slots, .int .i64 y0.stack, .bool y0.result, .slice bi ni ci, .slice bv nv cv]])) := HX3.out.snoc lawUn (w1 := z1) HG4.out.size (fun q hq hlt => HG4.out.block q hlt (by have := HRV.out; have := HU6.out; simp; omega)) HCO.out rfl hown9 hgrow9 hloc9
              have HB9 : Hid (UBx w z3 p bs e1 s1 V0.heap.size 26 #[.slice none 0 0, .slice none 0 0, .slice none 0 0, .int .i64 0] #[.slice b0 n0 c0, .slice b5 n5 c5, .slice b6 n6 c6, .int .i64 0]) := HBz.out.low HU6.out.1 hlk hgrow9.os hgrow9.tape hgrow9.output (by have := hgrow9.size; simp at this; omega)
              have HM9 : Hid (∀ q, wP.heap.size ≤ q → q < V6.heap.size → q ≠ V0.heap.size → z3.heap[q]? = V6.heap[q]?) := fun q h1 h2 h3 => (hlk q h2).trans (HMz.out q h1 h2 h3)
              obtain ⟨b9, n9, c9, rfl⟩ : ∃ b n c, v' = .slice b n c := by
                rcases HX9.out.row.2 with ⟨e, -⟩ | ⟨g, cp, cur, e, -⟩
                · exact ⟨_, _, _, e⟩
                · exact ⟨_, _, _, e⟩
              clear hown9 hgrow9 hloc9 hlk
              refine hK.out _ _ ⟨⟨z3, trivial⟩, rfl⟩ ?_
              clear hK K
              simp only [Act.put, List.setIfInBounds_toArray, List.set_cons_zero, List.set_cons_succ]
              refine mix_seg (fuel := 1) (fuel' := 2) (idx := [6]) (by decide +kernel) rfl rfl rfl (fun _ _ _ _ _ h => h) ⟨⟨z3, trivial⟩, rfl⟩ ?_
              show wpQuiet _ _ _ _ [_] _
              iterate 1 (go_big_quiet_step (fail))
              refine wpQuiet_nil ?_
              have q7 : z3.cell? ⟨V0.heap.size, 2, none⟩ = some (.slice b6 n6 c6) := (bcells4 HB9.out.X).2.2.1
              have fz7 := cfrozen HB9.out.X 2
              refine mix_loud (fuel := 0) (fuel' := 1) (i := 7) rfl (by decide +kernel) rfl rfl (by rfl) ?_
              intro K hK
              go_simp
              refine hK.out _ _ ⟨⟨_, trivial⟩, rfl⟩ ?_
              clear hK K q7 fz7
              refine mix_done (by kernel_rfl) ?_
              have HB10 : Hid (UBx w (z3.setCell ⟨V0.heap.size, 2, none⟩ (.slice b9 n9 c9)) p bs e1 s1 V0.heap.size 26 #[.slice none 0 0, .slice none 0 0, .slice none 0 0, .int .i64 0] #[.slice b0 n0 c0, .slice b5 n5 c5, .slice b9 n9 c9, .int .i64 0]) := HB9.out.store 2 _
              have HX10 : Hid (RowX coUn 7 V6.heap.size 58 (.slice b9 n9 c9) (z3.setCell ⟨V0.heap.size, 2, none⟩ (.slice b9 n9 c9)) (m ++ [y0]) (css2 ++ [[.string (strB y0.name), .int .i64 y0.params, .int .i64 y0.slots, .int .i64 y0.stack, .bool y0.result, .slice bi ni ci, .slice bv nv cv]])) := HX9.out.keep lawUn (by simp) fun q hq _ => heap_setCell_other _ _ _ _ (by have := HU6.out; simp; omega)
              have HM10 : Hid (∀ q, wP.heap.size ≤ q → q < V6.heap.size → q ≠ V0.heap.size → (z3.setCell ⟨V0.heap.size, 2, none⟩ (.slice b9 n9 c9)).heap[q]? = V6.heap[q]?) := fun q h1 h2 h3 => (heap_setCell_other _ _ _ _ (by simp; omega)).trans (HM9.out q h1 h2 h3)
              go_wp2
              exact ⟨⟨i2 + 1, _, _, e1, s1, b9, n9, c9, by go_num, HNXT.out, HB10.out, HX10.out, HM10⟩, by simp [intOf]; omega⟩
            · intro K hK
              go_simp
              refine HC2.mono ?_
              rintro e z1 ⟨⟨bi, ni, ci, bv, nv, cv, rfl, hin4, hvn4⟩, hT4, hG4⟩
              rw [HY0.out] at hin4 hvn4 hT4
              simp only at hin4 hvn4 hT4
              have hG4' : w3.grownBy z1 (some p) := ⟨hG4.os, hG4.tape, hG4.output, hG4.size, hG4.block⟩
              have HBz : Hid (UBx w z1 p bs e1 s1 V0.heap.size 26 #[.slice none 0 0, .slice none 0 0, .slice none 0 0, .int .i64 0] #[.slice b0 n0 c0, .slice b5 n5 c5, .slice b6 n6 c6, .int .i64 0]) := HB3.out.call hT4 hG4'
              have HXz : Hid (RowX coUn 7 V6.heap.size 58 (.slice b6 n6 c6) z1 m css2) := HX3.out.keep lawUn hG4'.size fun q hq hlt => hG4'.block q hlt (by have := HRV.out; have := HU6.out; simp; omega)
              have HMz : Hid (∀ q, wP.heap.size ≤ q → q < V6.heap.size → q ≠ V0.heap.size → z1.heap[q]? = V6.heap[q]?) := fun q h1 h2 h3 => (hG4'.block q (by have := HLOW2.out; omega) (by have := HPS.out; simp; omega)).trans (HM3.out q h1 h2 h3)
              have HCO : Hid (coUn (fun b => w3.heap.size ≤ b) z1 y0 [.string (strB y0.name), .int .i64 y0.params, .int .i64 y0.slots, .int .i64 y0.stack, .bool y0.result, .slice bi ni ci, .slice bv nv cv]) := ⟨bi, ni, ci, bv, nv, cv, rfl, hin4, hvn4⟩
              have HG4 : Hid (w3.grownBy z1 (some p)) := hG4'
              rw [HY0.out]
              simp only [unV]
              clear hT4 hG4 hG4' hin4 hvn4
              (try go_simp)
              refine hK.out _ _ ⟨⟨z1, trivial⟩, rfl⟩ ?_
              clear hK K
              have q6 : z1.cell? ⟨V0.heap.size, 2, none⟩ = some (.slice b6 n6 c6) := (bcells4 HBz.out.X).2.2.1
              have hul6 : V0.heap.size < z1.heap.size := heap_lt HBz.out.X
              refine cmix_two (fuel := 4) (fuel' := 5) (i := 1) (k := 4) rfl rfl (by decide +kernel) rfl rfl rfl (by rfl) (by rfl) ?_ ?_
              · intro K hK
                go_simp
                refine hK.out _ _ ⟨⟨z1, trivial⟩, rfl⟩ ?_
                clear hK K q6 hul6
                refine mix_loud (fuel := 3) (fuel' := 4) (i := 4) rfl (by decide +kernel) rfl rfl (by rfl) ?_
                intro K hK
                go_simp
                refine hK.out _ _ ⟨⟨_, trivial⟩, rfl⟩ ?_
                clear hK K
                refine mix_law (fuel := 2) (fuel' := 3) (i := 5) rfl (by decide +kernel) rfl rfl (by rfl) ?_
                intro K hK
                refine cstep_append_at (.tmp 52) (.tmp 55) 24 rfl (by rfl) V6.heap.size 58 iV (.agg #[.string ⟨#[]⟩, .int .i64 0, .int .i64 0, .int .i64 0, .bool false, .slice none 0 0, .slice none 0 0]) 7 96 Tryz.underlying24 hinfV hzV0 hzV1 hzV2 rfl (by decide) _ _ _ rfl (HXz.out.row.alloc _) ⟨z1.heap.size, 0, none⟩ 1 1 [.string (strB y0.name), .int .i64 y0.params, .int .i64 y0.slots, .int .i64 y0.stack, .bool y0.result, .slice bi ni ci, .slice bv nv cv] rfl rfl (rcells_new _ _ _) (by simp [Value.oneCell']) (by have := HFW.out; unfold maxLen; omega) (by have := HFW.out; omega) (by have := HXz.out.low; simp; omega) ?_
                intro v' z3 hown9 hgrow9 hloc9
                have hlk := HXz.out.lowkept (w1 := z1) rfl (Nat.le_refl _) hgrow9
                have HX9 : Hid (RowX coUn 7 V6.heap.size 58 v' z3 (m ++ [y0]) (css2 ++ [[.string (strB y0.name), .int .i64 y0.params, .int .i64 y0.slots, .int .i64 y0.stack, .bool y0.result, .slice bi ni ci, .slice bv nv cv]])) := HX3.out.snoc lawUn (w1 := z1) HG4.out.size (fun q hq hlt => HG4.out.block q hlt (by have := HRV.out; have := HU6.out; simp; omega)) HCO.out rfl hown9 hgrow9 hloc9
                have HB9 : Hid (UBx w z3 p bs e1 s1 V0.heap.size 26 #[.slice none 0 0, .slice none 0 0, .slice none 0 0, .int .i64 0] #[.slice b0 n0 c0, .slice b5 n5 c5, .slice b6 n6 c6, .int .i64 0]) := HBz.out.low HU6.out.1 hlk hgrow9.os hgrow9.tape hgrow9.output (by have := hgrow9.size; simp at this; omega)
                have HM9 : Hid (∀ q, wP.heap.size ≤ q → q < V6.heap.size → q ≠ V0.heap.size → z3.heap[q]? = V6.heap[q]?) := fun q h1 h2 h3 => (hlk q h2).trans (HMz.out q h1 h2 h3)
                obtain ⟨b9, n9, c9, rfl⟩ : ∃ b n c, v' = .slice b n c := by
                  rcases HX9.out.row.2 with ⟨e, -⟩ | ⟨g, cp, cur, e, -⟩
                  · exact ⟨_, _, _, e⟩
                  · exact ⟨_, _, _, e⟩
                clear hown9 hgrow9 hloc9 hlk
                refine hK.out _ _ ⟨⟨z3, trivial⟩, rfl⟩ ?_
                clear hK K
                simp only [Act.put, List.setIfInBounds_toArray, List.set_cons_zero, List.set_cons_succ]
                refine mix_seg (fuel := 1) (fuel' := 2) (idx := [6]) (by decide +kernel) rfl rfl rfl (fun _ _ _ _ _ h => h) ⟨⟨z3, trivial⟩, rfl⟩ ?_
                show wpQuiet _ _ _ _ [_] _
                iterate 1 (go_big_quiet_step (fail))
                refine wpQuiet_nil ?_
                have q7 : z3.cell? ⟨V0.heap.size, 2, none⟩ = some (.slice b6 n6 c6) := (bcells4 HB9.out.X).2.2.1
                have fz7 := cfrozen HB9.out.X 2
                refine mix_loud (fuel := 0) (fuel' := 1) (i := 7) rfl (by decide +kernel) rfl rfl (by rfl) ?_
                intro K hK
                go_simp
                refine hK.out _ _ ⟨⟨_, trivial⟩, rfl⟩ ?_
                clear hK K q7 fz7
                refine mix_done (by kernel_rfl) ?_
                have HB10 : Hid (UBx w (z3.setCell ⟨V0.heap.size, 2, none⟩ (.slice b9 n9 c9)) p bs e1 s1 V0.heap.size 26 #[.slice none 0 0, .slice none 0 0, .slice none 0 0, .int .i64 0] #[.slice b0 n0 c0, .slice b5 n5 c5, .slice b9 n9 c9, .int .i64 0]) := HB9.out.store 2 _
                have HX10 : Hid (RowX coUn 7 V6.heap.size 58 (.slice b9 n9 c9) (z3.setCell ⟨V0.heap.size, 2, none⟩ (.slice b9 n9 c9)) (m ++ [y0]) (css2 ++ [[.string (strB y0.name), .int .i64 y0.params, .int .i64 y0.slots, .int .i64 y0.stack, .bool y0.result, .slice bi ni ci, .slice bv nv cv]])) := HX9.out.keep lawUn (by simp) fun q hq _ => heap_setCell_other _ _ _ _ (by have := HU6.out; simp; omega)
                have HM10 : Hid (∀ q, wP.heap.size ≤ q → q < V6.heap.size → q ≠ V0.heap.size → (z3.setCell ⟨V0.heap.size, 2, none⟩ (.slice b9 n9 c9)).heap[q]? = V6.heap[q]?) := fun q h1 h2 h3 => (heap_setCell_other _ _ _ _ (by simp; omega)).trans (HM9.out q h1 h2 h3)
                go_wp2
                exact ⟨⟨i2 + 1, _, _, e1, s1, b9, n9, c9, by go_num, HNXT.out, HB10.out, HX10.out, HM10⟩, by simp [intOf]; omega⟩
              · intro K hK
                go_simp
                refine hK.out _ _ ⟨⟨_, trivial⟩, rfl⟩ ?_
                clear hK K
                refine mix_loud (fuel := 3) (fuel' := 4) (i := 1) rfl (by decide +kernel) rfl rfl (by rfl) ?_
                intro K hK
                go_simp
                refine hK.out _ _ ⟨⟨_, trivial⟩, rfl⟩ ?_
                clear hK K
                clear q6 hul6
                refine mix_law (fuel := 2) (fuel' := 3) (i := 5) rfl (by decide +kernel) rfl rfl (by rfl) ?_
                intro K hK
                refine cstep_append_at (.tmp 52) (.tmp 55) 24 rfl (by rfl) V6.heap.size 58 iV (.agg #[.string ⟨#[]⟩, .int .i64 0, .int .i64 0, .int .i64 0, .bool false, .slice none 0 0, .slice none 0 0]) 7 96 Tryz.underlying24 hinfV hzV0 hzV1 hzV2 rfl (by decide) _ _ _ rfl (HXz.out.row.alloc _) ⟨z1.heap.size, 0, none⟩ 1 1 [.string (strB y0.name), .int .i64 y0.params, .int .i64 y0.slots, .int .i64 y0.stack, .bool y0.result, .slice bi ni ci, .slice bv nv cv] rfl rfl (rcells_new _ _ _) (by simp [Value.oneCell']) (by have := HFW.out; unfold maxLen; omega) (by have := HFW.out; omega) (by have := HXz.out.low; simp; omega) ?_
                intro v' z3 hown9 hgrow9 hloc9
                have hlk := HXz.out.lowkept (w1 := z1) rfl (Nat.le_refl _) hgrow9
                have HX9 : Hid (RowX coUn 7 V6.heap.size 58 v' z3 (m ++ [y0]) (css2 ++ [[.string (strB y0.name), .int .i64 y0.params, .int .i64 y0.slots, .int .i64 y0.stack, .bool y0.result, .slice bi ni ci, .slice bv nv cv]])) := HX3.out.snoc lawUn (w1 := z1) HG4.out.size (fun q hq hlt => HG4.out.block q hlt (by have := HRV.out; have := HU6.out; simp; omega)) HCO.out rfl hown9 hgrow9 hloc9
                have HB9 : Hid (UBx w z3 p bs e1 s1 V0.heap.size 26 #[.slice none 0 0, .slice none 0 0, .slice none 0 0, .int .i64 0] #[.slice b0 n0 c0, .slice b5 n5 c5, .slice b6 n6 c6, .int .i64 0]) := HBz.out.low HU6.out.1 hlk hgrow9.os hgrow9.tape hgrow9.output (by have := hgrow9.size; simp at this; omega)
                have HM9 : Hid (∀ q, wP.heap.size ≤ q → q < V6.heap.size → q ≠ V0.heap.size → z3.heap[q]? = V6.heap[q]?) := fun q h1 h2 h3 => (hlk q h2).trans (HMz.out q h1 h2 h3)
                obtain ⟨b9, n9, c9, rfl⟩ : ∃ b n c, v' = .slice b n c := by
                  rcases HX9.out.row.2 with ⟨e, -⟩ | ⟨g, cp, cur, e, -⟩
                  · exact ⟨_, _, _, e⟩
                  · exact ⟨_, _, _, e⟩
                clear hown9 hgrow9 hloc9 hlk
                refine hK.out _ _ ⟨⟨z3, trivial⟩, rfl⟩ ?_
                clear hK K
                simp only [Act.put, List.setIfInBounds_toArray, List.set_cons_zero, List.set_cons_succ]
                refine mix_seg (fuel := 1) (fuel' := 2) (idx := [6]) (by decide +kernel) rfl rfl rfl (fun _ _ _ _ _ h => h) ⟨⟨z3, trivial⟩, rfl⟩ ?_
                show wpQuiet _ _ _ _ [_] _
                iterate 1 (go_big_quiet_step (fail))
                refine wpQuiet_nil ?_
                have q7 : z3.cell? ⟨V0.heap.size, 2, none⟩ = some (.slice b6 n6 c6) := (bcells4 HB9.out.X).2.2.1
                have fz7 := cfrozen HB9.out.X 2
                refine mix_loud (fuel := 0) (fuel' := 1) (i := 7) rfl (by decide +kernel) rfl rfl (by rfl) ?_
                intro K hK
                go_simp
                refine hK.out _ _ ⟨⟨_, trivial⟩, rfl⟩ ?_
                clear hK K q7 fz7
                refine mix_done (by kernel_rfl) ?_
                have HB10 : Hid (UBx w (z3.setCell ⟨V0.heap.size, 2, none⟩ (.slice b9 n9 c9)) p bs e1 s1 V0.heap.size 26 #[.slice none 0 0, .slice none 0 0, .slice none 0 0, .int .i64 0] #[.slice b0 n0 c0, .slice b5 n5 c5, .slice b9 n9 c9, .int .i64 0]) := HB9.out.store 2 _
                have HX10 : Hid (RowX coUn 7 V6.heap.size 58 (.slice b9 n9 c9) (z3.setCell ⟨V0.heap.size, 2, none⟩ (.slice b9 n9 c9)) (m ++ [y0]) (css2 ++ [[.string (strB y0.name), .int .i64 y0.params, .int .i64 y0.slots, .int .i64 y0.stack, .bool y0.result, .slice bi ni ci, .slice bv nv cv]])) := HX9.out.keep lawUn (by simp) fun q hq _ => heap_setCell_other _ _ _ _ (by have := HU6.out; simp; omega)
                have HM10 : Hid (∀ q, wP.heap.size ≤ q → q < V6.heap.size → q ≠ V0.heap.size → (z3.setCell ⟨V0.heap.size, 2, none⟩ (.slice b9 n9 c9)).heap[q]? = V6.heap[q]?) := fun q h1 h2 h3 => (heap_setCell_other _ _ _ _ (by simp; omega)).trans (HM9.out q h1 h2 h3)
                go_wp2
                exact ⟨⟨i2 + 1, _, _, e1, s1, b9, n9, c9, by go_num, HNXT.out, HB10.out, HX10.out, HM10⟩, by simp [intOf]; omega⟩
          · have hend : loopR (rUn bs) nV aV rV' = (m, f', t') := by
              by_cases hi : i2 < nV
              · exact hL.bad fun e => hgo ⟨hi, e⟩
              · obtain rfl : i2 = nV := by omega
                exact hL.last
            have h9 := HX2.out
            rw [hend] at h9
            obtain ⟨rfl, h10⟩ := Prod.mk.inj h9
            obtain ⟨rfl, rfl⟩ := Prod.mk.inj h10
            have HUNI : Hid (unitsIn (fun b => V6.heap.size ≤ b) wr (.slice b6 n6 c6) m) := hX.rowIn lawUn (E := unE _) fun x cs b o hco hcs => by
              obtain ⟨g1, g2, g3, g4, g5, g6, e, hs1, hs2⟩ := hco
              subst e
              exact ⟨hcs 0 (by simp), hcs 1 (by simp), hcs 2 (by simp), hcs 3 (by simp), hcs 4 (by simp), ⟨_, hcs 5 (by simp), hs1⟩, _, hcs 6 (by simp), hs2⟩
            have HLOW2 : Hid (V6.heap.size ≤ wr.heap.size) := hX.low
            have HSH7 : Hid (shapesIn (fun b => V5.heap.size ≤ b ∧ b < V6.heap.size) wr (.slice b5 n5 c5) l) := by
              have i1 := rowIn.wide (S' := fun b => V5.heap.size ≤ b ∧ b < V6.heap.size) HSH6.out (fun q hq hS => ⟨hS, hq⟩) (shE_wide (S' := fun b => V5.heap.size ≤ b ∧ b < V6.heap.size) fun q hq hS => ⟨hS, hq⟩)
              exact rowIn.kept i1 (shE_keeps _) hX.low fun q hq hlt => HMID.out q (by have := hq.1; have := HUN.out; have := HRV.out; omega) hlt (by have := hq.1; have := HUN.out; omega)
            have HSS7 : Hid (strsIn (fun q => wP.heap.size ≤ q ∧ q < V0.heap.size) wr (.slice b0 n0 c0) x0) := rowIn.kept HSS6.out (strE_keeps _) hX.low fun q hq hlt => HMID.out q hq.1 hlt (by have := hq.2; omega)
            have cn := tkNum p bs f' t' wr hB.rd
            rw [HX3'.out] at cn
            simp only at cn
            have HC : Hid (∀ W, wr.heap.size ≤ W.heap.size → (∀ q, wP.heap.size ≤ q → q < wr.heap.size → q ≠ V0.heap.size → W.heap[q]? = wr.heap[q]?) → CodeIn (fun b => w.heap.size ≤ b) W ⟨x0, l, m, x3⟩ (.slice b0 n0 c0) (.slice b5 n5 c5) (.slice b6 n6 c6)) := fun W hs hk => by
              have hp := HP.out
              have hps := HPS.out
              have h1 := HUN.out
              have h2 := HU6.out
              have h3 := HRV.out
              refine ⟨?_, ?_, ?_⟩
              · exact rowIn.wide (rowIn.kept HSS7.out (strE_keeps _) hs fun q hq hlt => hk q hq.1 hlt (by have := hq.2; omega)) (fun q _ hq => by have := hq.1; omega) fun _ _ _ h => h
              · exact rowIn.wide (rowIn.kept HSH7.out (shE_keeps _) hs fun q hq hlt => hk q (by have := hq.1; omega) hlt (by have := hq.1; omega)) (fun q _ hq => by have := hq.1; omega) (shE_wide fun q _ hq => by have := hq.1; omega)
              · exact rowIn.wide (rowIn.kept HUNI.out (unE_keeps _) hs fun q hq hlt => hk q (by omega) hlt (by omega)) (fun q _ hq => by omega) (unE_wide fun q _ hq => by omega)
            have hwell : ∀ P : Prop, P → P := fun _ h => h
            clear hL hX hend h9 h10 hfew HX2 HMID hwell
            by_cases hi : i2 < nV
            · have hi4 : (i2 : Int) < nV := by omega
              have cw := tkWell p bs f' t' wr hB.rd
              have hr : t' ≠ 0 := fun e => hgo ⟨hi, e⟩
              rw [decide_eq_false hr] at cw
              clear hgo hr hB
              go_wp2_with fail
              refine cw.mono ?_
              clear cw
              rintro e w2 ⟨rfl, rfl⟩
              go_wp2_with fail
              refine cn.mono ?_
              clear cn
              rintro e V7 ⟨rfl, hr1, hg1⟩
              have C7 : Hid (UBx w V7 p bs a4 r4 V0.heap.size 26 #[.slice none 0 0, .slice none 0 0, .slice none 0 0, .int .i64 0] #[.slice b0 n0 c0, .slice b5 n5 c5, .slice b6 n6 c6, .int .i64 0]) := HB.out.call hr1 hg1
              obtain ⟨W8, hW⟩ : ∃ W, W = V7.setCell ⟨V0.heap.size, 3, none⟩ (.int .i64 x3) := ⟨_, rfl⟩
              have HW8 : Hid (W8 = V7.setCell ⟨V0.heap.size, 3, none⟩ (.int .i64 x3)) := hW
              have C8 : Hid (UBx w W8 p bs a4 r4 V0.heap.size 26 #[.slice none 0 0, .slice none 0 0, .slice none 0 0, .int .i64 0] #[.slice b0 n0 c0, .slice b5 n5 c5, .slice b6 n6 c6, .int .i64 x3]) := by rw [hW]; exact C7.out.store 3 _
              have HK8 : Hid (wr.heap.size ≤ W8.heap.size ∧ ∀ q, wP.heap.size ≤ q → q < wr.heap.size → q ≠ V0.heap.size → W8.heap[q]? = wr.heap[q]?) := ⟨by rw [hW]; have := hg1.size; simp; omega, fun q h1 h2 h3 => by rw [hW, heap_setCell_other _ _ _ _ h3]; exact hg1.block q h2 (by have := HPS.out; simp; omega)⟩
              obtain ⟨q0, q1, q2, q3⟩ := bcells4 C7.out.X
              have fz := cfrozen C7.out.X 3
              have hul : V0.heap.size < V7.heap.size := heap_lt C7.out.X
              obtain ⟨ev, hev⟩ : ∃ ev, ev = ldE bs := ⟨_, rfl⟩
              have HEV : Hid (ev = ldE bs) := hev
              have ce : Calls Tryz.prog 59 #[.agg #[.string (strB bs), .int .i64 (a4 : Nat), .int .i64 (r4 : Nat)]] W8 fun e w' => e = .returned (.int .i64 (ev : Nat)) ∧ Below W8.heap.size W8 w' := by
                have h9 := refREnd_any (strB bs) a4 r4 W8
                rw [strB_size] at h9
                rw [hev]
                unfold ldE
                rw [HRES.out]
                exact h9
              obtain ⟨t0, t1, t2⟩ := tcells3 C8.out.rd.blk
              clear hr1 hg1 hW hev
              go_upto_region 15 with fail
              rw [← HW8.out]
              clear q0 q1 q2 q3 fz hul
              go_wp2_with fail
              refine ce.mono ?_
              clear ce t0 t1 t2
              rintro e W9 ⟨rfl, hb9⟩
              have C9 : Hid (UBx w W9 p bs a4 r4 V0.heap.size 26 #[.slice none 0 0, .slice none 0 0, .slice none 0 0, .int .i64 0] #[.slice b0 n0 c0, .slice b5 n5 c5, .slice b6 n6 c6, .int .i64 x3]) := C8.out.below hb9
              have HK9 : Hid (wr.heap.size ≤ W9.heap.size ∧ ∀ q, wP.heap.size ≤ q → q < wr.heap.size → q ≠ V0.heap.size → W9.heap[q]? = wr.heap[q]?) := ⟨Nat.le_trans HK8.out.1 hb9.size, fun q h1 h2 h3 => (hb9.block q (Nat.lt_of_lt_of_le h2 HK8.out.1)).trans (HK8.out.2 q h1 h2 h3)⟩
              clear hb9
              by_cases he0 : ev = 0
              · have HE0 : Hid (ldE bs = 0) := HEV.out.symm.trans he0
                have hn0 : ((ev : Int) != 0) = false := by rw [he0]; rfl
                obtain ⟨hok, -⟩ := ldE_form HE0.out
                have hsm := rCode_small bs
                rw [HRES.out] at hok hsm
                simp only at hok hsm
                obtain ⟨R, hR⟩ : ∃ R, R = rightC ⟨x0, l, m, x3⟩ := ⟨_, rfl⟩
                have HRR : Hid (R = rightC (rCode bs).1) := by rw [HRES.out]; exact hR
                have cr : Calls Tryz.prog 25 #[.agg #[.slice b0 n0 c0, .slice b5 n5 c5, .slice b6 n6 c6, .int .i64 x3]] W9 fun e w' => e = .returned (.bool R) ∧ Below W9.heap.size W9 w' := by
                  rw [hR]; exact rfRight _ ⟨x0, l, m, x3⟩ b0 b5 b6 n0 c0 n5 c5 n6 c6 W9 (HC.out W9 HK9.out.1 HK9.out.2) hsm (okcd_ints hok) (okcd_few hok)
                obtain ⟨q0, q1, q2, q3⟩ := bcells4 C9.out.X
                clear hok hsm hR he0
                go_wp2_with fail
                refine cr.mono ?_
                clear cr q0 q1 q2 q3
                rintro e W10 ⟨rfl, hb10⟩
                have C10 : Hid (UBx w W10 p bs a4 r4 V0.heap.size 26 #[.slice none 0 0, .slice none 0 0, .slice none 0 0, .int .i64 0] #[.slice b0 n0 c0, .slice b5 n5 c5, .slice b6 n6 c6, .int .i64 x3]) := C9.out.below hb10
                have HK10 : Hid (wr.heap.size ≤ W10.heap.size ∧ ∀ q, wP.heap.size ≤ q → q < wr.heap.size → q ≠ V0.heap.size → W10.heap[q]? = wr.heap[q]?) := ⟨Nat.le_trans HK9.out.1 hb10.size, fun q h1 h2 h3 => (hb10.block q (Nat.lt_of_lt_of_le h2 HK9.out.1)).trans (HK9.out.2 q h1 h2 h3)⟩
                clear hb10
                obtain ⟨q0, q1, q2, q3⟩ := bcells4 C10.out.X
                obtain ⟨o0, o1, o2, o3⟩ := bcells4 C10.out.Y
                have g0 := cfrozen C10.out.Y 0
                have g1 := cfrozen C10.out.Y 1
                have g2 := cfrozen C10.out.Y 2
                have g3 := cfrozen C10.out.Y 3
                have hrl : w.heap.size < W10.heap.size := heap_lt C10.out.Y
                cases R with
                | false =>
                  obtain ⟨WE, hWE⟩ : ∃ WE, WE = ((((W10.setCell ⟨w.heap.size, 0, none⟩ (.slice none 0 0)).setCell ⟨w.heap.size, 1, none⟩ (.slice none 0 0)).setCell ⟨w.heap.size, 2, none⟩ (.slice none 0 0)).setCell ⟨w.heap.size, 3, none⟩ (.int .i64 0)) := ⟨_, rfl⟩
                  have HE : Hid (UBx w WE p bs a4 r4 V0.heap.size 26 #[.slice none 0 0, .slice none 0 0, .slice none 0 0, .int .i64 0] #[.slice b0 n0 c0, .slice b5 n5 c5, .slice b6 n6 c6, .int .i64 x3]) := by rw [hWE]; exact (((C10.out.storeY 0 _).storeY 1 _).storeY 2 _).storeY 3 _
                  obtain ⟨z0, z1, z2, z3⟩ := bcells4 HE.out.Y
                  have HWE : Hid (WE = ((((W10.setCell ⟨w.heap.size, 0, none⟩ (.slice none 0 0)).setCell ⟨w.heap.size, 1, none⟩ (.slice none 0 0)).setCell ⟨w.heap.size, 2, none⟩ (.slice none 0 0)).setCell ⟨w.heap.size, 3, none⟩ (.int .i64 0))) := hWE
                  rw [hWE] at z0 z1 z2 z3
                  clear hWE
                  go_wp2
                  refine bodyPost_ret (v := .tuple #[.agg #[.slice none 0 0, .slice none 0 0, .slice none 0 0, .int .i64 0], .int .i64 2]) (by simp [results, Tryz.results19, go_sem, z0, z1, z2, z3]) rfl ?_
                  rw [← HWE.out]
                  exact ⟨.inr (.inl ⟨HE0.out, HRR.out.symm, rfl⟩), grown_to_below HE.out.G (by have := HP.out; omega)⟩
                | true =>
                  obtain ⟨WE, hWE⟩ : ∃ WE, WE = ((((W10.setCell ⟨w.heap.size, 0, none⟩ (.slice b0 n0 c0)).setCell ⟨w.heap.size, 1, none⟩ (.slice b5 n5 c5)).setCell ⟨w.heap.size, 2, none⟩ (.slice b6 n6 c6)).setCell ⟨w.heap.size, 3, none⟩ (.int .i64 x3)) := ⟨_, rfl⟩
                  have HE : Hid (UBx w WE p bs a4 r4 V0.heap.size 26 #[.slice b0 n0 c0, .slice b5 n5 c5, .slice b6 n6 c6, .int .i64 x3] #[.slice b0 n0 c0, .slice b5 n5 c5, .slice b6 n6 c6, .int .i64 x3]) := by rw [hWE]; exact (((C10.out.storeY 0 _).storeY 1 _).storeY 2 _).storeY 3 _
                  obtain ⟨z0, z1, z2, z3⟩ := bcells4 HE.out.Y
                  have HWE : Hid (WE = ((((W10.setCell ⟨w.heap.size, 0, none⟩ (.slice b0 n0 c0)).setCell ⟨w.heap.size, 1, none⟩ (.slice b5 n5 c5)).setCell ⟨w.heap.size, 2, none⟩ (.slice b6 n6 c6)).setCell ⟨w.heap.size, 3, none⟩ (.int .i64 x3))) := hWE
                  have HCE : Hid (CodeIn (fun b => w.heap.size ≤ b) WE ⟨x0, l, m, x3⟩ (.slice b0 n0 c0) (.slice b5 n5 c5) (.slice b6 n6 c6)) := HC.out WE (by rw [hWE]; have := HK10.out.1; simp; omega) fun q h1 h2 h3 => by
                    have hne : q ≠ w.heap.size := by have := HP.out; have := HPS.out; omega
                    rw [hWE, heap_setCell_other _ _ _ _ hne, heap_setCell_other _ _ _ _ hne, heap_setCell_other _ _ _ _ hne, heap_setCell_other _ _ _ _ hne]
                    exact HK10.out.2 q h1 h2 h3
                  rw [hWE] at z0 z1 z2 z3
                  clear hWE
                  go_wp2
                  refine bodyPost_ret (v := .tuple #[.agg #[.slice b0 n0 c0, .slice b5 n5 c5, .slice b6 n6 c6, .int .i64 x3], .int .i64 0]) (by simp [results, Tryz.results19, go_sem, z0, z1, z2, z3]) rfl ?_
                  rw [← HWE.out]
                  refine ⟨.inr (.inr ⟨HE0.out, HRR.out.symm, b0, n0, c0, b5, n5, c5, b6, n6, c6, by rw [HRES.out], ?_⟩), grown_to_below HE.out.G (by have := HP.out; omega)⟩
                  rw [HRES.out]
                  exact HCE.out
              · have HNE : Hid (ldE bs ≠ 0) := fun h => he0 (HEV.out.trans h)
                have hn0 : ((ev : Int) != 0) = true := by rw [bne_iff_ne]; omega
                obtain ⟨o0, o1, o2, o3⟩ := bcells4 C9.out.Y
                have g0 := cfrozen C9.out.Y 0
                have g1 := cfrozen C9.out.Y 1
                have g2 := cfrozen C9.out.Y 2
                have g3 := cfrozen C9.out.Y 3
                have hrl : w.heap.size < W9.heap.size := heap_lt C9.out.Y
                obtain ⟨WE, hWE⟩ : ∃ WE, WE = ((((W9.setCell ⟨w.heap.size, 0, none⟩ (.slice none 0 0)).setCell ⟨w.heap.size, 1, none⟩ (.slice none 0 0)).setCell ⟨w.heap.size, 2, none⟩ (.slice none 0 0)).setCell ⟨w.heap.size, 3, none⟩ (.int .i64 0)) := ⟨_, rfl⟩
                have HE : Hid (UBx w WE p bs a4 r4 V0.heap.size 26 #[.slice none 0 0, .slice none 0 0, .slice none 0 0, .int .i64 0] #[.slice b0 n0 c0, .slice b5 n5 c5, .slice b6 n6 c6, .int .i64 x3]) := by rw [hWE]; exact (((C9.out.storeY 0 _).storeY 1 _).storeY 2 _).storeY 3 _
                obtain ⟨z0, z1, z2, z3⟩ := bcells4 HE.out.Y
                have HWE : Hid (WE = ((((W9.setCell ⟨w.heap.size, 0, none⟩ (.slice none 0 0)).setCell ⟨w.heap.size, 1, none⟩ (.slice none 0 0)).setCell ⟨w.heap.size, 2, none⟩ (.slice none 0 0)).setCell ⟨w.heap.size, 3, none⟩ (.int .i64 0))) := hWE
                rw [hWE] at z0 z1 z2 z3
                clear hWE he0
                go_wp2
                refine bodyPost_ret (v := .tuple #[.agg #[.slice none 0 0, .slice none 0 0, .slice none 0 0, .int .i64 0], .int .i64 (ev : Int)]) (by simp [results, Tryz.results19, go_sem, z0, z1, z2, z3]) rfl ?_
                rw [← HWE.out]
                exact ⟨.inl ⟨HNE.out, by rw [HEV.out]⟩, grown_to_below HE.out.G (by have := HP.out; omega)⟩
            · obtain rfl : i2 = nV := by omega
              have hi4 : ¬ (i2 : Int) < i2 := by omega
              clear hgo hi hB
              go_wp2_with fail
              refine cn.mono ?_
              clear cn
              rintro e V7 ⟨rfl, hr1, hg1⟩
              have C7 : Hid (UBx w V7 p bs a4 r4 V0.heap.size 26 #[.slice none 0 0, .slice none 0 0, .slice none 0 0, .int .i64 0] #[.slice b0 n0 c0, .slice b5 n5 c5, .slice b6 n6 c6, .int .i64 0]) := HB.out.call hr1 hg1
              obtain ⟨W8, hW⟩ : ∃ W, W = V7.setCell ⟨V0.heap.size, 3, none⟩ (.int .i64 x3) := ⟨_, rfl⟩
              have HW8 : Hid (W8 = V7.setCell ⟨V0.heap.size, 3, none⟩ (.int .i64 x3)) := hW
              have C8 : Hid (UBx w W8 p bs a4 r4 V0.heap.size 26 #[.slice none 0 0, .slice none 0 0, .slice none 0 0, .int .i64 0] #[.slice b0 n0 c0, .slice b5 n5 c5, .slice b6 n6 c6, .int .i64 x3]) := by rw [hW]; exact C7.out.store 3 _
              have HK8 : Hid (wr.heap.size ≤ W8.heap.size ∧ ∀ q, wP.heap.size ≤ q → q < wr.heap.size → q ≠ V0.heap.size → W8.heap[q]? = wr.heap[q]?) := ⟨by rw [hW]; have := hg1.size; simp; omega, fun q h1 h2 h3 => by rw [hW, heap_setCell_other _ _ _ _ h3]; exact hg1.block q h2 (by have := HPS.out; simp; omega)⟩
              obtain ⟨q0, q1, q2, q3⟩ := bcells4 C7.out.X
              have fz := cfrozen C7.out.X 3
              have hul : V0.heap.size < V7.heap.size := heap_lt C7.out.X
              obtain ⟨ev, hev⟩ : ∃ ev, ev = ldE bs := ⟨_, rfl⟩
              have HEV : Hid (ev = ldE bs) := hev
              have ce : Calls Tryz.prog 59 #[.agg #[.string (strB bs), .int .i64 (a4 : Nat), .int .i64 (r4 : Nat)]] W8 fun e w' => e = .returned (.int .i64 (ev : Nat)) ∧ Below W8.heap.size W8 w' := by
                have h9 := refREnd_any (strB bs) a4 r4 W8
                rw [strB_size] at h9
                rw [hev]
                unfold ldE
                rw [HRES.out]
                exact h9
              obtain ⟨t0, t1, t2⟩ := tcells3 C8.out.rd.blk
              clear hr1 hg1 hW hev
              go_upto_region 15 with fail
              rw [← HW8.out]
              clear q0 q1 q2 q3 fz hul
              go_wp2_with fail
              refine ce.mono ?_
              clear ce t0 t1 t2
              rintro e W9 ⟨rfl, hb9⟩
              have C9 : Hid (UBx w W9 p bs a4 r4 V0.heap.size 26 #[.slice none 0 0, .slice none 0 0, .slice none 0 0, .int .i64 0] #[.slice b0 n0 c0, .slice b5 n5 c5, .slice b6 n6 c6, .int .i64 x3]) := C8.out.below hb9
              have HK9 : Hid (wr.heap.size ≤ W9.heap.size ∧ ∀ q, wP.heap.size ≤ q → q < wr.heap.size → q ≠ V0.heap.size → W9.heap[q]? = wr.heap[q]?) := ⟨Nat.le_trans HK8.out.1 hb9.size, fun q h1 h2 h3 => (hb9.block q (Nat.lt_of_lt_of_le h2 HK8.out.1)).trans (HK8.out.2 q h1 h2 h3)⟩
              clear hb9
              by_cases he0 : ev = 0
              · have HE0 : Hid (ldE bs = 0) := HEV.out.symm.trans he0
                have hn0 : ((ev : Int) != 0) = false := by rw [he0]; rfl
                obtain ⟨hok, -⟩ := ldE_form HE0.out
                have hsm := rCode_small bs
                rw [HRES.out] at hok hsm
                simp only at hok hsm
                obtain ⟨R, hR⟩ : ∃ R, R = rightC ⟨x0, l, m, x3⟩ := ⟨_, rfl⟩
                have HRR : Hid (R = rightC (rCode bs).1) := by rw [HRES.out]; exact hR
                have cr : Calls Tryz.prog 25 #[.agg #[.slice b0 n0 c0, .slice b5 n5 c5, .slice b6 n6 c6, .int .i64 x3]] W9 fun e w' => e = .returned (.bool R) ∧ Below W9.heap.size W9 w' := by
                  rw [hR]; exact rfRight _ ⟨x0, l, m, x3⟩ b0 b5 b6 n0 c0 n5 c5 n6 c6 W9 (HC.out W9 HK9.out.1 HK9.out.2) hsm (okcd_ints hok) (okcd_few hok)
                obtain ⟨q0, q1, q2, q3⟩ := bcells4 C9.out.X
                clear hok hsm hR he0
                go_wp2_with fail
                refine cr.mono ?_
                clear cr q0 q1 q2 q3
                rintro e W10 ⟨rfl, hb10⟩
                have C10 : Hid (UBx w W10 p bs a4 r4 V0.heap.size 26 #[.slice none 0 0, .slice none 0 0, .slice none 0 0, .int .i64 0] #[.slice b0 n0 c0, .slice b5 n5 c5, .slice b6 n6 c6, .int .i64 x3]) := C9.out.below hb10
                have HK10 : Hid (wr.heap.size ≤ W10.heap.size ∧ ∀ q, wP.heap.size ≤ q → q < wr.heap.size → q ≠ V0.heap.size → W10.heap[q]? = wr.heap[q]?) := ⟨Nat.le_trans HK9.out.1 hb10.size, fun q h1 h2 h3 => (hb10.block q (Nat.lt_of_lt_of_le h2 HK9.out.1)).trans (HK9.out.2 q h1 h2 h3)⟩
                clear hb10
                obtain ⟨q0, q1, q2, q3⟩ := bcells4 C10.out.X
                obtain ⟨o0, o1, o2, o3⟩ := bcells4 C10.out.Y
                have g0 := cfrozen C10.out.Y 0
                have g1 := cfrozen C10.out.Y 1
                have g2 := cfrozen C10.out.Y 2
                have g3 := cfrozen C10.out.Y 3
                have hrl : w.heap.size < W10.heap.size := heap_lt C10.out.Y
                cases R with
                | false =>
                  obtain ⟨WE, hWE⟩ : ∃ WE, WE = ((((W10.setCell ⟨w.heap.size, 0, none⟩ (.slice none 0 0)).setCell ⟨w.heap.size, 1, none⟩ (.slice none 0 0)).setCell ⟨w.heap.size, 2, none⟩ (.slice none 0 0)).setCell ⟨w.heap.size, 3, none⟩ (.int .i64 0)) := ⟨_, rfl⟩
                  have HE : Hid (UBx w WE p bs a4 r4 V0.heap.size 26 #[.slice none 0 0, .slice none 0 0, .slice none 0 0, .int .i64 0] #[.slice b0 n0 c0, .slice b5 n5 c5, .slice b6 n6 c6, .int .i64 x3]) := by rw [hWE]; exact (((C10.out.storeY 0 _).storeY 1 _).storeY 2 _).storeY 3 _
                  obtain ⟨z0, z1, z2, z3⟩ := bcells4 HE.out.Y
                  have HWE : Hid (WE = ((((W10.setCell ⟨w.heap.size, 0, none⟩ (.slice none 0 0)).setCell ⟨w.heap.size, 1, none⟩ (.slice none 0 0)).setCell ⟨w.heap.size, 2, none⟩ (.slice none 0 0)).setCell ⟨w.heap.size, 3, none⟩ (.int .i64 0))) := hWE
                  rw [hWE] at z0 z1 z2 z3
                  clear hWE
                  go_wp2
                  refine bodyPost_ret (v := .tuple #[.agg #[.slice none 0 0, .slice none 0 0, .slice none 0 0, .int .i64 0], .int .i64 2]) (by simp [results, Tryz.results19, go_sem, z0, z1, z2, z3]) rfl ?_
                  rw [← HWE.out]
                  exact ⟨.inr (.inl ⟨HE0.out, HRR.out.symm, rfl⟩), grown_to_below HE.out.G (by have := HP.out; omega)⟩
                | true =>
                  obtain ⟨WE, hWE⟩ : ∃ WE, WE = ((((W10.setCell ⟨w.heap.size, 0, none⟩ (.slice b0 n0 c0)).setCell ⟨w.heap.size, 1, none⟩ (.slice b5 n5 c5)).setCell ⟨w.heap.size, 2, none⟩ (.slice b6 n6 c6)).setCell ⟨w.heap.size, 3, none⟩ (.int .i64 x3)) := ⟨_, rfl⟩
                  have HE : Hid (UBx w WE p bs a4 r4 V0.heap.size 26 #[.slice b0 n0 c0, .slice b5 n5 c5, .slice b6 n6 c6, .int .i64 x3] #[.slice b0 n0 c0, .slice b5 n5 c5, .slice b6 n6 c6, .int .i64 x3]) := by rw [hWE]; exact (((C10.out.storeY 0 _).storeY 1 _).storeY 2 _).storeY 3 _
                  obtain ⟨z0, z1, z2, z3⟩ := bcells4 HE.out.Y
                  have HWE : Hid (WE = ((((W10.setCell ⟨w.heap.size, 0, none⟩ (.slice b0 n0 c0)).setCell ⟨w.heap.size, 1, none⟩ (.slice b5 n5 c5)).setCell ⟨w.heap.size, 2, none⟩ (.slice b6 n6 c6)).setCell ⟨w.heap.size, 3, none⟩ (.int .i64 x3))) := hWE
                  have HCE : Hid (CodeIn (fun b => w.heap.size ≤ b) WE ⟨x0, l, m, x3⟩ (.slice b0 n0 c0) (.slice b5 n5 c5) (.slice b6 n6 c6)) := HC.out WE (by rw [hWE]; have := HK10.out.1; simp; omega) fun q h1 h2 h3 => by
                    have hne : q ≠ w.heap.size := by have := HP.out; have := HPS.out; omega
                    rw [hWE, heap_setCell_other _ _ _ _ hne, heap_setCell_other _ _ _ _ hne, heap_setCell_other _ _ _ _ hne, heap_setCell_other _ _ _ _ hne]
                    exact HK10.out.2 q h1 h2 h3
                  rw [hWE] at z0 z1 z2 z3
                  clear hWE
                  go_wp2
                  refine bodyPost_ret (v := .tuple #[.agg #[.slice b0 n0 c0, .slice b5 n5 c5, .slice b6 n6 c6, .int .i64 x3], .int .i64 0]) (by simp [results, Tryz.results19, go_sem, z0, z1, z2, z3]) rfl ?_
                  rw [← HWE.out]
                  refine ⟨.inr (.inr ⟨HE0.out, HRR.out.symm, b0, n0, c0, b5, n5, c5, b6, n6, c6, by rw [HRES.out], ?_⟩), grown_to_below HE.out.G (by have := HP.out; omega)⟩
                  rw [HRES.out]
                  exact HCE.out
              · have HNE : Hid (ldE bs ≠ 0) := fun h => he0 (HEV.out.trans h)
                have hn0 : ((ev : Int) != 0) = true := by rw [bne_iff_ne]; omega
                obtain ⟨o0, o1, o2, o3⟩ := bcells4 C9.out.Y
                have g0 := cfrozen C9.out.Y 0
                have g1 := cfrozen C9.out.Y 1
                have g2 := cfrozen C9.out.Y 2
                have g3 := cfrozen C9.out.Y 3
                have hrl : w.heap.size < W9.heap.size := heap_lt C9.out.Y
                obtain ⟨WE, hWE⟩ : ∃ WE, WE = ((((W9.setCell ⟨w.heap.size, 0, none⟩ (.slice none 0 0)).setCell ⟨w.heap.size, 1, none⟩ (.slice none 0 0)).setCell ⟨w.heap.size, 2, none⟩ (.slice none 0 0)).setCell ⟨w.heap.size, 3, none⟩ (.int .i64 0)) := ⟨_, rfl⟩
                have HE : Hid (UBx w WE p bs a4 r4 V0.heap.size 26 #[.slice none 0 0, .slice none 0 0, .slice none 0 0, .int .i64 0] #[.slice b0 n0 c0, .slice b5 n5 c5, .slice b6 n6 c6, .int .i64 x3]) := by rw [hWE]; exact (((C9.out.storeY 0 _).storeY 1 _).storeY 2 _).storeY 3 _
                obtain ⟨z0, z1, z2, z3⟩ := bcells4 HE.out.Y
                have HWE : Hid (WE = ((((W9.setCell ⟨w.heap.size, 0, none⟩ (.slice none 0 0)).setCell ⟨w.heap.size, 1, none⟩ (.slice none 0 0)).setCell ⟨w.heap.size, 2, none⟩ (.slice none 0 0)).setCell ⟨w.heap.size, 3, none⟩ (.int .i64 0))) := hWE
                rw [hWE] at z0 z1 z2 z3
                clear hWE he0
                go_wp2
                refine bodyPost_ret (v := .tuple #[.agg #[.slice none 0 0, .slice none 0 0, .slice none 0 0, .int .i64 0], .int .i64 (ev : Int)]) (by simp [results, Tryz.results19, go_sem, z0, z1, z2, z3]) rfl ?_
                rw [← HWE.out]
                exact ⟨.inl ⟨HNE.out, by rw [HEV.out]⟩, grown_to_below HE.out.G (by have := HP.out; omega)⟩
end Go.Proofs.YtechkkphbajmoaaGreatDoor
