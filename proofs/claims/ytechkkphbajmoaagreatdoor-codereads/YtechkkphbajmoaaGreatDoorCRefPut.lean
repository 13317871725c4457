/- code: the document's own bytes of a code. -/
import Derived.Test.YtechkkphbajmoaaGreatDoorCRefT
namespace Go.Proofs.YtechkkphbajmoaaGreatDoor
open Go.RowKit Go.Shelf

theorem clsI {n : Int} {W0 : World} (h : I64 n) : ∀ W, Below W0.heap.size W0 W → Calls Tryz.prog 82 #[.int .i64 n] W fun e w' => e = .returned (.string (strB (numB n))) ∧ Below W0.heap.size W0 w' := fun W hW => (rfInt n h W).mono fun _ _ ⟨he, hb⟩ => ⟨he, hW.trans (hb.mono hW.size)⟩
theorem clsT {s : List UInt8} {W0 : World} (h : s.length ≤ 1048576) : ∀ W, Below W0.heap.size W0 W → Calls Tryz.prog 83 #[.string (strB s)] W fun e w' => e = .returned (.string (strB (txB s))) ∧ Below W0.heap.size W0 w' := fun W hW => (rfText s h W).mono fun _ _ ⟨he, hb⟩ => ⟨he, hW.trans (hb.mono hW.size)⟩
theorem clsBo {b : Bool} {W0 : World} : ∀ W, Below W0.heap.size W0 W → Calls Tryz.prog 84 #[.bool b] W fun e w' => e = .returned (.string (strB (boolB b))) ∧ Below W0.heap.size W0 w' := fun W hW => (rfBool b W).mono fun _ _ ⟨he, hb⟩ => ⟨he, hW.trans (hb.mono hW.size)⟩
theorem clsTs {S : Nat → Prop} {l : List (List UInt8)} {v : Value} {W0 : World} (hin : strsIn S W0 v l) (hl : ∀ s ∈ l, s.length ≤ 1048576) (hb : (allB txB l).length ≤ 140737488355328) : ∀ W, Below W0.heap.size W0 W → Calls Tryz.prog 81 #[v] W fun e w' => e = .returned (.string (strB (allB txB l))) ∧ Below W0.heap.size W0 w' := fun W hW => (rfTexts S l v W (rowIn.kept hin (strE_keeps S) hW.size fun q _ hq => hW.block q hq) hl hb).mono fun _ _ ⟨he, hb⟩ => ⟨he, hW.trans (hb.mono hW.size)⟩
theorem cadd {X Y Z : List UInt8} (hZ : Z = X ++ Y) (h : X.length + Y.length ≤ 140737488355328) : ∀ W, (Op.stringOp .add (strB X) (strB Y)).run Tryz.prog W = .ok (.string (strB Z)) W := fun W => by rw [hZ]; exact cstr_add W X Y (by omega)

set_option maxRecDepth 100000 in
set_option maxHeartbeats 16000000 in
theorem rfPut (S : Nat → Prop) (c : Cd) (bs bh bu : Option Addr) (ns cs nh ch nu cu : Nat) (w : World) (hin : CodeIn S w c (.slice bs ns cs) (.slice bh nh ch) (.slice bu nu cu)) (hsm : SmallC c) (hints : IntsC c) (hb : (cdB c).length ≤ 140737488355328) :
    Calls Tryz.prog 37 #[cdV (.slice bs ns cs) (.slice bh nh ch) (.slice bu nu cu) c.main] w fun e w' => e = .returned (.string (strB (cdB c))) ∧ Below w.heap.size w w' := by
  obtain ⟨m, hm⟩ : ∃ m, m = c.main := ⟨_, rfl⟩
  rw [← hm]
  obtain ⟨w1, hw1, hb1, HZ1, h1⟩ := box1 w (.cells #[.slice bs ns cs, .slice bh nh ch, .slice bu nu cu, .int .i64 m] 26)
  have HW1 : Hid (w1 = w.alloc (.cells #[.slice bs ns cs, .slice bh nh ch, .slice bu nu cu, .int .i64 m] 26)) := hw1
  have HB1 : Hid (Below w.heap.size w w1) := hb1
  have HLT : Hid (w.heap.size < w1.heap.size) := heap_lt h1
  have HF : Hid (∀ W, Below w1.heap.size w1 W → W.cell? ⟨w.heap.size, 0, none⟩ = some (.slice bs ns cs) ∧ W.cell? ⟨w.heap.size, 1, none⟩ = some (.slice bh nh ch) ∧ W.cell? ⟨w.heap.size, 2, none⟩ = some (.slice bu nu cu) ∧ W.cell? ⟨w.heap.size, 3, none⟩ = some (.int .i64 m)) := fun W hW => bcells4 ((hW.block w.heap.size HLT.out).trans h1)
  have HCIN : Hid (∀ W, Below w1.heap.size w1 W → CodeIn S W c (.slice bs ns cs) (.slice bh nh ch) (.slice bu nu cu)) := fun W hW => hin.below (hb1.trans (hW.mono hb1.size))
  have hnh : nh = c.shapes.length := by obtain ⟨b, c, e, -⟩ := hin.shapes.at; cases e; rfl
  have hnu : nu = c.units.length := by obtain ⟨b, c, e, -⟩ := hin.units.at; cases e; rfl
  have HSH : Hid (∀ i (hi : i < c.shapes.length), ∃ b o, bh = some ⟨b, o, none⟩ ∧ S b ∧ b < w.heap.size ∧ shE S w b (o + i * 2) c.shapes[i]) := by obtain ⟨b, c1, e, _, _, h⟩ := hin.shapes.at; cases e; exact h
  have HUN : Hid (∀ i (hi : i < c.units.length), ∃ b o, bu = some ⟨b, o, none⟩ ∧ S b ∧ b < w.heap.size ∧ unE S w b (o + i * 7) c.units[i]) := by obtain ⟨b, c1, e, _, _, h⟩ := hin.units.at; cases e; exact h
  have HNH : Hid (nh = c.shapes.length) := hnh
  have HNU : Hid (nu = c.units.length) := hnu
  have HSM : Hid (SmallC c) := hsm
  have HI : Hid (IntsC c) := hints
  have hnhI : (nh : Int) ≤ 1048576 := by have := hsm.nshapes; omega
  have hnuI : (nu : Int) ≤ 1048576 := by have := hsm.nunits; omega
  obtain ⟨T0, hT0⟩ : ∃ T, T = allB txB c.strs := ⟨_, rfl⟩
  obtain ⟨N1, hN1⟩ : ∃ N, N = numB (nh : Int) := ⟨_, rfl⟩
  obtain ⟨N2, hN2⟩ : ∃ N, N = numB (nu : Int) := ⟨_, rfl⟩
  obtain ⟨N3, hN3⟩ : ∃ N, N = numB m := ⟨_, rfl⟩
  have HRES : Hid (cdB c = ((((T0 ++ N1) ++ (c.shapes.map shB).flatten) ++ N2) ++ (c.units.map unB).flatten) ++ N3) := by
    show _ = _
    rw [hT0, hN1, hN2, hN3, hnh, hnu, hm]
    simp only [cdB, allB, List.append_assoc]
  have HBb : Hid (T0.length + N1.length + (c.shapes.map shB).flatten.length + N2.length + (c.units.map unB).flatten.length + N3.length ≤ 140737488355328) := by
    have h2 := hb
    rw [HRES.out] at h2
    simp only [List.length_append] at h2
    exact h2
  obtain ⟨R, hR⟩ : ∃ R, R = cdB c := ⟨_, rfl⟩
  rw [← hR] at HRES ⊢
  have CT0 : Hid (∀ W, Below w1.heap.size w1 W → Calls Tryz.prog 81 #[.slice bs ns cs] W fun e w' => e = .returned (.string (strB T0)) ∧ Below w1.heap.size w1 w') := by
    rw [hT0]
    exact clsTs (HCIN.out w1 (Below.refl _ _)).strs hsm.strs (by have h2 := HBb.out; rw [hT0] at h2; omega)
  have CN1 : Hid (∀ W, Below w1.heap.size w1 W → Calls Tryz.prog 82 #[.int .i64 (nh : Int)] W fun e w' => e = .returned (.string (strB N1)) ∧ Below w1.heap.size w1 w') := by
    rw [hN1]; exact clsI ⟨by omega, by omega⟩
  have CN2 : Hid (∀ W, Calls Tryz.prog 82 #[.int .i64 (nu : Int)] W fun e w' => e = .returned (.string (strB N2)) ∧ Below W.heap.size W w') := fun W => by
    rw [hN2]; exact rfInt _ ⟨by omega, by omega⟩ W
  have CN3 : Hid (∀ W, Calls Tryz.prog 82 #[.int .i64 m] W fun e w' => e = .returned (.string (strB N3)) ∧ Below W.heap.size W w') := fun W => by
    rw [hN3]; exact rfInt _ (by rw [hm]; exact hints.main) W
  obtain ⟨A1, hA1⟩ : ∃ A, A = T0 ++ N1 := ⟨_, rfl⟩
  have sa1 := cadd hA1 (by have := HBb.out; omega)
  have HA1 : Hid (A1 = T0 ++ N1) := hA1
  obtain ⟨f0, f1, f2, f3⟩ := HF.out w1 (Below.refl _ _)
  have x0 := cls_cell (n := w1.heap.size) f0 (by have := HLT.out; simp only; omega)
  have x1 := cls_cell (n := w1.heap.size) f1 (by have := HLT.out; simp only; omega)
  clear hw1 hb1 h1 hin hsm hints hb hnh hnu hm hT0 hN1 hN2 hN3 hR hA1 HZ1 f0 f1 f2 f3
  go_enter Tryz.func37, Tryz.ntmps37
  go_upto_region 1 with fail
  rw [← HW1.out]
  refine wp_region_cls (n := w1.heap.size) (w0 := w1) (Below.refl _ _) (by kernel_rfl) (by kernel_rfl) ?_
  iterate 2 (go_big_quiet_step (fail))
  go_big_quiet_step (exact cls_calls CT0.out _)
  iterate 3 (go_big_quiet_step (fail))
  go_big_quiet_step (exact cls_calls CN1.out _)
  iterate 2 (go_big_quiet_step (fail))
  refine wpQuiet_nil ?_
  rintro _ ⟨cc, rfl⟩
  obtain ⟨w2, hb2⟩ := cc
  dsimp only
  have HB2 : Hid (Below w1.heap.size w1 w2) := hb2
  clear hb2 x0 x1 sa1
  go_wp2
  go_loopw [3, 4] (fun s vi wr => ∃ (i : Nat) (X : List UInt8), i ≤ nh ∧ vi = .int .i64 (i : Int) ∧ s = .string (strB X) ∧ Hid (X = A1 ++ ((c.shapes.take i).map shB).flatten) ∧ Below w1.heap.size w1 wr) (fun _ vi _ => nh - (intOf vi).toNat)
  case atStart => exact ⟨0, A1, Nat.zero_le _, rfl, rfl, by show _ = _; simp, HB2.out⟩
  case round =>
    obtain ⟨i, X, hi, rfl, rfl, HX, hbr⟩ := hrel
    have HB : Hid (Below w1.heap.size w1 wr) := hbr
    have HBw : Hid (Below w.heap.size w wr) := HB1.out.trans (hbr.mono HB1.out.size)
    obtain ⟨f0, f1, f2, f3⟩ := HF.out wr hbr
    clear hbr
    by_cases hlt : i < nh
    · have hi2 : (i : Int) < nh := by omega
      have hil : i < c.shapes.length := by have := HNH.out; omega
      obtain ⟨b, o, rfl, -, hbl, hc⟩ := HSH.out i hil
      obtain ⟨e0, vf, e1, hf⟩ := hc
      obtain ⟨bf, cf, rfl, -⟩ := hf.at
      obtain ⟨x, hx⟩ : ∃ x, x = c.shapes[i] := ⟨_, rfl⟩
      simp only [← hx] at e0 e1 hf
      have hxm : x ∈ c.shapes := hx ▸ List.getElem_mem hil
      obtain ⟨nf, hnf⟩ : ∃ n, n = x.fields.length := ⟨_, rfl⟩
      rw [← hnf] at e1 hf
      have hcc : ∀ q, wr.cell? ⟨b, q, none⟩ = w.cell? ⟨b, q, none⟩ := fun q => below_cell HBw.out hbl
      rw [← hcc] at e0 e1
      obtain ⟨Y1, hY1⟩ : ∃ Y, Y = txB x.name := ⟨_, rfl⟩
      obtain ⟨Y2, hY2⟩ : ∃ Y, Y = allB txB x.fields := ⟨_, rfl⟩
      have hsz : X.length + Y1.length + Y2.length ≤ 140737488355328 := by
        have h1 := flat_le shB c.shapes (i + 1)
        rw [flat_succ shB c.shapes hil, List.length_append, ← hx] at h1
        have h3 : (shB x).length = Y1.length + Y2.length := by rw [hY1, hY2]; simp [shB]
        have h2 := HBb.out
        rw [HX.out, HA1.out, List.length_append, List.length_append]
        omega
      have K1 : Hid (∀ W, Below wr.heap.size wr W → Calls Tryz.prog 83 #[.string (strB x.name)] W fun e w' => e = .returned (.string (strB Y1)) ∧ Below wr.heap.size wr w') := by rw [hY1]; exact clsT (HSM.out.shape x hxm)
      have K2 : Hid (∀ W, Below wr.heap.size wr W → Calls Tryz.prog 81 #[.slice bf nf cf] W fun e w' => e = .returned (.string (strB Y2)) ∧ Below wr.heap.size wr w') := by
        rw [hY2]; exact clsTs (S := S) (rowIn.kept hf (strE_keeps S) HBw.out.size fun q _ hq => HBw.out.block q hq) (HSM.out.field x hxm) (by rw [hY2] at hsz; omega)
      obtain ⟨X1, hX1⟩ : ∃ Z, Z = X ++ Y1 := ⟨_, rfl⟩
      obtain ⟨X2, hX2⟩ : ∃ Z, Z = X1 ++ Y2 := ⟨_, rfl⟩
      have sb1 := cadd hX1 (by omega)
      have sb2 := cadd hX2 (by rw [hX1, List.length_append]; omega)
      have HXN : Hid (X2 = A1 ++ ((c.shapes.take (i + 1)).map shB).flatten) := by
        show _ = _
        rw [hX2, hX1, HX.out, flat_succ shB c.shapes hil, ← hx, hY1, hY2]
        simp only [shB, List.append_assoc]
      have hwl : w.heap.size < wr.heap.size := Nat.lt_of_lt_of_le HLT.out HB.out.size
      have hbl2 : b < wr.heap.size := Nat.lt_of_lt_of_le hbl HBw.out.size
      have y1 := cls_cell (n := wr.heap.size) f1 (by simp only; omega)
      have y2 := cls_cell (n := wr.heap.size) e0 (by simp only; omega)
      have y3 := cls_cell (n := wr.heap.size) e1 (by simp only; omega)
      clear hf hx hxm hnf hcc hY1 hY2 hsz hX1 hX2 hwl hbl2
      go_upto_region 5 with fail
      refine wp_region_cls (n := wr.heap.size) (w0 := wr) (Below.refl _ _) (by kernel_rfl) (by kernel_rfl) ?_
      iterate 7 (go_big_quiet_step (fail))
      go_big_quiet_step (exact cls_calls K1.out _)
      iterate 7 (go_big_quiet_step (fail))
      go_big_quiet_step (exact cls_calls K2.out _)
      iterate 2 (go_big_quiet_step (fail))
      refine wpQuiet_nil ?_
      rintro _ ⟨cc, rfl⟩
      obtain ⟨w3, hb3⟩ := cc
      dsimp only
      have HB3 : Hid (Below w1.heap.size w1 w3) := HB.out.trans (hb3.mono HB.out.size)
      clear hb3 y1 y2 y3 sb1 sb2 e0 e1 f0 f1 f2 f3
      go_wp2
      exact ⟨⟨i + 1, X2, by omega, by go_num, rfl, HXN, HB3.out⟩, by simp [intOf]; omega⟩
    · obtain rfl : i = nh := by omega
      have hi2 : ¬ (i : Int) < i := by omega
      have HXE : Hid (X = A1 ++ (c.shapes.map shB).flatten) := by
        have h9 := HX.out
        rw [HNH.out, List.take_length] at h9
        exact h9
      obtain ⟨A2, hA2⟩ : ∃ A, A = X ++ N2 := ⟨_, rfl⟩
      have sc := cadd hA2 (by have := HBb.out; rw [HXE.out, HA1.out, List.length_append, List.length_append]; omega)
      have HA2 : Hid (A2 = ((T0 ++ N1) ++ (c.shapes.map shB).flatten) ++ N2) := by rw [hA2, HXE.out, HA1.out]; exact rfl
      have cn := CN2.out wr
      clear hA2
      go_wp2_with fail
      refine cn.mono ?_
      clear cn f0 f1 f2 f3
      rintro e w4 ⟨rfl, hb4⟩
      have HB4 : Hid (Below w1.heap.size w1 w4) := HB.out.trans (hb4.mono HB.out.size)
      clear hb4
      go_wp2
      go_loopw [3, 5] (fun s vi wr => ∃ (k : Nat) (X : List UInt8), k ≤ nu ∧ vi = .int .i64 (k : Int) ∧ s = .string (strB X) ∧ Hid (X = A2 ++ ((c.units.take k).map unB).flatten) ∧ Below w1.heap.size w1 wr) (fun _ vi _ => nu - (intOf vi).toNat)
      case atStart => exact ⟨0, A2, Nat.zero_le _, rfl, rfl, by show _ = _; simp, HB4.out⟩
      case round =>
        clear HX HXE HB HBw sc
        obtain ⟨k, X, hk, rfl, rfl, HX, hbr⟩ := hrel
        have HB : Hid (Below w1.heap.size w1 wr) := hbr
        have HBw : Hid (Below w.heap.size w wr) := HB1.out.trans (hbr.mono HB1.out.size)
        obtain ⟨f0, f1, f2, f3⟩ := HF.out wr hbr
        clear hbr
        by_cases hlt : k < nu
        · have hk2 : (k : Int) < nu := by omega
          have hkl : k < c.units.length := by have := HNU.out; omega
          obtain ⟨b, o, rfl, -, hbl, hc⟩ := HUN.out k hkl
          obtain ⟨e0, e1, e2, e3, e4, ⟨vi, e5, hvi⟩, vv, e6, hvv⟩ := hc
          obtain ⟨bi, ci, rfl, hci, -, hiat⟩ := hvi.at
          obtain ⟨bv, cv, rfl, hcv, -, hvat⟩ := hvv.at
          obtain ⟨u, hu⟩ : ∃ u, u = c.units[k] := ⟨_, rfl⟩
          have hum : u ∈ c.units := hu ▸ List.getElem_mem hkl
          simp only [← hu] at e0 e1 e2 e3 e4 e5 e6 hiat hvat hci hcv
          have HIAT : Hid (∀ i (hi : i < u.ins.length), ∃ b o, bi = some ⟨b, o, none⟩ ∧ S b ∧ b < w.heap.size ∧ insE w b (o + i * 2) u.ins[i]) := hiat
          have HVAT : Hid (∀ i (hi : i < u.vars.length), ∃ b o, bv = some ⟨b, o, none⟩ ∧ S b ∧ b < w.heap.size ∧ varE w b (o + i * 4) u.vars[i]) := hvat
          have HUI : Hid (∀ y ∈ u.ins, I64 y.op ∧ I64 y.a) := HI.out.ins u hum
          have HUV : Hid (∀ y ∈ u.vars, y.name.length ≤ 1048576 ∧ I64 y.slot ∧ I64 y.lo ∧ I64 y.hi) := fun y hy => ⟨HSM.out.var u hum y hy, HI.out.var u hum y hy⟩
          obtain ⟨ni, hni⟩ : ∃ n, n = u.ins.length := ⟨_, rfl⟩
          obtain ⟨nv, hnv⟩ : ∃ n, n = u.vars.length := ⟨_, rfl⟩
          rw [← hni] at e5 hci
          rw [← hnv] at e6 hcv
          have HNI : Hid (ni = u.ins.length) := hni
          have HNV : Hid (nv = u.vars.length) := hnv
          have hniI : (ni : Int) ≤ 9223372036854775807 := by have : ci ≤ maxLen := by (obtain ⟨_, _, e, _, h, _⟩ := hvi; cases e; exact h)
                                                             have : maxLen ≤ 9223372036854775807 := by decide
                                                             omega
          have hnvI : (nv : Int) ≤ 9223372036854775807 := by have : cv ≤ maxLen := by (obtain ⟨_, _, e, _, h, _⟩ := hvv; cases e; exact h)
                                                             have : maxLen ≤ 9223372036854775807 := by decide
                                                             omega
          have hcc : ∀ q, wr.cell? ⟨b, q, none⟩ = w.cell? ⟨b, q, none⟩ := fun q => below_cell HBw.out hbl
          rw [← hcc] at e0 e1 e2 e3 e4 e5 e6
          obtain ⟨Y1, hY1⟩ : ∃ Y, Y = txB u.name := ⟨_, rfl⟩
          obtain ⟨Y2, hY2⟩ : ∃ Y, Y = numB u.params := ⟨_, rfl⟩
          obtain ⟨Y3, hY3⟩ : ∃ Y, Y = numB u.slots := ⟨_, rfl⟩
          obtain ⟨Y4, hY4⟩ : ∃ Y, Y = numB u.stack := ⟨_, rfl⟩
          obtain ⟨Y5, hY5⟩ : ∃ Y, Y = boolB u.result := ⟨_, rfl⟩
          obtain ⟨Y6, hY6⟩ : ∃ Y, Y = numB (ni : Int) := ⟨_, rfl⟩
          obtain ⟨Y7, hY7⟩ : ∃ Y, Y = numB (nv : Int) := ⟨_, rfl⟩
          have hunb : unB u = Y1 ++ (Y2 ++ (Y3 ++ (Y4 ++ (Y5 ++ ((Y6 ++ (u.ins.map insB).flatten) ++ (Y7 ++ (u.vars.map vrB).flatten)))))) := by
            rw [hY1, hY2, hY3, hY4, hY5, hY6, hY7, hni, hnv]; rfl
          have HSZ : Hid (X.length + Y1.length + Y2.length + Y3.length + Y4.length + Y5.length + Y6.length + (u.ins.map insB).flatten.length + Y7.length + (u.vars.map vrB).flatten.length ≤ 140737488355328) := by
            have h1 := flat_le unB c.units (k + 1)
            rw [flat_succ unB c.units hkl, List.length_append, ← hu, hunb] at h1
            simp only [List.length_append] at h1
            have h2 := HBb.out
            show _ ≤ _
            rw [HX.out, HA2.out]
            simp only [List.length_append]
            omega
          obtain ⟨w5, hw5, hb5, HZ5, h5⟩ := box1 wr (.cells #[.string (strB u.name), .int .i64 u.params, .int .i64 u.slots, .int .i64 u.stack, .bool u.result, .slice bi ni ci, .slice bv nv cv] 58)
          have HW5 : Hid (w5 = wr.alloc (.cells #[.string (strB u.name), .int .i64 u.params, .int .i64 u.slots, .int .i64 u.stack, .bool u.result, .slice bi ni ci, .slice bv nv cv] 58)) := hw5
          have HB5 : Hid (Below w1.heap.size w1 w5) := HB.out.trans (hb5.mono HB.out.size)
          have HX5 : Hid (w5.heap[wr.heap.size]? = some (.cells #[.string (strB u.name), .int .i64 u.params, .int .i64 u.slots, .int .i64 u.stack, .bool u.result, .slice bi ni ci, .slice bv nv cv] 58 (0, 0))) := h5
          have K1 : Hid (∀ W, Below w5.heap.size w5 W → Calls Tryz.prog 83 #[.string (strB u.name)] W fun e w' => e = .returned (.string (strB Y1)) ∧ Below w5.heap.size w5 w') := by rw [hY1]; exact clsT (HSM.out.unit u hum)
          have K2 : Hid (∀ W, Below w5.heap.size w5 W → Calls Tryz.prog 82 #[.int .i64 u.params] W fun e w' => e = .returned (.string (strB Y2)) ∧ Below w5.heap.size w5 w') := by rw [hY2]; exact clsI (HI.out.unit u hum).1
          have K3 : Hid (∀ W, Below w5.heap.size w5 W → Calls Tryz.prog 82 #[.int .i64 u.slots] W fun e w' => e = .returned (.string (strB Y3)) ∧ Below w5.heap.size w5 w') := by rw [hY3]; exact clsI (HI.out.unit u hum).2.1
          have K4 : Hid (∀ W, Below w5.heap.size w5 W → Calls Tryz.prog 82 #[.int .i64 u.stack] W fun e w' => e = .returned (.string (strB Y4)) ∧ Below w5.heap.size w5 w') := by rw [hY4]; exact clsI (HI.out.unit u hum).2.2
          have K5 : Hid (∀ W, Below w5.heap.size w5 W → Calls Tryz.prog 84 #[.bool u.result] W fun e w' => e = .returned (.string (strB Y5)) ∧ Below w5.heap.size w5 w') := by rw [hY5]; exact clsBo
          have K6 : Hid (∀ W, Below w5.heap.size w5 W → Calls Tryz.prog 82 #[.int .i64 (ni : Int)] W fun e w' => e = .returned (.string (strB Y6)) ∧ Below w5.heap.size w5 w') := by rw [hY6]; exact clsI ⟨by omega, hniI⟩
          have K7 : Hid (∀ W, Calls Tryz.prog 82 #[.int .i64 (nv : Int)] W fun e w' => e = .returned (.string (strB Y7)) ∧ Below W.heap.size W w') := fun W => by rw [hY7]; exact rfInt _ ⟨by omega, hnvI⟩ W
          obtain ⟨X1, hX1⟩ : ∃ Z, Z = X ++ Y1 := ⟨_, rfl⟩
          obtain ⟨X2, hX2⟩ : ∃ Z, Z = X1 ++ Y2 := ⟨_, rfl⟩
          obtain ⟨X3, hX3⟩ : ∃ Z, Z = X2 ++ Y3 := ⟨_, rfl⟩
          obtain ⟨X4, hX4⟩ : ∃ Z, Z = X3 ++ Y4 := ⟨_, rfl⟩
          obtain ⟨X5, hX5⟩ : ∃ Z, Z = X4 ++ Y5 := ⟨_, rfl⟩
          obtain ⟨X6, hX6⟩ : ∃ Z, Z = X5 ++ Y6 := ⟨_, rfl⟩
          have l1 : X1.length = X.length + Y1.length := by rw [hX1, List.length_append]
          have l2 : X2.length = X1.length + Y2.length := by rw [hX2, List.length_append]
          have l3 : X3.length = X2.length + Y3.length := by rw [hX3, List.length_append]
          have l4 : X4.length = X3.length + Y4.length := by rw [hX4, List.length_append]
          have l5 : X5.length = X4.length + Y5.length := by rw [hX5, List.length_append]
          have l6 : X6.length = X5.length + Y6.length := by rw [hX6, List.length_append]
          have hsz := HSZ.out
          have sb1 := cadd hX1 (by omega)
          have sb2 := cadd hX2 (by omega)
          have sb3 := cadd hX3 (by omega)
          have sb4 := cadd hX4 (by omega)
          have sb5 := cadd hX5 (by omega)
          have sb6 := cadd hX6 (by omega)
          have HS6 : Hid (X6.length + (u.ins.map insB).flatten.length + Y7.length + (u.vars.map vrB).flatten.length ≤ 140737488355328) := by show _ ≤ _; omega
          have HXU : Hid (X6 ++ (u.ins.map insB).flatten ++ Y7 ++ (u.vars.map vrB).flatten = A2 ++ ((c.units.take (k + 1)).map unB).flatten) := by
            show _ = _
            rw [hX6, hX5, hX4, hX3, hX2, hX1, HX.out, flat_succ unB c.units hkl, ← hu, hunb]
            simp only [List.append_assoc]
          obtain ⟨z0, z1, z2, z3, z4, z5, z6⟩ := cells7 h5
          have hw5l := heap_lt h5
          have y0 := cls_cell (n := w5.heap.size) z0 hw5l
          have y1 := cls_cell (n := w5.heap.size) z1 hw5l
          have y2 := cls_cell (n := w5.heap.size) z2 hw5l
          have y3 := cls_cell (n := w5.heap.size) z3 hw5l
          have y4 := cls_cell (n := w5.heap.size) z4 hw5l
          have y5 := cls_cell (n := w5.heap.size) z5 hw5l
          have HW5L : Hid (wr.heap.size < w5.heap.size) := hw5l
          clear hu hum hvi hvv hni hnv hcc hY1 hY2 hY3 hY4 hY5 hY6 hY7 hunb hX1 hX2 hX3 hX4 hX5 hX6 l1 l2 l3 l4 l5 l6 hsz hw5 hb5 h5 HZ5 z0 z1 z2 z3 z4 z5 z6 hiat hvat hci hcv hw5l
          go_upto_region 11 with fail
          rw [← HW5.out]
          clear e0 e1 e2 e3 e4 e5 e6
          refine wp_region_cls (n := w5.heap.size) (w0 := w5) (Below.refl _ _) (by kernel_rfl) (by kernel_rfl) ?_
          iterate 3 (go_big_quiet_step (fail))
          go_big_quiet_step (exact cls_calls K1.out _)
          iterate 3 (go_big_quiet_step (fail))
          go_big_quiet_step (exact cls_calls K2.out _)
          iterate 3 (go_big_quiet_step (fail))
          go_big_quiet_step (exact cls_calls K3.out _)
          iterate 3 (go_big_quiet_step (fail))
          go_big_quiet_step (exact cls_calls K4.out _)
          iterate 3 (go_big_quiet_step (fail))
          go_big_quiet_step (exact cls_calls K5.out _)
          iterate 4 (go_big_quiet_step (fail))
          go_big_quiet_step (exact cls_calls K6.out _)
          iterate 2 (go_big_quiet_step (fail))
          refine wpQuiet_nil ?_
          rintro _ ⟨cc, rfl⟩
          obtain ⟨w6, hb6⟩ := cc
          dsimp only
          have HB56 : Hid (Below w5.heap.size w5 w6) := hb6
          have HFU : Hid (∀ W, Below w5.heap.size w5 W → (W.cell? ⟨wr.heap.size, 5, none⟩ = some (.slice bi ni ci) ∧ W.cell? ⟨wr.heap.size, 6, none⟩ = some (.slice bv nv cv)) ∧ wr.heap.size < W.heap.size) := fun W hW => by
            obtain ⟨-, -, -, -, -, a5, a6⟩ := cells7 ((hW.block _ HW5L.out).trans HX5.out)
            exact ⟨⟨a5, a6⟩, Nat.lt_of_lt_of_le HW5L.out hW.size⟩
          have HB5w : Hid (Below w.heap.size w w5) := HB1.out.trans (HB5.out.mono HB1.out.size)
          clear hb6 y0 y1 y2 y3 y4 y5 sb1 sb2 sb3 sb4 sb5 sb6 f0 f1 f2 f3
          go_wp2
          go_loopw [3, 7] (fun s vi wr => ∃ (j : Nat) (Z : List UInt8), j ≤ ni ∧ vi = .int .i64 (j : Int) ∧ s = .string (strB Z) ∧ Hid (Z = X6 ++ ((u.ins.take j).map insB).flatten) ∧ Below w5.heap.size w5 wr) (fun _ vi _ => ni - (intOf vi).toNat)
          case atStart => exact ⟨0, X6, Nat.zero_le _, rfl, rfl, by show _ = _; simp, HB56.out⟩
          case round =>
            obtain ⟨j, Z, hj, rfl, rfl, HZ, hbr⟩ := hrel
            have HBj : Hid (Below w5.heap.size w5 wr) := hbr
            have HBjw : Hid (Below w.heap.size w wr) := HB5w.out.trans (hbr.mono HB5w.out.size)
            obtain ⟨⟨q5, q6⟩, hql⟩ := HFU.out wr hbr
            clear hbr
            by_cases hjt : j < ni
            · have hj2 : (j : Int) < ni := by omega
              have hjl : j < u.ins.length := by have := HNI.out; omega
              obtain ⟨b7, o7, rfl, -, hbl7, hc7⟩ := HIAT.out j hjl
              obtain ⟨x, hx⟩ : ∃ x, x = u.ins[j] := ⟨_, rfl⟩
              rw [← hx] at hc7
              obtain ⟨d0, d1⟩ := hc7
              have hxm : x ∈ u.ins := hx ▸ List.getElem_mem hjl
              have hcc : ∀ q, wr.cell? ⟨b7, q, none⟩ = w.cell? ⟨b7, q, none⟩ := fun q => below_cell HBjw.out hbl7
              rw [← hcc] at d0 d1
              obtain ⟨P1, hP1⟩ : ∃ Y, Y = numB x.op := ⟨_, rfl⟩
              obtain ⟨P2, hP2⟩ : ∃ Y, Y = numB x.a := ⟨_, rfl⟩
              have hsz : Z.length + P1.length + P2.length ≤ 140737488355328 := by
                have h1 := flat_le insB u.ins (j + 1)
                rw [flat_succ insB u.ins hjl, List.length_append, ← hx] at h1
                have h3 : (insB x).length = P1.length + P2.length := by rw [hP1, hP2]; simp [insB]
                have h2 := HS6.out
                rw [HZ.out, List.length_append]
                omega
              have K8 : Hid (∀ W, Below wr.heap.size wr W → Calls Tryz.prog 82 #[.int .i64 x.op] W fun e w' => e = .returned (.string (strB P1)) ∧ Below wr.heap.size wr w') := by rw [hP1]; exact clsI (HUI.out x hxm).1
              have K9 : Hid (∀ W, Below wr.heap.size wr W → Calls Tryz.prog 82 #[.int .i64 x.a] W fun e w' => e = .returned (.string (strB P2)) ∧ Below wr.heap.size wr w') := by rw [hP2]; exact clsI (HUI.out x hxm).2
              obtain ⟨Z1, hZ1⟩ : ∃ Z', Z' = Z ++ P1 := ⟨_, rfl⟩
              obtain ⟨Z2, hZ2⟩ : ∃ Z', Z' = Z1 ++ P2 := ⟨_, rfl⟩
              have sd1 := cadd hZ1 (by omega)
              have sd2 := cadd hZ2 (by rw [hZ1, List.length_append]; omega)
              have HZN : Hid (Z2 = X6 ++ ((u.ins.take (j + 1)).map insB).flatten) := by
                show _ = _
                rw [hZ2, hZ1, HZ.out, flat_succ insB u.ins hjl, ← hx, hP1, hP2]
                simp only [insB, List.append_assoc]
              have hbl9 : b7 < wr.heap.size := Nat.lt_of_lt_of_le hbl7 HBjw.out.size
              have r1 := cls_cell (n := wr.heap.size) q5 hql
              have r2 := cls_cell (n := wr.heap.size) d0 hbl9
              have r3 := cls_cell (n := wr.heap.size) d1 hbl9
              clear hx hxm hcc hP1 hP2 hsz hZ1 hZ2 hbl9
              go_upto_region 15 with fail
              refine wp_region_cls (n := wr.heap.size) (w0 := wr) (Below.refl _ _) (by kernel_rfl) (by kernel_rfl) ?_
              iterate 7 (go_big_quiet_step (fail))
              go_big_quiet_step (exact cls_calls K8.out _)
              iterate 7 (go_big_quiet_step (fail))
              go_big_quiet_step (exact cls_calls K9.out _)
              iterate 2 (go_big_quiet_step (fail))
              refine wpQuiet_nil ?_
              rintro _ ⟨cc, rfl⟩
              obtain ⟨w7, hb7⟩ := cc
              dsimp only
              have HB7 : Hid (Below w5.heap.size w5 w7) := HBj.out.trans (hb7.mono HBj.out.size)
              clear hb7 r1 r2 r3 sd1 sd2 d0 d1 q5 q6 hql
              go_wp2
              exact ⟨⟨j + 1, Z2, by omega, by go_num, rfl, HZN, HB7.out⟩, by simp [intOf]; omega⟩
            · obtain rfl : j = ni := by omega
              have hj2 : ¬ (j : Int) < j := by omega
              have HZE : Hid (Z = X6 ++ (u.ins.map insB).flatten) := by
                have h9 := HZ.out
                rw [HNI.out, List.take_length] at h9
                exact h9
              obtain ⟨X7, hX7⟩ : ∃ A, A = Z ++ Y7 := ⟨_, rfl⟩
              have se := cadd hX7 (by have := HS6.out; rw [HZE.out, List.length_append]; omega)
              have HX7 : Hid (X7 = X6 ++ (u.ins.map insB).flatten ++ Y7) := by rw [hX7, HZE.out]; exact rfl
              have cn7 := K7.out wr
              clear hX7
              go_wp2_with fail
              refine cn7.mono ?_
              clear cn7 q5 q6 hql
              rintro e w8 ⟨rfl, hb8⟩
              have HB8 : Hid (Below w5.heap.size w5 w8) := HBj.out.trans (hb8.mono HBj.out.size)
              clear hb8
              go_wp2
              go_loopw [3, 8] (fun s vi wr => ∃ (q : Nat) (V : List UInt8), q ≤ nv ∧ vi = .int .i64 (q : Int) ∧ s = .string (strB V) ∧ Hid (V = X7 ++ ((u.vars.take q).map vrB).flatten) ∧ Below w5.heap.size w5 wr) (fun _ vi _ => nv - (intOf vi).toNat)
              case atStart => exact ⟨0, X7, Nat.zero_le _, rfl, rfl, by show _ = _; simp, HB8.out⟩
              case round =>
                obtain ⟨q, V, hq, rfl, rfl, HV, hbr⟩ := hrel
                have HBq : Hid (Below w5.heap.size w5 wr) := hbr
                have HBqw : Hid (Below w.heap.size w wr) := HB5w.out.trans (hbr.mono HB5w.out.size)
                obtain ⟨⟨q5, q6⟩, hql⟩ := HFU.out wr hbr
                clear hbr
                by_cases hqt : q < nv
                · have hq2 : (q : Int) < nv := by omega
                  have hql2 : q < u.vars.length := by have := HNV.out; omega
                  obtain ⟨b7, o7, rfl, -, hbl7, hc7⟩ := HVAT.out q hql2
                  obtain ⟨x, hx⟩ : ∃ x, x = u.vars[q] := ⟨_, rfl⟩
                  rw [← hx] at hc7
                  obtain ⟨d0, d1, d2, d3⟩ := hc7
                  have hxm : x ∈ u.vars := hx ▸ List.getElem_mem hql2
                  have hcc : ∀ q, wr.cell? ⟨b7, q, none⟩ = w.cell? ⟨b7, q, none⟩ := fun q => below_cell HBqw.out hbl7
                  rw [← hcc] at d0 d1 d2 d3
                  obtain ⟨P1, hP1⟩ : ∃ Y, Y = txB x.name := ⟨_, rfl⟩
                  obtain ⟨P2, hP2⟩ : ∃ Y, Y = numB x.slot := ⟨_, rfl⟩
                  obtain ⟨P3, hP3⟩ : ∃ Y, Y = numB x.lo := ⟨_, rfl⟩
                  obtain ⟨P4, hP4⟩ : ∃ Y, Y = numB x.hi := ⟨_, rfl⟩
                  have hsz : V.length + P1.length + P2.length + P3.length + P4.length ≤ 140737488355328 := by
                    have h1 := flat_le vrB u.vars (q + 1)
                    rw [flat_succ vrB u.vars hql2, List.length_append, ← hx] at h1
                    have h3 : (vrB x).length = P1.length + (P2.length + (P3.length + P4.length)) := by rw [hP1, hP2, hP3, hP4]; simp [vrB]
                    have h2 := HS6.out
                    rw [HV.out, HX7.out]
                    simp only [List.length_append]
                    omega
                  obtain ⟨w9, hw9, hb9, HZ9, h9⟩ := box1 wr (.cells #[.string (strB x.name), .int .i64 x.slot, .int .i64 x.lo, .int .i64 x.hi] 121)
                  have HW9 : Hid (w9 = wr.alloc (.cells #[.string (strB x.name), .int .i64 x.slot, .int .i64 x.lo, .int .i64 x.hi] 121)) := hw9
                  have HB9 : Hid (Below w5.heap.size w5 w9) := HBq.out.trans (hb9.mono HBq.out.size)
                  have K8 : Hid (∀ W, Below w9.heap.size w9 W → Calls Tryz.prog 83 #[.string (strB x.name)] W fun e w' => e = .returned (.string (strB P1)) ∧ Below w9.heap.size w9 w') := by rw [hP1]; exact clsT (HUV.out x hxm).1
                  have K9 : Hid (∀ W, Below w9.heap.size w9 W → Calls Tryz.prog 82 #[.int .i64 x.slot] W fun e w' => e = .returned (.string (strB P2)) ∧ Below w9.heap.size w9 w') := by rw [hP2]; exact clsI (HUV.out x hxm).2.1
                  have K10 : Hid (∀ W, Below w9.heap.size w9 W → Calls Tryz.prog 82 #[.int .i64 x.lo] W fun e w' => e = .returned (.string (strB P3)) ∧ Below w9.heap.size w9 w') := by rw [hP3]; exact clsI (HUV.out x hxm).2.2.1
                  have K11 : Hid (∀ W, Below w9.heap.size w9 W → Calls Tryz.prog 82 #[.int .i64 x.hi] W fun e w' => e = .returned (.string (strB P4)) ∧ Below w9.heap.size w9 w') := by rw [hP4]; exact clsI (HUV.out x hxm).2.2.2
                  obtain ⟨V1, hV1⟩ : ∃ Z', Z' = V ++ P1 := ⟨_, rfl⟩
                  obtain ⟨V2, hV2⟩ : ∃ Z', Z' = V1 ++ P2 := ⟨_, rfl⟩
                  obtain ⟨V3, hV3⟩ : ∃ Z', Z' = V2 ++ P3 := ⟨_, rfl⟩
                  obtain ⟨V4, hV4⟩ : ∃ Z', Z' = V3 ++ P4 := ⟨_, rfl⟩
                  have l1 : V1.length = V.length + P1.length := by rw [hV1, List.length_append]
                  have l2 : V2.length = V1.length + P2.length := by rw [hV2, List.length_append]
                  have l3 : V3.length = V2.length + P3.length := by rw [hV3, List.length_append]
                  have sd1 := cadd hV1 (by omega)
                  have sd2 := cadd hV2 (by omega)
                  have sd3 := cadd hV3 (by omega)
                  have sd4 := cadd hV4 (by omega)
                  have HVN : Hid (V4 = X7 ++ ((u.vars.take (q + 1)).map vrB).flatten) := by
                    show _ = _
                    rw [hV4, hV3, hV2, hV1, HV.out, flat_succ vrB u.vars hql2, ← hx, hP1, hP2, hP3, hP4]
                    simp only [vrB, List.append_assoc]
                  obtain ⟨t0, t1, t2, t3⟩ := bcells4 h9
                  have hl9 := heap_lt h9
                  have r0 := cls_cell (n := w9.heap.size) t0 hl9
                  have r1 := cls_cell (n := w9.heap.size) t1 hl9
                  have r2 := cls_cell (n := w9.heap.size) t2 hl9
                  have r3 := cls_cell (n := w9.heap.size) t3 hl9
                  clear hx hxm hcc hP1 hP2 hP3 hP4 hsz hV1 hV2 hV3 hV4 l1 l2 l3 hw9 hb9 HZ9 h9 t0 t1 t2 t3 hl9
                  go_upto_region 21 with fail
                  rw [← HW9.out]
                  refine wp_region_cls (n := w9.heap.size) (w0 := w9) (Below.refl _ _) (by kernel_rfl) (by kernel_rfl) ?_
                  iterate 3 (go_big_quiet_step (fail))
                  go_big_quiet_step (exact cls_calls K8.out _)
                  iterate 3 (go_big_quiet_step (fail))
                  go_big_quiet_step (exact cls_calls K9.out _)
                  iterate 3 (go_big_quiet_step (fail))
                  go_big_quiet_step (exact cls_calls K10.out _)
                  iterate 3 (go_big_quiet_step (fail))
                  go_big_quiet_step (exact cls_calls K11.out _)
                  iterate 2 (go_big_quiet_step (fail))
                  refine wpQuiet_nil ?_
                  rintro _ ⟨cc, rfl⟩
                  obtain ⟨w10, hb10⟩ := cc
                  dsimp only
                  have HB10 : Hid (Below w5.heap.size w5 w10) := HB9.out.trans (hb10.mono HB9.out.size)
                  clear hb10 r0 r1 r2 r3 sd1 sd2 sd3 sd4 d0 d1 d2 d3 q5 q6 hql
                  go_wp2
                  exact ⟨⟨q + 1, V4, by omega, by go_num, rfl, HVN, HB10.out⟩, by simp [intOf]; omega⟩
                · obtain rfl : q = nv := by omega
                  have hq2 : ¬ (q : Int) < q := by omega
                  have HVE : Hid (V = A2 ++ ((c.units.take (k + 1)).map unB).flatten) := by
                    have h9 := HV.out
                    rw [HNV.out, List.take_length, HX7.out, HXU.out] at h9
                    exact h9
                  have HBE : Hid (Below w1.heap.size w1 wr) := HB5.out.trans (HBq.out.mono HB5.out.size)
                  go_wp2
                  exact ⟨⟨k + 1, V, by omega, by go_num, rfl, HVE, HBE.out⟩, by simp [intOf]; omega⟩
        · obtain rfl : k = nu := by omega
          have hk2 : ¬ (k : Int) < k := by omega
          have HXE : Hid (X = A2 ++ (c.units.map unB).flatten) := by
            have h9 := HX.out
            rw [HNU.out, List.take_length] at h9
            exact h9
          obtain ⟨A3, hA3⟩ : ∃ A, A = X ++ N3 := ⟨_, rfl⟩
          have sc := cadd hA3 (by have := HBb.out; rw [HXE.out, HA2.out]; simp only [List.length_append]; omega)
          have HA3 : Hid (A3 = R) := by rw [hA3, HXE.out, HA2.out, HRES.out]; exact rfl
          have cn := CN3.out wr
          clear hA3
          go_wp2_with fail
          refine cn.mono ?_
          clear cn
          rintro e w9 ⟨rfl, hb9⟩
          have HB9 : Hid (Below w.heap.size w w9) := HBw.out.trans (hb9.mono HBw.out.size)
          clear hb9
          go_wp2
          go_ret
          rw [HA3.out]
          exact ⟨rfl, HB9.out⟩
end Go.Proofs.YtechkkphbajmoaaGreatDoor
