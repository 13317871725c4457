/- code: the document's own answers: Check, Heights, Bytes. -/
import Derived.Test.YtechkkphbajmoaaGreatDoorCRfRight
import Derived.Test.YtechkkphbajmoaaGreatDoorCRefPut
namespace Go.Proofs.YtechkkphbajmoaaGreatDoor
open Go.RowKit Go.Shelf

set_option maxRecDepth 100000 in
set_option maxHeartbeats 4000000 in
theorem rfCheck (S : Nat → Prop) (c : Cd) (bs bh bu : Option Addr) (ns cs nh ch nu cu : Nat) (w : World) (hin : CodeIn S w c (.slice bs ns cs) (.slice bh nh ch) (.slice bu nu cu)) (hsm : SmallC c) (hints : IntsC c) (hun : ∀ u ∈ c.units, u.ins.length ≤ 1048576 ∧ u.vars.length ≤ 1048576) :
    Calls Tryz.prog 11 #[cdV (.slice bs ns cs) (.slice bh nh ch) (.slice bu nu cu) c.main] w fun e w' => e = .returned (.int .i64 (if rightC c then 0 else 2)) ∧ Below w.heap.size w w' := by
  obtain ⟨m, hm⟩ : ∃ m, m = c.main := ⟨_, rfl⟩
  rw [← hm]
  obtain ⟨w2, hw2, hb2, HZ2, h0⟩ := box1 w (.cells #[.slice bs ns cs, .slice bh nh ch, .slice bu nu cu, .int .i64 m] 26)
  have HW2 : Hid (w2 = w.alloc (.cells #[.slice bs ns cs, .slice bh nh ch, .slice bu nu cu, .int .i64 m] 26)) := hw2
  have HB2 : Hid (Below w.heap.size w w2) := hb2
  have HF : Hid (∀ W, Below w2.heap.size w2 W → W.cell? ⟨w.heap.size, 0, none⟩ = some (.slice bs ns cs) ∧ W.cell? ⟨w.heap.size, 1, none⟩ = some (.slice bh nh ch) ∧ W.cell? ⟨w.heap.size, 2, none⟩ = some (.slice bu nu cu) ∧ W.cell? ⟨w.heap.size, 3, none⟩ = some (.int .i64 m)) := fun W hW => by
    have hz := HZ2.out
    exact bcells4 ((hW.block w.heap.size (by omega)).trans h0)
  have c1 : Calls Tryz.prog 25 #[.agg #[.slice bs ns cs, .slice bh nh ch, .slice bu nu cu, .int .i64 m]] w2 fun e w' => e = .returned (.bool (rightC c)) ∧ Below w2.heap.size w2 w' := by
    rw [hm]; exact rfRight S c bs bh bu ns cs nh ch nu cu w2 (hin.below hb2) hsm hints hun
  obtain ⟨R, hR⟩ : ∃ R, R = rightC c := ⟨_, rfl⟩
  have HRE : Hid (R = rightC c) := hR
  rw [← hR] at c1
  rw [← hR]
  obtain ⟨p0, p1, p2, p3⟩ := HF.out w2 (Below.refl _ _)
  clear hw2 hb2 h0 hR hin hsm hints hun HZ2 hm
  go_enter Tryz.func11, Tryz.ntmps11
  go_wp2_with fail
  rw [← HW2.out]
  refine c1.mono ?_
  clear c1 p0 p1 p2 p3
  rintro e v1 ⟨rfl, hb1⟩
  have HV1 : Hid (Below w.heap.size w v1) := HB2.out.trans (hb1.mono HB2.out.size)
  clear hb1
  cases R with
  | true =>
    go_wp2
    go_ret
    exact ⟨rfl, HV1.out⟩
  | false =>
    go_wp2
    go_ret
    exact ⟨rfl, HV1.out⟩

/-- What the document's bytes are. -/
def RfBytes (c : Cd) (e : Ending) : Prop := (rightC c = false ∧ e = .returned (.tuple #[.string (strB []), .int .i64 2])) ∨ (rightC c = true ∧ e = .returned (.tuple #[.string (strB (cdB c)), .int .i64 0]))

set_option maxRecDepth 100000 in
set_option maxHeartbeats 4000000 in
theorem rfBytes (S : Nat → Prop) (c : Cd) (bs bh bu : Option Addr) (ns cs nh ch nu cu : Nat) (w : World) (hin : CodeIn S w c (.slice bs ns cs) (.slice bh nh ch) (.slice bu nu cu)) (hsm : SmallC c) (hints : IntsC c) (hun : ∀ u ∈ c.units, u.ins.length ≤ 1048576 ∧ u.vars.length ≤ 1048576) (hb : rightC c = true → (cdB c).length ≤ 140737488355328) :
    Calls Tryz.prog 14 #[cdV (.slice bs ns cs) (.slice bh nh ch) (.slice bu nu cu) c.main] w fun e w' => RfBytes c e ∧ Below w.heap.size w w' := by
  obtain ⟨m, hm⟩ : ∃ m, m = c.main := ⟨_, rfl⟩
  rw [← hm]
  obtain ⟨w2, hw2, hb2, HZ2, h0⟩ := box1 w (.cells #[.slice bs ns cs, .slice bh nh ch, .slice bu nu cu, .int .i64 m] 26)
  have HW2 : Hid (w2 = w.alloc (.cells #[.slice bs ns cs, .slice bh nh ch, .slice bu nu cu, .int .i64 m] 26)) := hw2
  have HB2 : Hid (Below w.heap.size w w2) := hb2
  have HF : Hid (∀ W, Below w2.heap.size w2 W → W.cell? ⟨w.heap.size, 0, none⟩ = some (.slice bs ns cs) ∧ W.cell? ⟨w.heap.size, 1, none⟩ = some (.slice bh nh ch) ∧ W.cell? ⟨w.heap.size, 2, none⟩ = some (.slice bu nu cu) ∧ W.cell? ⟨w.heap.size, 3, none⟩ = some (.int .i64 m)) := fun W hW => by
    have hz := HZ2.out
    exact bcells4 ((hW.block w.heap.size (by omega)).trans h0)
  have c1 : Calls Tryz.prog 25 #[.agg #[.slice bs ns cs, .slice bh nh ch, .slice bu nu cu, .int .i64 m]] w2 fun e w' => e = .returned (.bool (rightC c)) ∧ Below w2.heap.size w2 w' := by
    rw [hm]; exact rfRight S c bs bh bu ns cs nh ch nu cu w2 (hin.below hb2) hsm hints hun
  obtain ⟨R, hR⟩ : ∃ R, R = rightC c := ⟨_, rfl⟩
  have HRE : Hid (R = rightC c) := hR
  rw [← hR] at c1
  have HPUT : Hid (R = true → ∀ W, Below w.heap.size w W → Calls Tryz.prog 37 #[.agg #[.slice bs ns cs, .slice bh nh ch, .slice bu nu cu, .int .i64 m]] W fun e w' => e = .returned (.string (strB (cdB c))) ∧ Below W.heap.size W w') := fun hRt W hW => by
    rw [hm]; exact rfPut S c bs bh bu ns cs nh ch nu cu W (hin.below hW) hsm hints (hb (HRE.out.symm.trans hRt))
  obtain ⟨p0, p1, p2, p3⟩ := HF.out w2 (Below.refl _ _)
  clear hw2 hb2 h0 hR hin hsm hints hun HZ2 hm hb
  go_enter Tryz.func14, Tryz.ntmps14
  go_wp2_with fail
  rw [← HW2.out]
  refine c1.mono ?_
  clear c1 p0 p1 p2 p3
  rintro e v1 ⟨rfl, hb1⟩
  have HV2 : Hid (Below w2.heap.size w2 v1) := hb1
  have HV1 : Hid (Below w.heap.size w v1) := HB2.out.trans (hb1.mono HB2.out.size)
  clear hb1
  cases R with
  | true =>
    obtain ⟨p0, p1, p2, p3⟩ := HF.out v1 HV2.out
    have cp := HPUT.out rfl v1 HV1.out
    go_wp2_with fail
    refine cp.mono ?_
    clear cp p0 p1 p2 p3
    rintro e v3 ⟨rfl, hb3⟩
    have HV3 : Hid (Below w.heap.size w v3) := HV1.out.trans (hb3.mono HV1.out.size)
    clear hb3
    go_wp2
    go_ret2
    exact ⟨.inr ⟨HRE.out.symm, rfl⟩, HV3.out⟩
  | false =>
    go_wp2
    go_ret2
    exact ⟨.inl ⟨HRE.out.symm, rfl⟩, HV1.out⟩

set_option maxRecDepth 100000 in
set_option maxHeartbeats 8000000 in
theorem rfHeights (S : Nat → Prop) (c : Cd) (n : Int) (bs bh bu : Option Addr) (ns cs nh ch nu cu : Nat) (w : World) (hin : CodeIn S w c (.slice bs ns cs) (.slice bh nh ch) (.slice bu nu cu)) (hsm : SmallC c) (hints : IntsC c) (hun : ∀ u ∈ c.units, u.ins.length ≤ 1048576 ∧ u.vars.length ≤ 1048576) :
    Calls Tryz.prog 9 #[cdV (.slice bs ns cs) (.slice bh nh ch) (.slice bu nu cu) c.main, .int .i64 n] w fun e w' => HtRet w.heap.size c n e w' ∧ Below w.heap.size w w' := by
  obtain ⟨m, hm⟩ : ∃ m, m = c.main := ⟨_, rfl⟩
  rw [← hm]
  obtain ⟨w2, hw2, hb2, HZ2, h0⟩ := box1 w (.cells #[.slice bs ns cs, .slice bh nh ch, .slice bu nu cu, .int .i64 m] 26)
  have HW2 : Hid (w2 = w.alloc (.cells #[.slice bs ns cs, .slice bh nh ch, .slice bu nu cu, .int .i64 m] 26)) := hw2
  have HB2 : Hid (Below w.heap.size w w2) := hb2
  have HF : Hid (∀ W, Below w2.heap.size w2 W → W.cell? ⟨w.heap.size, 0, none⟩ = some (.slice bs ns cs) ∧ W.cell? ⟨w.heap.size, 1, none⟩ = some (.slice bh nh ch) ∧ W.cell? ⟨w.heap.size, 2, none⟩ = some (.slice bu nu cu) ∧ W.cell? ⟨w.heap.size, 3, none⟩ = some (.int .i64 m)) := fun W hW => by
    have hz := HZ2.out
    exact bcells4 ((hW.block w.heap.size (by omega)).trans h0)
  have c1 : Calls Tryz.prog 25 #[.agg #[.slice bs ns cs, .slice bh nh ch, .slice bu nu cu, .int .i64 m]] w2 fun e w' => e = .returned (.bool (rightC c)) ∧ Below w2.heap.size w2 w' := by
    rw [hm]; exact rfRight S c bs bh bu ns cs nh ch nu cu w2 (hin.below hb2) hsm hints hun
  obtain ⟨R, hR⟩ : ∃ R, R = rightC c := ⟨_, rfl⟩
  have HRE : Hid (R = rightC c) := hR
  rw [← hR] at c1
  obtain ⟨hnu, hatu⟩ : nu = c.units.length ∧ ∀ i (hi : i < c.units.length), ∃ b o, bu = some ⟨b, o, none⟩ ∧ S b ∧ b < w.heap.size ∧ unE S w b (o + i * 7) c.units[i] := by obtain ⟨b, c, e, -, -, h⟩ := hin.units.at; cases e; exact ⟨rfl, h⟩
  have HATU : Hid (∀ i (hi : i < c.units.length), ∃ b o, bu = some ⟨b, o, none⟩ ∧ S b ∧ b < w.heap.size ∧ unE S w b (o + i * 7) c.units[i]) := hatu
  have HNU : Hid (nu = c.units.length) := hnu
  have HIN : Hid (CodeIn S w c (.slice bs ns cs) (.slice bh nh ch) (.slice bu nu cu)) := hin
  have hnuI : (nu : Int) ≤ 1048576 := by have := hsm.nunits; omega
  obtain ⟨p0, p1, p2, p3⟩ := HF.out w2 (Below.refl _ _)
  clear hw2 hb2 h0 hR hin hsm hints hun HZ2 hm hnu hatu
  go_enter Tryz.func9, Tryz.ntmps9
  go_wp2_with fail
  rw [← HW2.out]
  refine c1.mono ?_
  clear c1 p0 p1 p2 p3
  rintro e v1 ⟨rfl, hb1⟩
  have HV2 : Hid (Below w2.heap.size w2 v1) := hb1
  have HV1 : Hid (Below w.heap.size w v1) := HB2.out.trans (hb1.mono HB2.out.size)
  clear hb1
  cases R with
  | false =>
    go_wp2
    go_ret2
    exact ⟨.inl ⟨HRE.out.symm, rfl⟩, HV1.out⟩
  | true =>
    obtain ⟨p0, p1, p2, p3⟩ := HF.out v1 HV2.out
    have cu1 := rfUpto n (nu : Int) v1
    by_cases hn : 0 ≤ n ∧ n < (nu : Int)
    · rw [decide_eq_true hn] at cu1
      obtain ⟨i, rfl⟩ : ∃ i : Nat, n = i := ⟨n.toNat, by omega⟩
      have hil : i < c.units.length := by have := HNU.out; omega
      have hi2 : (i : Int) < nu := hn.2
      go_wp2_with fail
      refine cu1.mono ?_
      clear cu1 p0 p1 p2 p3 hn
      rintro e v3 ⟨rfl, hb3⟩
      have HB3 : Hid (Below w2.heap.size w2 v3) := HV2.out.trans (hb3.mono HV2.out.size)
      have HB3w : Hid (Below w.heap.size w v3) := HV1.out.trans (hb3.mono HV1.out.size)
      clear hb3
      obtain ⟨p0, p1, p2, p3⟩ := HF.out v3 HB3.out
      obtain ⟨b, o, rfl, -, hbl9, hc⟩ := HATU.out i hil
      obtain ⟨x, hx⟩ : ∃ x, x = c.units[i] := ⟨_, rfl⟩
      rw [← hx] at hc
      have HX : Hid (x = c.units[i]) := hx
      have HXM : Hid (x ∈ c.units) := hx ▸ List.getElem_mem hil
      obtain ⟨e0, e1, e2, e3, e4, ⟨vi, e5, hvi⟩, vv, e6, hvv⟩ := hc
      obtain ⟨bi, ci, rfl, -⟩ := hvi.at
      obtain ⟨bv, cv, rfl, -⟩ := hvv.at
      obtain ⟨ni, hni⟩ : ∃ n, n = x.ins.length := ⟨_, rfl⟩
      obtain ⟨nv, hnv⟩ : ∃ n, n = x.vars.length := ⟨_, rfl⟩
      rw [← hni] at e5 hvi
      rw [← hnv] at e6 hvv
      obtain ⟨hout, huall, hhall⟩ := rightC_parts HRE.out.symm
      have HRH : Hid (RightH c x) := hhall x HXM.out
      have HPART := unitR_parts (huall x HXM.out)
      have HALLU : Hid (InsAll c x) := insAll_of (huall x HXM.out) huall (outR_shapes hout)
      have CH : Hid (∀ W, Below w.heap.size w W → Calls Tryz.prog 27 #[.agg #[.slice bs ns cs, .slice bh nh ch, .slice (some ⟨b, o, none⟩) nu cu, .int .i64 m], .agg #[.string (strB x.name), .int .i64 x.params, .int .i64 x.slots, .int .i64 x.stack, .bool x.result, .slice bi ni ci, .slice bv nv cv]] W fun e w' => HgRet W.heap.size c x e w' ∧ Below W.heap.size W w') := fun W hW =>
        rfHts S c bs bh (some ⟨b, o, none⟩) bi bv ns cs nh ch nu cu ni ci nv cv m x W (HIN.out.below hW).shapes (HIN.out.below hW).units (rowIn.kept hvi (insE_keeps S) hW.size fun a _ ha => hW.block a ha) HALLU.out HPART.2.2.1 HPART.2.2.2.1
      have HCF : Hid (∀ W, Below v3.heap.size v3 W → RgP w.heap.size b (o + i * 7) (.slice bs ns cs) (.slice bh nh ch) (.slice (some ⟨b, o, none⟩) nu cu) m x (.slice bi ni ci) (.slice bv nv cv) W) := fun W hW => by
        have hWw : Below w.heap.size w W := HB3w.out.trans (hW.mono HB3w.out.size)
        have hcc : ∀ a, W.cell? ⟨b, a, none⟩ = w.cell? ⟨b, a, none⟩ := fun a => below_cell hWw hbl9
        exact ⟨HF.out W (HB3.out.trans (hW.mono HB3.out.size)), (hcc _).trans e0, (hcc _).trans e1, (hcc _).trans e2, (hcc _).trans e3, (hcc _).trans e4, (hcc _).trans e5, (hcc _).trans e6⟩
      haveI hne : Nonempty (ClsP (RgP w.heap.size b (o + i * 7) (.slice bs ns cs) (.slice bh nh ch) (.slice (some ⟨b, o, none⟩) nu cu) m x (.slice bi ni ci) (.slice bv nv cv))) := ⟨⟨v3, HCF.out v3 (Below.refl _ _)⟩⟩
      have X0 : ∀ c' : ClsP (RgP w.heap.size b (o + i * 7) (.slice bs ns cs) (.slice bh nh ch) (.slice (some ⟨b, o, none⟩) nu cu) m x (.slice bi ni ci) (.slice bv nv cv)), c'.1.cell? ⟨w.heap.size, 0, none⟩ = some (.slice bs ns cs) := fun c' => c'.2.1.1
      have X1 : ∀ c' : ClsP (RgP w.heap.size b (o + i * 7) (.slice bs ns cs) (.slice bh nh ch) (.slice (some ⟨b, o, none⟩) nu cu) m x (.slice bi ni ci) (.slice bv nv cv)), c'.1.cell? ⟨w.heap.size, 1, none⟩ = some (.slice bh nh ch) := fun c' => c'.2.1.2.1
      have X2 : ∀ c' : ClsP (RgP w.heap.size b (o + i * 7) (.slice bs ns cs) (.slice bh nh ch) (.slice (some ⟨b, o, none⟩) nu cu) m x (.slice bi ni ci) (.slice bv nv cv)), c'.1.cell? ⟨w.heap.size, 2, none⟩ = some (.slice (some ⟨b, o, none⟩) nu cu) := fun c' => c'.2.1.2.2.1
      have X3 : ∀ c' : ClsP (RgP w.heap.size b (o + i * 7) (.slice bs ns cs) (.slice bh nh ch) (.slice (some ⟨b, o, none⟩) nu cu) m x (.slice bi ni ci) (.slice bv nv cv)), c'.1.cell? ⟨w.heap.size, 3, none⟩ = some (.int .i64 m) := fun c' => c'.2.1.2.2.2
      have X4 : ∀ c' : ClsP (RgP w.heap.size b (o + i * 7) (.slice bs ns cs) (.slice bh nh ch) (.slice (some ⟨b, o, none⟩) nu cu) m x (.slice bi ni ci) (.slice bv nv cv)), c'.1.cell? ⟨b, o + i * 7, none⟩ = some (.string (strB x.name)) := fun c' => c'.2.2.1
      have X5 : ∀ c' : ClsP (RgP w.heap.size b (o + i * 7) (.slice bs ns cs) (.slice bh nh ch) (.slice (some ⟨b, o, none⟩) nu cu) m x (.slice bi ni ci) (.slice bv nv cv)), c'.1.cell? ⟨b, o + i * 7 + 1, none⟩ = some (.int .i64 x.params) := fun c' => c'.2.2.2.1
      have X6 : ∀ c' : ClsP (RgP w.heap.size b (o + i * 7) (.slice bs ns cs) (.slice bh nh ch) (.slice (some ⟨b, o, none⟩) nu cu) m x (.slice bi ni ci) (.slice bv nv cv)), c'.1.cell? ⟨b, o + i * 7 + 2, none⟩ = some (.int .i64 x.slots) := fun c' => c'.2.2.2.2.1
      have X7 : ∀ c' : ClsP (RgP w.heap.size b (o + i * 7) (.slice bs ns cs) (.slice bh nh ch) (.slice (some ⟨b, o, none⟩) nu cu) m x (.slice bi ni ci) (.slice bv nv cv)), c'.1.cell? ⟨b, o + i * 7 + 3, none⟩ = some (.int .i64 x.stack) := fun c' => c'.2.2.2.2.2.1
      have X8 : ∀ c' : ClsP (RgP w.heap.size b (o + i * 7) (.slice bs ns cs) (.slice bh nh ch) (.slice (some ⟨b, o, none⟩) nu cu) m x (.slice bi ni ci) (.slice bv nv cv)), c'.1.cell? ⟨b, o + i * 7 + 4, none⟩ = some (.bool x.result) := fun c' => c'.2.2.2.2.2.2.1
      have X9 : ∀ c' : ClsP (RgP w.heap.size b (o + i * 7) (.slice bs ns cs) (.slice bh nh ch) (.slice (some ⟨b, o, none⟩) nu cu) m x (.slice bi ni ci) (.slice bv nv cv)), c'.1.cell? ⟨b, o + i * 7 + 5, none⟩ = some (.slice bi ni ci) := fun c' => c'.2.2.2.2.2.2.2.1
      have X10 : ∀ c' : ClsP (RgP w.heap.size b (o + i * 7) (.slice bs ns cs) (.slice bh nh ch) (.slice (some ⟨b, o, none⟩) nu cu) m x (.slice bi ni ci) (.slice bv nv cv)), c'.1.cell? ⟨b, o + i * 7 + 6, none⟩ = some (.slice bv nv cv) := fun c' => c'.2.2.2.2.2.2.2.2
      clear hx hvi hvv hni hnv e0 e1 e2 e3 e4 e5 e6 p0 p1 p2 p3 HPART hout huall hhall
      go_upto_region 5 with fail
      refine mix_begin (n := 12) (S := fun w' => ∃ c' : ClsP (RgP w.heap.size b (o + i * 7) (.slice bs ns cs) (.slice bh nh ch) (.slice (some ⟨b, o, none⟩) nu cu) m x (.slice bi ni ci) (.slice bv nv cv)), w' = c'.1) (by kernel_rfl) rfl rfl ?_
      refine mix_seg (fuel := 6) (fuel' := 12) (idx := [0, 1, 2, 3, 4, 5]) (by kernel_rfl) rfl rfl rfl (fun _ _ _ _ _ h => h) ⟨⟨v3.drew, HCF.out v3.drew (Below.refl _ _).drew⟩, rfl⟩ ?_
      show wpQuiet _ _ _ _ [_, _, _, _, _, _] _
      iterate 6 (go_big_quiet_step (fail))
      refine wpQuiet_nil ?_
      have HV0 : Hid (Below v3.heap.size v3 v3.drew) := (Below.refl _ _).drew
      refine mix_loud (fuel := 5) (fuel' := 6) (i := 6) rfl (by kernel_rfl) rfl rfl (by rfl) ?_
      intro K hK
      go_simp
      refine (CH.out v3.drew (HB3w.out.trans (HV0.out.mono HB3w.out.size))).mono ?_
      rintro e z ⟨hret, hb⟩
      have HZ : Hid (Below v3.heap.size v3 z) := HV0.out.trans (hb.mono HV0.out.size)
      have HZw : Hid (Below w.heap.size w z) := HB3w.out.trans (HZ.out.mono HB3w.out.size)
      clear hb
      rcases hret with ⟨-, v9, rfl, hrow⟩ | ⟨hr, -⟩
      · have HROW : Hid (rowIn (fun b => w.heap.size ≤ b) z v9 1 intE (hts c x)) := by
          exact rowIn.wide hrow (fun q _ (hq : v3.drew.heap.size ≤ q) => show w.heap.size ≤ q by have h1 := HV0.out.size; have h2 := HB3w.out.size; omega) fun _ _ _ h => h
        obtain ⟨b9, c9, rfl, -, -, -⟩ := hrow.at
        clear hrow
        (try go_simp)
        refine hK.out _ _ ⟨⟨z, HCF.out z HZ.out⟩, rfl⟩ ?_
        clear hK K
        refine mix_seg (fuel := 0) (fuel' := 5) (idx := [7, 8, 9, 10, 11]) (by kernel_rfl) rfl rfl rfl (fun _ _ _ _ _ h => h) ⟨⟨z, HCF.out z HZ.out⟩, rfl⟩ ?_
        show wpQuiet _ _ _ _ [_, _, _, _, _] _
        iterate 5 (go_big_quiet_step (fail))
        refine wpQuiet_nil ?_
        refine mix_done (by kernel_rfl) ?_
        clear X0 X1 X2 X3 X4 X5 X6 X7 X8 X9 X10
        go_wp2
        go_ret2
        exact ⟨.inr (.inr ⟨HRE.out.symm, i, hil, _, rfl, rfl, HX.out ▸ HROW.out⟩), HZw.out⟩
      · exact absurd HRH.out hr
    · rw [decide_eq_false hn] at cu1
      have HNN : Hid (¬ (0 ≤ n ∧ n < (c.units.length : Int))) := fun h => hn (by have := HNU.out; omega)
      clear hn
      go_wp2_with fail
      refine cu1.mono ?_
      clear cu1 p0 p1 p2 p3
      rintro e v3 ⟨rfl, hb3⟩
      have HB3w : Hid (Below w.heap.size w v3) := HV1.out.trans (hb3.mono HV1.out.size)
      clear hb3
      go_wp2
      go_ret2
      exact ⟨.inr (.inl ⟨HRE.out.symm, HNN.out, rfl⟩), HB3w.out⟩
end Go.Proofs.YtechkkphbajmoaaGreatDoor
