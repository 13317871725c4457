/- code: the document's own words: is a code right. -/
import Derived.Test.YtechkkphbajmoaaGreatDoorCRfUnit
import Derived.Test.YtechkkphbajmoaaGreatDoorCRfHeights
import Derived.Test.YtechkkphbajmoaaGreatDoorCList
import Derived.Test.YtechkkphbajmoaaGreatDoorMC
import Derived.Test.YtechkkphbajmoaaGreatDoorWMix
namespace Go.Proofs.YtechkkphbajmoaaGreatDoor
open Go.RowKit Go.Shelf

/-- A code is right, word by word. -/
structure RightP (c : Cd) : Prop where
  strs : (c.strs.length : Int) ≤ 1024
  shapes : (c.shapes.length : Int) ≤ 16
  units : (c.units.length : Int) ≤ 32
  main : 0 ≤ c.main ∧ c.main < (c.units.length : Int)
  plain : ∀ j (h : j < c.strs.length), backB 3 0 c.strs[j]
  shape : ∀ j (h : j < c.shapes.length), shR c.shapes[j] = true
  shNames : NamesOk (c.shapes.map Sh.name)
  unNames : NamesOk (c.units.map Un.name)
  bare : ∀ (h : c.main.toNat < c.units.length), c.units[c.main.toNat].params = 0 ∧ c.units[c.main.toNat].result = false
  unit : ∀ j (h : j < c.units.length), unitR c.strs.length c.shapes.length c.units.length c.units[j] = true
  heights : ∀ j (h : j < c.units.length), RightH c c.units[j]
theorem rightP_of {c : Cd} (h : rightC c = true) : RightP c := by
  obtain ⟨ho, hu, hh⟩ := rightC_parts h
  unfold outR mainR namesR at ho
  simp only [Bool.and_eq_true, decide_eq_true_eq, List.all_eq_true, List.length_map] at ho
  obtain ⟨h1, h2, ⟨h3, h4⟩, h5, ⟨h6, h7⟩, h8, h9⟩ := ho
  refine ⟨h1, h3.2, h6.2, ⟨h8.1, by omega⟩, fun j hj => h2 _ (List.getElem_mem hj), fun j hj => h5 _ (List.getElem_mem hj), h4, h7, fun hm => ?_, fun j hj => hu _ (List.getElem_mem hj), fun j hj => hh _ (List.getElem_mem hj)⟩
  rw [List.getElem?_eq_getElem hm] at h9
  simp only [Bool.and_eq_true, decide_eq_true_eq, Bool.not_eq_true'] at h9
  exact h9
theorem rightP_to {c : Cd} (h : RightP c) : rightC c = true := by
  have hm : c.main.toNat < c.units.length := by have := h.main; omega
  unfold rightC outR mainR namesR
  simp only [Bool.and_eq_true, decide_eq_true_eq, List.length_map]
  refine ⟨⟨h.strs, ?_, ⟨⟨by omega, h.shapes⟩, h.shNames⟩, all_true h.shape, ⟨⟨by have := h.main; omega, h.units⟩, h.unNames⟩, ⟨h.main.1, by have := h.main; omega⟩, ?_⟩, all_true h.unit, all_true fun j hj => rchR_true (h.heights j hj)⟩
  · exact all_true fun j hj => decide_eq_true (h.plain j hj)
  · rw [List.getElem?_eq_getElem hm]
    simp only [Bool.and_eq_true, decide_eq_true_eq, Bool.not_eq_true']
    exact h.bare hm
theorem shR_no {x : Sh} (h : ¬ (1 ≤ (x.fields.length : Int) ∧ (x.fields.length : Int) ≤ 8)) : shR x = false := namesR_no (decide_eq_false h)
theorem shR_at {x : Sh} (h : 1 ≤ (x.fields.length : Int) ∧ (x.fields.length : Int) ≤ 8) : shR x = decide (NamesOk x.fields) := by unfold shR namesR; rw [decide_eq_true h, Bool.true_and]
theorem own_strs0 {w : World} {B e : Nat} {v : Value} {l : List (List UInt8)} (h : w.ownsRow B e 1 v l.length (strC l)) : rowIn (fun q => B ≤ q) w v 1 strE l := by
  have h2 := h
  obtain ⟨-, ⟨hv, h0⟩ | ⟨g1, cap1, cur, hv, hB, hb, hc, hm, -⟩⟩ := h2
  · have : l = [] := List.length_eq_zero_iff.1 h0
    subst this
    exact ⟨none, 0, hv, Nat.le_refl _, Nat.zero_le _, .inl rfl⟩
  · subst hv
    refine ⟨_, cap1, rfl, hc, hm, .inr ⟨g1, 0, rfl, hB, heap_lt hb, fun j hj => ?_⟩⟩
    have := h.cellAt j (by omega)
    show w.cell? ⟨g1, 0 + j * 1, none⟩ = _
    rw [Nat.zero_add, Nat.mul_one, this]
    simp [strC, hj]
abbrev unC (w : World) (b o : Nat) (u : Un) (vi vv : Value) : Prop := w.cell? ⟨b, o, none⟩ = some (.string (strB u.name)) ∧ w.cell? ⟨b, o + 1, none⟩ = some (.int .i64 u.params) ∧ w.cell? ⟨b, o + 2, none⟩ = some (.int .i64 u.slots) ∧ w.cell? ⟨b, o + 3, none⟩ = some (.int .i64 u.stack) ∧ w.cell? ⟨b, o + 4, none⟩ = some (.bool u.result) ∧ w.cell? ⟨b, o + 5, none⟩ = some vi ∧ w.cell? ⟨b, o + 6, none⟩ = some vv
/-- The cells of a code's box, and of a unit. -/
abbrev RgP (a b o : Nat) (vs vh vu : Value) (m : Int) (x : Un) (vi vv : Value) (W : World) : Prop := (W.cell? ⟨a, 0, none⟩ = some vs ∧ W.cell? ⟨a, 1, none⟩ = some vh ∧ W.cell? ⟨a, 2, none⟩ = some vu ∧ W.cell? ⟨a, 3, none⟩ = some (.int .i64 m)) ∧ unC W b o x vi vv
theorem names_snoc {α : Type} (f : α → List UInt8) (l : List α) {k : Nat} (hk : k < l.length) : (l.take (k + 1)).map f = (l.take k).map f ++ [f l[k]] := by
  have h : l.take k ++ [l[k]] = l.take (k + 1) := List.take_append_getElem hk
  rw [← h, List.map_append]
  rfl

set_option maxRecDepth 100000 in
set_option maxHeartbeats 16000000 in
theorem rfRight (S : Nat → Prop) (c : Cd) (bs bh bu : Option Addr) (ns cs nh ch nu cu : Nat) (w : World) (hin : CodeIn S w c (.slice bs ns cs) (.slice bh nh ch) (.slice bu nu cu)) (hsm : SmallC c) (hints : IntsC c) (hun : ∀ u ∈ c.units, u.ins.length ≤ 1048576 ∧ u.vars.length ≤ 1048576) :
    Calls Tryz.prog 25 #[cdV (.slice bs ns cs) (.slice bh nh ch) (.slice bu nu cu) c.main] w fun e w' => e = .returned (.bool (rightC c)) ∧ Below w.heap.size w w' := by
  obtain ⟨m, hm⟩ : ∃ m, m = c.main := ⟨_, rfl⟩
  rw [← hm]
  have HM : Hid (m = c.main) := hm
  obtain ⟨w2, hw2, hb2, HZ2, h0⟩ := box1 w (.cells #[.slice bs ns cs, .slice bh nh ch, .slice bu nu cu, .int .i64 m] 26)
  have HW2 : Hid (w2 = w.alloc (.cells #[.slice bs ns cs, .slice bh nh ch, .slice bu nu cu, .int .i64 m] 26)) := hw2
  have HB2 : Hid (Below w.heap.size w w2) := hb2
  have HF : Hid (∀ W, Below w2.heap.size w2 W → W.cell? ⟨w.heap.size, 0, none⟩ = some (.slice bs ns cs) ∧ W.cell? ⟨w.heap.size, 1, none⟩ = some (.slice bh nh ch) ∧ W.cell? ⟨w.heap.size, 2, none⟩ = some (.slice bu nu cu) ∧ W.cell? ⟨w.heap.size, 3, none⟩ = some (.int .i64 m)) := fun W hW => by
    have hz := HZ2.out
    exact bcells4 ((hW.block w.heap.size (by omega)).trans h0)
  have HSZ : Hid (w.heap.size < w2.heap.size) := heap_lt h0
  obtain ⟨hns, hats⟩ : ns = c.strs.length ∧ ∀ i (hi : i < c.strs.length), ∃ b o, bs = some ⟨b, o, none⟩ ∧ S b ∧ b < w.heap.size ∧ strE w b (o + i * 1) c.strs[i] := by obtain ⟨b, c, e, -, -, h⟩ := hin.strs.at; cases e; exact ⟨rfl, h⟩
  obtain ⟨hnh, hath⟩ : nh = c.shapes.length ∧ ∀ i (hi : i < c.shapes.length), ∃ b o, bh = some ⟨b, o, none⟩ ∧ S b ∧ b < w.heap.size ∧ shE S w b (o + i * 2) c.shapes[i] := by obtain ⟨b, c, e, -, -, h⟩ := hin.shapes.at; cases e; exact ⟨rfl, h⟩
  obtain ⟨hnu, hatu⟩ : nu = c.units.length ∧ ∀ i (hi : i < c.units.length), ∃ b o, bu = some ⟨b, o, none⟩ ∧ S b ∧ b < w.heap.size ∧ unE S w b (o + i * 7) c.units[i] := by obtain ⟨b, c, e, -, -, h⟩ := hin.units.at; cases e; exact ⟨rfl, h⟩
  have HATS : Hid (∀ i (hi : i < c.strs.length), ∃ b o, bs = some ⟨b, o, none⟩ ∧ S b ∧ b < w.heap.size ∧ strE w b (o + i * 1) c.strs[i]) := hats
  have HATH : Hid (∀ i (hi : i < c.shapes.length), ∃ b o, bh = some ⟨b, o, none⟩ ∧ S b ∧ b < w.heap.size ∧ shE S w b (o + i * 2) c.shapes[i]) := hath
  have HATU : Hid (∀ i (hi : i < c.units.length), ∃ b o, bu = some ⟨b, o, none⟩ ∧ S b ∧ b < w.heap.size ∧ unE S w b (o + i * 7) c.units[i]) := hatu
  have HNS : Hid (ns = c.strs.length) := hns
  have HNH : Hid (nh = c.shapes.length) := hnh
  have HNU : Hid (nu = c.units.length) := hnu
  have HIN : Hid (CodeIn S w c (.slice bs ns cs) (.slice bh nh ch) (.slice bu nu cu)) := hin
  have HSM : Hid (SmallC c) := hsm
  have HIT : Hid (IntsC c) := hints
  have HUNL : Hid (∀ u ∈ c.units, u.ins.length ≤ 1048576 ∧ u.vars.length ≤ 1048576) := hun
  obtain ⟨R, hR⟩ : ∃ R, R = rightC c := ⟨_, rfl⟩
  rw [← hR]
  have HP : Hid (¬ RightP c → R = false) := fun h => by
    rw [hR, Bool.eq_false_iff]
    exact fun e => h (rightP_of e)
  have HPT : Hid (RightP c → R = true) := fun h => by rw [hR]; exact rightP_to h
  have hnsI : (ns : Int) ≤ 1048576 := by have := hsm.nstrs; omega
  have hnhI : (nh : Int) ≤ 1048576 := by have := hsm.nshapes; omega
  have hnuI : (nu : Int) ≤ 1048576 := by have := hsm.nunits; omega
  obtain ⟨i0, hinf, hz0, hz1, hz2⟩ := info_parts info_str
  obtain ⟨p0, p1, p2, p3⟩ := HF.out w2 (Below.refl _ _)
  have cu := rfUpto m (nu : Int) w2
  clear hm hw2 hb2 HZ2 h0 hin hsm hints hun hR hats hath hatu hns hnh hnu
  go_enter Tryz.func25, Tryz.ntmps25
  go_upto_region 1 with fail
  rw [← HW2.out]
  by_cases b1 : 1024 < (ns : Int)
  · have HFA : Hid (R = false) := HP.out fun h => by have := h.strs; have := HNS.out; omega
    clear cu
    go_wp2
    go_ret
    rw [HFA.out]
    exact ⟨rfl, HB2.out⟩
  have k1 : (ns : Int) ≤ 1024 := by omega
  clear b1
  by_cases b2 : 16 < (nh : Int)
  · have HFA : Hid (R = false) := HP.out fun h => by have := h.shapes; have := HNH.out; omega
    clear cu
    go_wp2
    go_ret
    rw [HFA.out]
    exact ⟨rfl, HB2.out⟩
  have k2 : (nh : Int) ≤ 16 := by omega
  clear b2
  by_cases b3 : 32 < (nu : Int)
  · have HFA : Hid (R = false) := HP.out fun h => by have := h.units; have := HNU.out; omega
    clear cu
    go_wp2
    go_ret
    rw [HFA.out]
    exact ⟨rfl, HB2.out⟩
  have k3 : (nu : Int) ≤ 32 := by omega
  clear b3
  by_cases b4 : 0 ≤ m ∧ m < (nu : Int)
  · rw [decide_eq_true b4] at cu
    have HK : Hid ((ns : Int) ≤ 1024 ∧ (nh : Int) ≤ 16 ∧ (nu : Int) ≤ 32 ∧ 0 ≤ m ∧ m < (nu : Int)) := ⟨k1, k2, k3, b4⟩
    go_wp2_with fail
    refine cu.mono ?_
    clear cu p0 p1 p2 p3
    rintro e w3 ⟨rfl, hb3⟩
    have HB3 : Hid (Below w2.heap.size w2 w3) := hb3
    clear hb3 b4
    go_wp2
    go_loopw [3] (fun vi wr => ∃ i : Nat, i ≤ ns ∧ vi = .int .i64 (i : Int) ∧ Hid (∀ j (hj : j < c.strs.length), j < i → backB 3 0 c.strs[j]) ∧ Below w2.heap.size w2 wr) (fun vi _ => ns - (intOf vi).toNat)
    case atStart => exact ⟨0, Nat.zero_le _, rfl, fun j _ h => by omega, HB3.out⟩
    case round =>
      obtain ⟨i, hi, rfl, HPL, hbr⟩ := hrel
      have HB : Hid (Below w2.heap.size w2 wr) := hbr
      have HBw : Hid (Below w.heap.size w wr) := HB2.out.trans (hbr.mono HB2.out.size)
      obtain ⟨p0, p1, p2, p3⟩ := HF.out wr hbr
      clear hbr
      by_cases hlt : i < ns
      · have hi2 : (i : Int) < ns := by omega
        have hil : i < c.strs.length := by have := HNS.out; omega
        obtain ⟨b, o, rfl, -, hbl, hc⟩ := HATS.out i hil
        obtain ⟨s, hs⟩ : ∃ s, s = c.strs[i] := ⟨_, rfl⟩
        have hcell : wr.cell? ⟨b, o + i, none⟩ = some (.string (strB s)) := by
          have := (below_cell (g := b) (j := o + i * 1) HBw.out hbl).trans hc
          rw [hs]
          simpa only [Nat.mul_one] using this
        have HS : Hid (s = c.strs[i]) := hs
        have cp := refPlain_any s wr (by have := HSM.out.strs _ (List.getElem_mem hil); rw [hs]; omega)
        rw [← back3D] at cp
        clear hs hc
        by_cases hbk : backB 3 0 s
        · rw [decide_eq_true hbk] at cp
          have HNX : Hid (∀ j (hj : j < c.strs.length), j < i + 1 → backB 3 0 c.strs[j]) := fun j hj hji => by
            by_cases e : j = i
            · subst e; rw [← HS.out]; exact hbk
            · exact HPL.out j hj (by omega)
          clear hbk
          go_wp2_with fail
          refine cp.mono ?_
          clear cp hcell p0 p1 p2 p3
          rintro e w4 ⟨rfl, rfl⟩
          go_wp2
          exact ⟨⟨i + 1, by omega, by go_num, HNX, HB.out⟩, by simp [intOf]; omega⟩
        · rw [decide_eq_false hbk] at cp
          have HFA : Hid (R = false) := HP.out fun h => hbk (by rw [HS.out]; exact h.plain i hil)
          clear hbk
          go_wp2_with fail
          refine cp.mono ?_
          clear cp hcell p0 p1 p2 p3
          rintro e w4 ⟨rfl, rfl⟩
          go_wp2
          go_ret
          rw [HFA.out]
          exact ⟨rfl, HBw.out⟩
      · obtain rfl : i = ns := by omega
        have hi2 : ¬ (i : Int) < i := by omega
        have HPLAIN : Hid (∀ j (hj : j < c.strs.length), backB 3 0 c.strs[j]) := fun j hj => HPL.out j hj (by have := HNS.out; omega)
        obtain ⟨wA, hwA⟩ : ∃ wA, wA = wr := ⟨_, rfl⟩
        rw [← hwA] at HB HBw p0 p1 p2 p3 ⊢
        have HBA : Hid (Below w2.heap.size w2 wA) := HB.out
        clear HPL hlt hwA
        go_wp2
        clear p0 p1 p2 p3
        go_loopw [4, 5] (fun v vi wr => ∃ k : Nat, k ≤ nh ∧ vi = .int .i64 (k : Int) ∧ ListJ wA.heap.size wA wr v ((c.shapes.take k).map Sh.name) ∧ Hid (∀ j (hj : j < c.shapes.length), j < k → shR c.shapes[j] = true)) (fun _ vi _ => nh - (intOf vi).toNat)
        case atStart => exact ⟨0, Nat.zero_le _, rfl, ⟨World.ownsRow_nil _ _ _ _, Below.refl _ _, Nat.le_refl _⟩, fun j _ h => by omega⟩
        case round =>
          obtain ⟨k, hk, rfl, hJ, HSH⟩ := hrel
          have HJ : Hid (ListJ wA.heap.size wA wr u4 ((c.shapes.take k).map Sh.name)) := hJ
          have HB4 : Hid (Below w2.heap.size w2 wr) := HBA.out.trans (hJ.below.mono HBA.out.size)
          have HB4w : Hid (Below w.heap.size w wr) := HB2.out.trans (HB4.out.mono HB2.out.size)
          obtain ⟨n4, b4, c4, rfl⟩ := own_form1 hJ.row
          obtain ⟨p0, p1, p2, p3⟩ := HF.out wr HB4.out
          by_cases hlt : k < nh
          · have hk2 : (k : Int) < nh := by omega
            have hkl : k < c.shapes.length := by have := HNH.out; omega
            obtain ⟨b, o, rfl, -, hbl, hc⟩ := HATH.out k hkl
            obtain ⟨x, hx⟩ : ∃ x, x = c.shapes[k] := ⟨_, rfl⟩
            rw [← hx] at hc
            have HX : Hid (x = c.shapes[k]) := hx
            obtain ⟨f0, vf, f1, hf⟩ := hc
            obtain ⟨bf, cf, rfl, -⟩ := hf.at
            have hcc : ∀ q, wr.cell? ⟨b, q, none⟩ = w.cell? ⟨b, q, none⟩ := fun q => below_cell HB4w.out hbl
            rw [← hcc] at f0 f1
            obtain ⟨nf, hnf⟩ : ∃ n, n = x.fields.length := ⟨_, rfl⟩
            have HNF : Hid (nf = x.fields.length) := hnf
            rw [← hnf] at f1
            have hfs : strsIn S wr (.slice bf nf cf) x.fields := by rw [hnf]; exact rowIn.kept hf (strE_keeps S) HB4w.out.size fun q _ hq => HB4w.out.block q hq
            have HFB : Hid (shR x = false → R = false) := fun h => HP.out fun hp => by
              have := hp.shape k hkl
              rw [← HX.out, h] at this
              cases this
            by_cases hf1 : nf = 0
            · subst hf1
              have HFA : Hid (R = false) := HFB.out (shR_no (by have := HNF.out; omega))
              clear hJ hcc hf hfs hx hnf
              go_wp2
              go_ret
              rw [HFA.out]
              exact ⟨rfl, HB4w.out⟩
            have hf1a : (1 : Int) ≤ nf := by omega
            have hf1b : 1 ≤ nf := by omega
            by_cases hf2 : 8 < (nf : Int)
            · have HFA : Hid (R = false) := HFB.out (shR_no (by have := HNF.out; omega))
              clear hJ hcc hf hfs hx hnf
              go_wp2
              go_ret
              rw [HFA.out]
              exact ⟨rfl, HB4w.out⟩
            have hf2a : (nf : Int) ≤ 8 := by omega
            have HSA : Hid (shR x = decide (NamesOk x.fields)) := shR_at (by have := HNF.out; omega)
            have cn := rfNames S x.fields (.slice bf nf cf) wr hfs (by
              have h9 := HSM.out.field _ (List.getElem_mem hkl)
              rw [← HX.out] at h9
              exact h9) (by have := HNF.out; omega)
            rw [← HSA.out] at cn
            obtain ⟨xn, hxn⟩ : ∃ n, n = x.name := ⟨_, rfl⟩
            have HXN : Hid (xn = x.name) := hxn
            rw [← hxn] at f0
            obtain ⟨D, hD⟩ : ∃ D, D = shR x := ⟨_, rfl⟩
            have HD : Hid (D = shR x) := hD
            rw [← hD] at cn
            clear hJ hf hfs hx hnf hxn hD hf2 hf1 hcc
            cases D with
            | false =>
              have HFA : Hid (R = false) := HFB.out HD.out.symm
              go_wp2_with fail
              refine cn.mono ?_
              clear cn f0 f1 p0 p1 p2 p3
              rintro e w5 ⟨rfl, hb5⟩
              have HB5w : Hid (Below w.heap.size w w5) := HB4w.out.trans (hb5.mono HB4w.out.size)
              clear hb5
              go_wp2
              go_ret
              rw [HFA.out]
              exact ⟨rfl, HB5w.out⟩
            | true =>
              go_wp2_with fail
              refine cn.mono ?_
              clear cn f1 p0 p1 p2 p3
              rintro e w5 ⟨rfl, hb5⟩
              have HB5 : Hid (Below w2.heap.size w2 w5) := HB4.out.trans (hb5.mono HB4.out.size)
              have HB5w : Hid (Below w.heap.size w w5) := HB4w.out.trans (hb5.mono HB4w.out.size)
              have HJ5 : Hid (ListJ wA.heap.size wA w5 (.slice b4 n4 c4) ((c.shapes.take k).map Sh.name)) := HJ.out.new hb5
              obtain ⟨p0, p1, p2, p3⟩ := HF.out w5 HB5.out
              have hc5 : w5.cell? ⟨b, o + k * 2, none⟩ = some (.string (strB xn)) := (below_cell hb5 (Nat.lt_of_lt_of_le hbl HB4w.out.size)).trans f0
              have HPL : Hid (((c.shapes.take k).map Sh.name).length ≤ 16) := by
                show _ ≤ _
                rw [List.length_map, List.length_take]
                have := HK.out.2.1
                omega
              obtain ⟨P, hP⟩ : ∃ P, P = (c.shapes.take k).map Sh.name := ⟨_, rfl⟩
              have HPE : Hid ((c.shapes.take (k + 1)).map Sh.name = P ++ [xn]) := by
                show _ = _
                rw [names_snoc Sh.name c.shapes hkl, hP, HXN.out, HX.out]
              have HSHN : Hid (∀ j (hj : j < c.shapes.length), j < k + 1 → shR c.shapes[j] = true) := fun j hj hji => by
                by_cases e : j = k
                · subst e; rw [← HX.out]; exact HD.out.symm
                · exact HSH.out j hj (by omega)
              rw [← hP] at HJ5 HPL
              clear hb5 f0 hP HJ
              go_wp2_with (first
                | (at_builtin; refine wpList_append_own_at _ rfl _ _ 22 rfl wA.heap.size 9 i0 (.string ⟨#[]⟩) 1 16 Tryz.underlying22 hinf hz0 hz1 hz2 rfl (by decide) _ _ _ rfl (HJ5.out.row.alloc _) ⟨w5.heap.size, 0, none⟩ 1 1 [.string (strB xn)] rfl rfl (rcells_new _ _ _) (by simp [Value.oneCell']) (by have := HPL.out; unfold maxLen; omega) (by have := HPL.out; omega) (by have := HJ5.out.low; simp; omega) ?_; intro v' w9 hown9 hgrow9 hnil9 hloc9; have HJ9 : Hid (ListJ wA.heap.size wA w9 v' (P ++ [xn])) := HJ5.out.snoc rfl hown9 hgrow9; clear hown9 hgrow9 hnil9 hloc9)
                | go_in)
              exact ⟨⟨k + 1, by omega, by go_num, by rw [HPE.out]; exact HJ9.out, HSHN⟩, by simp [intOf]; omega⟩
          · obtain rfl : k = nh := by omega
            have hk2 : ¬ (k : Int) < k := by omega
            have HSHA : Hid (∀ j (hj : j < c.shapes.length), shR c.shapes[j] = true) := fun j hj => HSH.out j hj (by have := HNH.out; omega)
            have HL1 : Hid (wr.ownsRow wA.heap.size 9 1 (.slice b4 n4 c4) (c.shapes.map Sh.name).length (strC (c.shapes.map Sh.name))) := by
              have h9 := HJ.out.row
              rw [HNH.out, List.take_length] at h9
              exact h9
            obtain ⟨wB, hwB⟩ : ∃ wB, wB = wr := ⟨_, rfl⟩
            rw [← hwB] at HB4 HB4w HL1 p0 p1 p2 p3 ⊢
            have HBB : Hid (Below w2.heap.size w2 wB) := HB4.out
            clear hJ HJ HSH hlt hwB
            go_wp2
            clear p0 p1 p2 p3
            go_loopw [7, 8] (fun v vi wr => ∃ q : Nat, q ≤ nu ∧ vi = .int .i64 (q : Int) ∧ ListJ wB.heap.size wB wr v ((c.units.take q).map Un.name)) (fun _ vi _ => nu - (intOf vi).toNat)
            case atStart => exact ⟨0, Nat.zero_le _, rfl, ⟨World.ownsRow_nil _ _ _ _, Below.refl _ _, Nat.le_refl _⟩⟩
            case round =>
              obtain ⟨q, hq, rfl, hJ⟩ := hrel
              have HJ : Hid (ListJ wB.heap.size wB wr u7 ((c.units.take q).map Un.name)) := hJ
              have HB6 : Hid (Below w2.heap.size w2 wr) := HBB.out.trans (hJ.below.mono HBB.out.size)
              have HB6w : Hid (Below w.heap.size w wr) := HB2.out.trans (HB6.out.mono HB2.out.size)
              obtain ⟨n7, b7, c7, rfl⟩ := own_form1 hJ.row
              obtain ⟨p0, p1, p2, p3⟩ := HF.out wr HB6.out
              by_cases hlt : q < nu
              · have hq2 : (q : Int) < nu := by omega
                have hql : q < c.units.length := by have := HNU.out; omega
                obtain ⟨b, o, rfl, -, hbl, hc⟩ := HATU.out q hql
                obtain ⟨xn, hxn⟩ : ∃ n, n = c.units[q].name := ⟨_, rfl⟩
                have f0 := hc.1
                rw [← hxn] at f0
                have hc5 : wr.cell? ⟨b, o + q * 7, none⟩ = some (.string (strB xn)) := (below_cell HB6w.out hbl).trans f0
                have HPL : Hid (((c.units.take q).map Un.name).length ≤ 32) := by
                  show _ ≤ _
                  rw [List.length_map, List.length_take]
                  have := HK.out.2.2.1
                  omega
                obtain ⟨P, hP⟩ : ∃ P, P = (c.units.take q).map Un.name := ⟨_, rfl⟩
                have HPE : Hid ((c.units.take (q + 1)).map Un.name = P ++ [xn]) := by
                  show _ = _
                  rw [names_snoc Un.name c.units hql, hP, hxn]
                rw [← hP] at HJ HPL
                clear hJ hc f0 hxn hP
                go_wp2_with (first
                  | (at_builtin; refine wpList_append_own_at _ rfl _ _ 22 rfl wB.heap.size 9 i0 (.string ⟨#[]⟩) 1 16 Tryz.underlying22 hinf hz0 hz1 hz2 rfl (by decide) _ _ _ rfl (HJ.out.row.alloc _) ⟨wr.heap.size, 0, none⟩ 1 1 [.string (strB xn)] rfl rfl (rcells_new _ _ _) (by simp [Value.oneCell']) (by have := HPL.out; unfold maxLen; omega) (by have := HPL.out; omega) (by have := HJ.out.low; simp; omega) ?_; intro v' w9 hown9 hgrow9 hnil9 hloc9; have HJ9 : Hid (ListJ wB.heap.size wB w9 v' (P ++ [xn])) := HJ.out.snoc rfl hown9 hgrow9; clear hown9 hgrow9 hnil9 hloc9)
                  | go_in)
                exact ⟨⟨q + 1, by omega, by go_num, by rw [HPE.out]; exact HJ9.out⟩, by simp [intOf]; omega⟩
              · obtain rfl : q = nu := by omega
                have hq2 : ¬ (q : Int) < q := by omega
                have HBBr : Hid (Below wB.heap.size wB wr) := hJ.below
                have HL1r : Hid (strsIn (fun a => wA.heap.size ≤ a) wr (.slice b4 n4 c4) (c.shapes.map Sh.name)) := own_strs0 (own_stay HL1.out hJ.below)
                have HL2r : Hid (strsIn (fun a => wB.heap.size ≤ a) wr (.slice b7 n7 c7) (c.units.map Un.name)) := by
                  have h9 := HJ.out.row
                  rw [HNU.out, List.take_length] at h9
                  exact own_strs0 h9
                obtain ⟨D1, hD1⟩ : ∃ D, D = decide (NamesOk (c.shapes.map Sh.name)) := ⟨_, rfl⟩
                obtain ⟨D2, hD2⟩ : ∃ D, D = decide (NamesOk (c.units.map Un.name)) := ⟨_, rfl⟩
                have HD1 : Hid (D1 = decide (NamesOk (c.shapes.map Sh.name))) := hD1
                have HD2 : Hid (D2 = decide (NamesOk (c.units.map Un.name))) := hD2
                have cn1 := rfNames _ (c.shapes.map Sh.name) (.slice b4 n4 c4) wr HL1r.out (by
                  intro s hs
                  obtain ⟨x, hx, rfl⟩ := List.mem_map.1 hs
                  exact HSM.out.shape x hx) (by rw [List.length_map]; exact HSM.out.nshapes)
                rw [← hD1] at cn1
                have CN2 : Hid (∀ W, Below wr.heap.size wr W → Calls Tryz.prog 69 #[.slice b7 n7 c7] W fun e w' => e = .returned (.bool D2) ∧ Below W.heap.size W w') := fun W hW => by
                  rw [hD2]
                  exact rfNames _ (c.units.map Un.name) (.slice b7 n7 c7) W (rowIn.kept HL2r.out (strE_keeps _) hW.size fun a _ ha => hW.block a ha) (by
                    intro s hs
                    obtain ⟨x, hx, rfl⟩ := List.mem_map.1 hs
                    exact HSM.out.unit x hx) (by rw [List.length_map]; exact HSM.out.nunits)
                clear hJ HJ hlt hD1 hD2
                cases D1 with
                | false =>
                  have HFA : Hid (R = false) := HP.out fun h => of_decide_eq_false HD1.out.symm h.shNames
                  go_wp2_with fail
                  refine cn1.mono ?_
                  clear cn1 p0 p1 p2 p3
                  rintro e w7 ⟨rfl, hb7⟩
                  have HB7w : Hid (Below w.heap.size w w7) := HB6w.out.trans (hb7.mono HB6w.out.size)
                  clear hb7
                  go_wp2
                  go_ret
                  rw [HFA.out]
                  exact ⟨rfl, HB7w.out⟩
                | true =>
                  go_wp2_with fail
                  refine cn1.mono ?_
                  clear cn1 p0 p1 p2 p3
                  rintro e w7 ⟨rfl, hb7⟩
                  have HB7 : Hid (Below w2.heap.size w2 w7) := HB6.out.trans (hb7.mono HB6.out.size)
                  have HB7w : Hid (Below w.heap.size w w7) := HB6w.out.trans (hb7.mono HB6w.out.size)
                  have cn2 := CN2.out w7 hb7
                  clear hb7
                  cases D2 with
                  | false =>
                    have HFA : Hid (R = false) := HP.out fun h => of_decide_eq_false HD2.out.symm h.unNames
                    go_wp2_with fail
                    refine cn2.mono ?_
                    clear cn2
                    rintro e w8 ⟨rfl, hb8⟩
                    have HB8w : Hid (Below w.heap.size w w8) := HB7w.out.trans (hb8.mono HB7w.out.size)
                    clear hb8
                    go_wp2
                    go_ret
                    rw [HFA.out]
                    exact ⟨rfl, HB8w.out⟩
                  | true =>
                    go_wp2_with fail
                    refine cn2.mono ?_
                    clear cn2
                    rintro e w8 ⟨rfl, hb8⟩
                    have HB8 : Hid (Below w2.heap.size w2 w8) := HB7.out.trans (hb8.mono HB7.out.size)
                    have HB8w : Hid (Below w.heap.size w w8) := HB7w.out.trans (hb8.mono HB7w.out.size)
                    clear hb8
                    obtain ⟨p0, p1, p2, p3⟩ := HF.out w8 HB8.out
                    obtain ⟨n, hn⟩ : ∃ n : Nat, m = n := ⟨m.toNat, by have := HK.out; omega⟩
                    have HMN : Hid (c.main.toNat = n) := by
                      show _ = _
                      rw [← HM.out, hn]; exact Int.toNat_natCast n
                    rw [hn] at p3
                    have hnl : n < c.units.length := by have := HK.out; have := HNU.out; omega
                    have hnq : (n : Int) < q := by have := HNU.out; omega
                    obtain ⟨b, o, rfl, -, hbl, hc⟩ := HATU.out n hnl
                    obtain ⟨pr, hpr⟩ : ∃ p, p = c.units[n].params := ⟨_, rfl⟩
                    obtain ⟨rs, hrs⟩ : ∃ p, p = c.units[n].result := ⟨_, rfl⟩
                    have f1 := hc.2.1
                    have f4 := hc.2.2.2.2.1
                    rw [← hpr] at f1
                    rw [← hrs] at f4
                    have g1 := (below_cell HB8w.out hbl).trans f1
                    have g4 := (below_cell HB8w.out hbl).trans f4
                    have HBARE : Hid (RightP c → pr = 0 ∧ rs = false) := fun h => by
                      have h9 := h.bare (by rw [HMN.out]; exact hnl)
                      simp only [HMN.out] at h9
                      rw [hpr, hrs]; exact h9
                    have HBARE2 : Hid (pr = 0 ∧ rs = false → ∀ (h : c.main.toNat < c.units.length), c.units[c.main.toNat].params = 0 ∧ c.units[c.main.toNat].result = false) := fun h h9 => by
                      simp only [HMN.out]
                      rw [← hpr, ← hrs]; exact h
                    clear hc f1 f4 hpr hrs hn
                    by_cases hp0 : pr = 0
                    · have hpb : (pr == 0) = true := by rw [hp0]; rfl
                      have hpn : (pr != 0) = false := by rw [hp0]; rfl
                      cases rs with
                      | true =>
                        have HFA : Hid (R = false) := HP.out fun h => by have := (HBARE.out h).2; cases this
                        clear hp0
                        go_wp2
                        go_ret
                        rw [HFA.out]
                        exact ⟨rfl, HB8w.out⟩
                      | false =>
                        have HBAREP : Hid (∀ (h : c.main.toNat < c.units.length), c.units[c.main.toNat].params = 0 ∧ c.units[c.main.toNat].result = false) := HBARE2.out ⟨hp0, rfl⟩
                        clear hp0
                        go_wp2
                        clear p0 p1 p2 p3 g1 g4
                        go_loopw [9] (fun vi wr => ∃ i : Nat, i ≤ q ∧ vi = .int .i64 (i : Int) ∧ Hid (∀ j (hj : j < c.units.length), j < i → unitR c.strs.length c.shapes.length c.units.length c.units[j] = true) ∧ Below w2.heap.size w2 wr) (fun vi _ => q - (intOf vi).toNat)
                        case atStart => exact ⟨0, Nat.zero_le _, rfl, fun j _ h => by omega, HB8.out⟩
                        case round =>
                          obtain ⟨j9, hj9, rfl, HUS, hbr⟩ := hrel
                          have HBi : Hid (Below w2.heap.size w2 wr) := hbr
                          have HBiw : Hid (Below w.heap.size w wr) := HB2.out.trans (hbr.mono HB2.out.size)
                          obtain ⟨p0, p1, p2, p3⟩ := HF.out wr hbr
                          have hsz : w.heap.size < wr.heap.size := Nat.lt_of_lt_of_le HSZ.out hbr.size
                          clear hbr
                          by_cases hlt : j9 < q
                          · have hi2 : (j9 : Int) < q := by omega
                            have hil : j9 < c.units.length := by have := HNU.out; omega
                            obtain ⟨b9, o9, e9, -, hbl9, hc⟩ := HATU.out j9 hil
                            cases e9
                            obtain ⟨x, hx⟩ : ∃ x, x = c.units[j9] := ⟨_, rfl⟩
                            rw [← hx] at hc
                            have HX : Hid (x = c.units[j9]) := hx
                            have HXM : Hid (x ∈ c.units) := hx ▸ List.getElem_mem hil
                            obtain ⟨e0, e1, e2, e3, e4, ⟨vi, e5, hvi⟩, vv, e6, hvv⟩ := hc
                            obtain ⟨bi, ci, rfl, -⟩ := hvi.at
                            obtain ⟨bv, cv, rfl, -⟩ := hvv.at
                            obtain ⟨ni, hni⟩ : ∃ n, n = x.ins.length := ⟨_, rfl⟩
                            obtain ⟨nv, hnv⟩ : ∃ n, n = x.vars.length := ⟨_, rfl⟩
                            rw [← hni] at e5 hvi
                            rw [← hnv] at e6 hvv
                            have hcc : ∀ a, wr.cell? ⟨b, a, none⟩ = w.cell? ⟨b, a, none⟩ := fun a => below_cell HBiw.out hbl9
                            rw [← hcc] at e0 e1 e2 e3 e4 e5 e6
                            have hbl2 : b < wr.heap.size := Nat.lt_of_lt_of_le hbl9 HBiw.out.size
                            obtain ⟨D, hD⟩ : ∃ D, D = unitR i k q x := ⟨_, rfl⟩
                            have HD : Hid (D = unitR c.strs.length c.shapes.length c.units.length x) := by
                              show _ = _
                              rw [hD, ← HNS.out, ← HNH.out, ← HNU.out]
                            have HC : Hid (∀ W, Below wr.heap.size wr W → Calls Tryz.prog 70 #[.agg #[.slice bs i cs, .slice bh k ch, .slice (some ⟨b, o, none⟩) q cu, .int .i64 m], .agg #[.string (strB x.name), .int .i64 x.params, .int .i64 x.slots, .int .i64 x.stack, .bool x.result, .slice bi ni ci, .slice bv nv cv]] W fun e w' => e = .returned (.bool D) ∧ Below wr.heap.size wr w') := fun W hW => by
                              rw [hD]
                              have hWw : Below w.heap.size w W := HBiw.out.trans (hW.mono HBiw.out.size)
                              exact (rfUnit S bs bh (some ⟨b, o, none⟩) bi bv i cs k ch q cu ni ci nv cv m x W (rowIn.kept hvi (insE_keeps S) hWw.size fun a _ ha => hWw.block a ha) (rowIn.kept hvv (varE_keeps S) hWw.size fun a _ ha => hWw.block a ha) (HSM.out.var x HXM.out) (HUNL.out x HXM.out).2 (HUNL.out x HXM.out).1 (fun y hy => (HIT.out.ins x HXM.out y hy).2)).mono fun e w' ⟨he, hb⟩ => ⟨he, hW.trans (hb.mono hW.size)⟩
                            have z0 := cls_cell (n := wr.heap.size) p0 (by simp only; omega)
                            have z1 := cls_cell (n := wr.heap.size) p1 (by simp only; omega)
                            have z2 := cls_cell (n := wr.heap.size) p2 (by simp only; omega)
                            have z3 := cls_cell (n := wr.heap.size) p3 (by simp only; omega)
                            have y0 := cls_cell (n := wr.heap.size) e0 (by simp only; omega)
                            have y1 := cls_cell (n := wr.heap.size) e1 (by simp only; omega)
                            have y2 := cls_cell (n := wr.heap.size) e2 (by simp only; omega)
                            have y3 := cls_cell (n := wr.heap.size) e3 (by simp only; omega)
                            have y4 := cls_cell (n := wr.heap.size) e4 (by simp only; omega)
                            have y5 := cls_cell (n := wr.heap.size) e5 (by simp only; omega)
                            have y6 := cls_cell (n := wr.heap.size) e6 (by simp only; omega)
                            clear hcc hx hD hvi hvv hni hnv e0 e1 e2 e3 e4 e5 e6 p0 p1 p3
                            go_upto_region 26 with fail
                            refine wp_region_cls (n := wr.heap.size) (w0 := wr) (Below.refl _ _) (by kernel_rfl) (by kernel_rfl) ?_
                            iterate 6 (go_big_quiet_step (fail))
                            go_big_quiet_step (exact cls_calls HC.out _)
                            iterate 1 (go_big_quiet_step (fail))
                            refine wpQuiet_nil ?_
                            rintro _ ⟨cc, rfl⟩
                            obtain ⟨w9, hb9⟩ := cc
                            dsimp only
                            have HB9 : Hid (Below w2.heap.size w2 w9) := HBi.out.trans (hb9.mono HBi.out.size)
                            have HB9w : Hid (Below w.heap.size w w9) := HB2.out.trans (HB9.out.mono HB2.out.size)
                            clear hb9 z0 z1 z2 z3 y0 y1 y2 y3 y4 y5 y6 p2
                            cases D with
                            | false =>
                              have HFA : Hid (R = false) := HP.out fun h => by
                                have h9 := h.unit j9 hil
                                rw [← HX.out, ← HD.out] at h9
                                cases h9
                              go_wp2
                              go_ret
                              rw [HFA.out]
                              exact ⟨rfl, HB9w.out⟩
                            | true =>
                              have HNX : Hid (∀ j (hj : j < c.units.length), j < j9 + 1 → unitR c.strs.length c.shapes.length c.units.length c.units[j] = true) := fun j hj hji => by
                                by_cases e : j = j9
                                · subst e; rw [← HX.out]; exact HD.out.symm
                                · exact HUS.out j hj (by omega)
                              go_wp2
                              exact ⟨⟨j9 + 1, by omega, by go_num, HNX, HB9.out⟩, by simp [intOf]; omega⟩
                          · obtain rfl : j9 = q := by omega
                            have hi2 : ¬ (j9 : Int) < j9 := by omega
                            have HUALL : Hid (∀ j (hj : j < c.units.length), unitR c.strs.length c.shapes.length c.units.length c.units[j] = true) := fun j hj => HUS.out j hj (by have := HNU.out; omega)
                            clear HUS hlt
                            go_wp2
                            clear p0 p1 p2 p3
                            go_loopw [10] (fun vi wr => ∃ i : Nat, i ≤ j9 ∧ vi = .int .i64 (i : Int) ∧ Hid (∀ j (hj : j < c.units.length), j < i → RightH c c.units[j]) ∧ Below w2.heap.size w2 wr) (fun vi _ => j9 - (intOf vi).toNat)
                            case atStart => exact ⟨0, Nat.zero_le _, rfl, fun j _ h => by omega, HBi.out⟩
                            case round =>
                              obtain ⟨j8, hj8, rfl, HHS, hbr⟩ := hrel
                              have HBi5 : Hid (Below w2.heap.size w2 wr) := hbr
                              have HBi5w : Hid (Below w.heap.size w wr) := HB2.out.trans (hbr.mono HB2.out.size)
                              obtain ⟨p0, p1, p2, p3⟩ := HF.out wr hbr
                              clear hbr
                              by_cases hlt : j8 < j9
                              · have hi2 : (j8 : Int) < j9 := by omega
                                have hil : j8 < c.units.length := by have := HNU.out; omega
                                obtain ⟨b9, o9, e9, -, hbl9, hc⟩ := HATU.out j8 hil
                                cases e9
                                obtain ⟨x, hx⟩ : ∃ x, x = c.units[j8] := ⟨_, rfl⟩
                                rw [← hx] at hc
                                have HX : Hid (x = c.units[j8]) := hx
                                have HXM : Hid (x ∈ c.units) := hx ▸ List.getElem_mem hil
                                obtain ⟨e0, e1, e2, e3, e4, ⟨vi, e5, hvi⟩, vv, e6, hvv⟩ := hc
                                obtain ⟨bi, ci, rfl, -⟩ := hvi.at
                                obtain ⟨bv, cv, rfl, -⟩ := hvv.at
                                obtain ⟨ni, hni⟩ : ∃ n, n = x.ins.length := ⟨_, rfl⟩
                                obtain ⟨nv, hnv⟩ : ∃ n, n = x.vars.length := ⟨_, rfl⟩
                                rw [← hni] at e5 hvi
                                rw [← hnv] at e6 hvv
                                have HU : Hid (unitR c.strs.length c.shapes.length c.units.length x = true) := by
                                  show _ = _
                                  rw [HX.out]; exact HUALL.out j8 hil
                                have HPART := unitR_parts HU.out
                                have HALLU : Hid (InsAll c x) := insAll_of HU.out (fun v hv => by
                                  obtain ⟨a, ha, rfl⟩ := List.getElem_of_mem hv
                                  exact HUALL.out a ha) (fun y hy => by
                                  obtain ⟨a, ha, rfl⟩ := List.getElem_of_mem hy
                                  exact HSHA.out a ha)
                                have CH : Hid (∀ W, Below w.heap.size w W → Calls Tryz.prog 27 #[.agg #[.slice bs i cs, .slice bh k ch, .slice (some ⟨b, o, none⟩) j9 cu, .int .i64 m], .agg #[.string (strB x.name), .int .i64 x.params, .int .i64 x.slots, .int .i64 x.stack, .bool x.result, .slice bi ni ci, .slice bv nv cv]] W fun e w' => HgRet W.heap.size c x e w' ∧ Below W.heap.size W w') := fun W hW =>
                                  rfHts S c bs bh (some ⟨b, o, none⟩) bi bv i cs k ch j9 cu ni ci nv cv m x W (HIN.out.below hW).shapes (HIN.out.below hW).units (rowIn.kept hvi (insE_keeps S) hW.size fun a _ ha => hW.block a ha) HALLU.out HPART.2.2.1 HPART.2.2.2.1
                                have HCF : Hid (∀ W, Below wr.heap.size wr W → RgP w.heap.size b (o + j8 * 7) (.slice bs i cs) (.slice bh k ch) (.slice (some ⟨b, o, none⟩) j9 cu) m x (.slice bi ni ci) (.slice bv nv cv) W) := fun W hW => by
                                  have hWw : Below w.heap.size w W := HBi5w.out.trans (hW.mono HBi5w.out.size)
                                  have hcc : ∀ a, W.cell? ⟨b, a, none⟩ = w.cell? ⟨b, a, none⟩ := fun a => below_cell hWw hbl9
                                  exact ⟨HF.out W (HBi5.out.trans (hW.mono HBi5.out.size)), (hcc _).trans e0, (hcc _).trans e1, (hcc _).trans e2, (hcc _).trans e3, (hcc _).trans e4, (hcc _).trans e5, (hcc _).trans e6⟩
                                haveI hne : Nonempty (ClsP (RgP w.heap.size b (o + j8 * 7) (.slice bs i cs) (.slice bh k ch) (.slice (some ⟨b, o, none⟩) j9 cu) m x (.slice bi ni ci) (.slice bv nv cv))) := ⟨⟨wr, HCF.out wr (Below.refl _ _)⟩⟩
                                have X0 : ∀ c' : ClsP (RgP w.heap.size b (o + j8 * 7) (.slice bs i cs) (.slice bh k ch) (.slice (some ⟨b, o, none⟩) j9 cu) m x (.slice bi ni ci) (.slice bv nv cv)), c'.1.cell? ⟨w.heap.size, 0, none⟩ = some (.slice bs i cs) := fun c' => c'.2.1.1
                                have X1 : ∀ c' : ClsP (RgP w.heap.size b (o + j8 * 7) (.slice bs i cs) (.slice bh k ch) (.slice (some ⟨b, o, none⟩) j9 cu) m x (.slice bi ni ci) (.slice bv nv cv)), c'.1.cell? ⟨w.heap.size, 1, none⟩ = some (.slice bh k ch) := fun c' => c'.2.1.2.1
                                have X2 : ∀ c' : ClsP (RgP w.heap.size b (o + j8 * 7) (.slice bs i cs) (.slice bh k ch) (.slice (some ⟨b, o, none⟩) j9 cu) m x (.slice bi ni ci) (.slice bv nv cv)), c'.1.cell? ⟨w.heap.size, 2, none⟩ = some (.slice (some ⟨b, o, none⟩) j9 cu) := fun c' => c'.2.1.2.2.1
                                have X3 : ∀ c' : ClsP (RgP w.heap.size b (o + j8 * 7) (.slice bs i cs) (.slice bh k ch) (.slice (some ⟨b, o, none⟩) j9 cu) m x (.slice bi ni ci) (.slice bv nv cv)), c'.1.cell? ⟨w.heap.size, 3, none⟩ = some (.int .i64 m) := fun c' => c'.2.1.2.2.2
                                have X4 : ∀ c' : ClsP (RgP w.heap.size b (o + j8 * 7) (.slice bs i cs) (.slice bh k ch) (.slice (some ⟨b, o, none⟩) j9 cu) m x (.slice bi ni ci) (.slice bv nv cv)), c'.1.cell? ⟨b, o + j8 * 7, none⟩ = some (.string (strB x.name)) := fun c' => c'.2.2.1
                                have X5 : ∀ c' : ClsP (RgP w.heap.size b (o + j8 * 7) (.slice bs i cs) (.slice bh k ch) (.slice (some ⟨b, o, none⟩) j9 cu) m x (.slice bi ni ci) (.slice bv nv cv)), c'.1.cell? ⟨b, o + j8 * 7 + 1, none⟩ = some (.int .i64 x.params) := fun c' => c'.2.2.2.1
                                have X6 : ∀ c' : ClsP (RgP w.heap.size b (o + j8 * 7) (.slice bs i cs) (.slice bh k ch) (.slice (some ⟨b, o, none⟩) j9 cu) m x (.slice bi ni ci) (.slice bv nv cv)), c'.1.cell? ⟨b, o + j8 * 7 + 2, none⟩ = some (.int .i64 x.slots) := fun c' => c'.2.2.2.2.1
                                have X7 : ∀ c' : ClsP (RgP w.heap.size b (o + j8 * 7) (.slice bs i cs) (.slice bh k ch) (.slice (some ⟨b, o, none⟩) j9 cu) m x (.slice bi ni ci) (.slice bv nv cv)), c'.1.cell? ⟨b, o + j8 * 7 + 3, none⟩ = some (.int .i64 x.stack) := fun c' => c'.2.2.2.2.2.1
                                have X8 : ∀ c' : ClsP (RgP w.heap.size b (o + j8 * 7) (.slice bs i cs) (.slice bh k ch) (.slice (some ⟨b, o, none⟩) j9 cu) m x (.slice bi ni ci) (.slice bv nv cv)), c'.1.cell? ⟨b, o + j8 * 7 + 4, none⟩ = some (.bool x.result) := fun c' => c'.2.2.2.2.2.2.1
                                have X9 : ∀ c' : ClsP (RgP w.heap.size b (o + j8 * 7) (.slice bs i cs) (.slice bh k ch) (.slice (some ⟨b, o, none⟩) j9 cu) m x (.slice bi ni ci) (.slice bv nv cv)), c'.1.cell? ⟨b, o + j8 * 7 + 5, none⟩ = some (.slice bi ni ci) := fun c' => c'.2.2.2.2.2.2.2.1
                                have X10 : ∀ c' : ClsP (RgP w.heap.size b (o + j8 * 7) (.slice bs i cs) (.slice bh k ch) (.slice (some ⟨b, o, none⟩) j9 cu) m x (.slice bi ni ci) (.slice bv nv cv)), c'.1.cell? ⟨b, o + j8 * 7 + 6, none⟩ = some (.slice bv nv cv) := fun c' => c'.2.2.2.2.2.2.2.2
                                clear hx hvi hvv hni hnv e0 e1 e2 e3 e4 e5 e6 p0 p1 p3 HPART
                                go_upto_region 31 with fail
                                refine mix_begin (n := 12) (S := fun w' => ∃ c' : ClsP (RgP w.heap.size b (o + j8 * 7) (.slice bs i cs) (.slice bh k ch) (.slice (some ⟨b, o, none⟩) j9 cu) m x (.slice bi ni ci) (.slice bv nv cv)), w' = c'.1) (by kernel_rfl) rfl rfl ?_
                                refine mix_seg (fuel := 6) (fuel' := 12) (idx := [0, 1, 2, 3, 4, 5]) (by kernel_rfl) rfl rfl rfl (fun _ _ _ _ _ h => h) ⟨⟨wr.drew, HCF.out wr.drew (Below.refl _ _).drew⟩, rfl⟩ ?_
                                show wpQuiet _ _ _ _ [_, _, _, _, _, _] _
                                iterate 6 (go_big_quiet_step (fail))
                                refine wpQuiet_nil ?_
                                have HV0 : Hid (Below wr.heap.size wr wr.drew) := (Below.refl _ _).drew
                                refine mix_loud (fuel := 5) (fuel' := 6) (i := 6) rfl (by kernel_rfl) rfl rfl (by rfl) ?_
                                intro K hK
                                go_simp
                                refine (CH.out wr.drew (HBi5w.out.trans (HV0.out.mono HBi5w.out.size))).mono ?_
                                rintro e z ⟨hret, hb⟩
                                have HZ : Hid (Below wr.heap.size wr z) := HV0.out.trans (hb.mono HV0.out.size)
                                have HZ2' : Hid (Below w2.heap.size w2 z) := HBi5.out.trans (HZ.out.mono HBi5.out.size)
                                have HZw : Hid (Below w.heap.size w z) := HB2.out.trans (HZ2'.out.mono HB2.out.size)
                                clear hb
                                rcases hret with ⟨hr, v9, rfl, -⟩ | ⟨hr, rfl⟩
                                · have HNX : Hid (∀ j (hj : j < c.units.length), j < j8 + 1 → RightH c c.units[j]) := fun j hj hji => by
                                    by_cases e : j = j8
                                    · subst e; rw [← HX.out]; exact hr
                                    · exact HHS.out j hj (by omega)
                                  clear hr
                                  (try go_simp)
                                  refine hK.out _ _ ⟨⟨z, HCF.out z HZ.out⟩, rfl⟩ ?_
                                  clear hK K
                                  refine mix_seg (fuel := 0) (fuel' := 5) (idx := [7, 8, 9, 10, 11]) (by kernel_rfl) rfl rfl rfl (fun _ _ _ _ _ h => h) ⟨⟨z, HCF.out z HZ.out⟩, rfl⟩ ?_
                                  show wpQuiet _ _ _ _ [_, _, _, _, _] _
                                  iterate 5 (go_big_quiet_step (fail))
                                  refine wpQuiet_nil ?_
                                  refine mix_done (by kernel_rfl) ?_
                                  clear X0 X1 X2 X3 X4 X5 X6 X7 X8 X9 X10 p2
                                  go_wp2
                                  exact ⟨⟨j8 + 1, by omega, by go_num, HNX, HZ2'.out⟩, by simp [intOf]; omega⟩
                                · have HFA : Hid (R = false) := HP.out fun h => hr (by rw [HX.out]; exact h.heights j8 hil)
                                  clear hr
                                  (try go_simp)
                                  refine hK.out _ _ ⟨⟨z, HCF.out z HZ.out⟩, rfl⟩ ?_
                                  clear hK K
                                  refine mix_seg (fuel := 0) (fuel' := 5) (idx := [7, 8, 9, 10, 11]) (by kernel_rfl) rfl rfl rfl (fun _ _ _ _ _ h => h) ⟨⟨z, HCF.out z HZ.out⟩, rfl⟩ ?_
                                  show wpQuiet _ _ _ _ [_, _, _, _, _] _
                                  iterate 5 (go_big_quiet_step (fail))
                                  refine wpQuiet_nil ?_
                                  refine mix_done (by kernel_rfl) ?_
                                  clear X0 X1 X2 X3 X4 X5 X6 X7 X8 X9 X10 p2
                                  go_wp2
                                  go_ret
                                  rw [HFA.out]
                                  exact ⟨rfl, HZw.out⟩
                              · obtain rfl : j8 = j9 := by omega
                                have hi2 : ¬ (j8 : Int) < j8 := by omega
                                have HT : Hid (R = true) := HPT.out ⟨by have := HK.out; have := HNS.out; omega, by have := HK.out; have := HNH.out; omega, by have := HK.out; have := HNU.out; omega, by have := HK.out; have := HNU.out; rw [← HM.out]; omega, HPLAIN.out, HSHA.out, of_decide_eq_true HD1.out.symm, of_decide_eq_true HD2.out.symm, HBAREP.out, HUALL.out, fun j hj => HHS.out j hj (by have := HNU.out; omega)⟩
                                clear HHS hlt
                                go_wp2
                                go_ret
                                rw [HT.out]
                                exact ⟨rfl, HBi5w.out⟩
                    · have HFA : Hid (R = false) := HP.out fun h => hp0 (HBARE.out h).1
                      have hpb : (pr == 0) = false := by rw [beq_eq_false_iff_ne]; exact hp0
                      have hpn : (pr != 0) = true := by rw [bne_iff_ne]; exact hp0
                      clear hp0
                      go_wp2
                      go_ret
                      rw [HFA.out]
                      exact ⟨rfl, HB8w.out⟩
  · rw [decide_eq_false b4] at cu
    have HFA : Hid (R = false) := HP.out fun h => b4 (by have := h.main; have := HNU.out; rw [HM.out]; omega)
    clear b4
    go_wp2_with fail
    refine cu.mono ?_
    clear cu p0 p1 p2 p3
    rintro e w3 ⟨rfl, hb3⟩
    have HB3w : Hid (Below w.heap.size w w3) := HB2.out.trans (hb3.mono HB2.out.size)
    clear hb3
    go_wp2
    go_ret
    rw [HFA.out]
    exact ⟨rfl, HB3w.out⟩
end Go.Proofs.YtechkkphbajmoaaGreatDoor
