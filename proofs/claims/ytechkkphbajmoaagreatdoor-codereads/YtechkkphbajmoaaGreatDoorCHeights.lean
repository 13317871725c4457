/- code: the heights of a unit's instructions. -/
import Derived.Test.YtechkkphbajmoaaGreatDoorMC
import Derived.Laws.OwnMore
namespace Go.Proofs.YtechkkphbajmoaaGreatDoor
open Go.RowKit Go.Shelf Go.Maps

/-- The height at which an instruction is reached; -1 of one that is not. -/
noncomputable def htR (c : Cd) (u : Un) (i : Nat) : Int := @dite _ (∃ h, Rch c u i h) (Classical.propDecidable _) (fun h => Classical.choose h) (fun _ => -1)
theorem htR_of {c : Cd} {u : Un} {i : Nat} {h : Int} (hr : RightH c u) (h1 : Rch c u i h) : htR c u i = h := by
  unfold htR
  rw [dif_pos ⟨h, h1⟩]
  exact hr.2 i _ _ (Classical.choose_spec (p := fun h => Rch c u i h) ⟨h, h1⟩) h1
theorem htR_no {c : Cd} {u : Un} {i : Nat} (h1 : ¬ ∃ h, Rch c u i h) : htR c u i = -1 := by
  unfold htR
  rw [dif_neg h1]
noncomputable def hts (c : Cd) (u : Un) : List Int := (List.range u.ins.length).map (htR c u)
theorem hts_len (c : Cd) (u : Un) : (hts c u).length = u.ins.length := by unfold hts; rw [List.length_map, List.length_range]
theorem hts_at {c : Cd} {u : Un} {i : Nat} (h : i < (hts c u).length) : (hts c u)[i] = htR c u i := by simp [hts]

def intE (w : World) (b o : Nat) (x : Int) : Prop := w.cell? ⟨b, o, none⟩ = some (.int .i64 x)
theorem intE_keeps (S : Nat → Prop) : KeepsE S intE := fun _ _ _ _ _ _ hb hS hlt h => (World.cell?_of_block (hb _ hS hlt)).trans h
def intC (l : List Int) : List Value := l.map (Value.int .i64)
/-- What Heights answers. -/
def HtRet (N : Nat) (c : Cd) (n : Int) (e : Ending) (w' : World) : Prop :=
  (rightC c = false ∧ e = .returned (.tuple #[.slice none 0 0, .int .i64 2])) ∨ (rightC c = true ∧ ¬ (0 ≤ n ∧ n < (c.units.length : Int)) ∧ e = .returned (.tuple #[.slice none 0 0, .int .i64 10])) ∨
    (rightC c = true ∧ ∃ (i : Nat) (hi : i < c.units.length) (v : Value), n = (i : Int) ∧ e = .returned (.tuple #[v, .int .i64 0]) ∧ rowIn (fun b => N ≤ b) w' v 1 intE (hts c c.units[i]))
theorem rightC_parts {c : Cd} (h : rightC c = true) : outR c = true ∧ (∀ u ∈ c.units, unitR c.strs.length c.shapes.length c.units.length u = true) ∧ ∀ u ∈ c.units, RightH c u := by
  unfold rightC at h
  simp only [Bool.and_eq_true, List.all_eq_true] at h
  exact ⟨h.1, h.2.1, fun u hu => rchR_iff.1 (h.2.2 u hu)⟩
/-- Between two rounds: those ahead of k are written. -/
structure HtJ (c : Cd) (u : Un) (g : Nat) (w0 : World) (wr : World) (k : Nat) (xs : List Value) : Prop where
  row : wr.ownsRow g 3 1 (.slice (some ⟨g, 0, none⟩) u.ins.length u.ins.length) u.ins.length xs
  below : Below g w0 wr
  done : ∀ j, j < k → xs[j]? = some (.int .i64 (htR c u j))
theorem HtJ.set {c : Cd} {u : Un} {g : Nat} {w0 wr : World} {k : Nat} {xs : List Value} (h : HtJ c u g w0 wr k xs) (hk : k < u.ins.length) (a : Int) (ha : a = htR c u k) : HtJ c u g w0 (wr.setCell ⟨g, k, none⟩ (.int .i64 a)) (k + 1) (xs.set k (.int .i64 a)) := by
  have hs := h.row.stored k (.int .i64 a)
  have hl : xs.length = u.ins.length := by have := h.row.1; omega
  refine ⟨hs.1, h.below.setCell (p := ⟨g, k, none⟩) (Nat.le_refl _) _, fun j hj => ?_⟩
  by_cases e : j = k
  · subst e
    rw [List.getElem?_set_self (by omega), ha]
  · rw [List.getElem?_set_ne (by omega)]
    exact h.done j (by omega)
theorem HtJ.put {c : Cd} {u : Un} {g : Nat} {w0 wr : World} {k : Nat} {xs : List Value} (h : HtJ c u g w0 wr k xs) (a : Int) : HtJ c u g w0 (wr.setCell ⟨g, k, none⟩ (.int .i64 a)) k (xs.set k (.int .i64 a)) := by
  have hs := h.row.stored k (.int .i64 a)
  refine ⟨hs.1, h.below.setCell (p := ⟨g, k, none⟩) (Nat.le_refl _) _, fun j hj => ?_⟩
  rw [List.getElem?_set_ne (by omega)]
  exact h.done j hj
theorem HtJ.end {c : Cd} {u : Un} {g : Nat} {w0 wr : World} {xs : List Value} (h : HtJ c u g w0 wr u.ins.length xs) (hg : g < wr.heap.size) {N : Nat} (hN : N ≤ g) : rowIn (fun b => N ≤ b) wr (.slice (some ⟨g, 0, none⟩) u.ins.length u.ins.length) 1 intE (hts c u) := by
  refine ⟨some ⟨g, 0, none⟩, u.ins.length, by rw [hts_len], by rw [hts_len]; exact Nat.le_refl _, ?_, .inr ⟨g, 0, rfl, hN, hg, fun j hj => ?_⟩⟩
  · rcases h.row.2 with ⟨h1, _⟩ | ⟨g', cap, cur, h1, _, _, _, h5, _⟩
    · cases h1
    · cases h1; exact h5
  · rw [hts_at hj]
    have hj2 : j < u.ins.length := by rw [hts_len] at hj; exact hj
    show wr.cell? ⟨g, 0 + j * 1, none⟩ = _
    rw [Nat.zero_add, Nat.mul_one, h.row.cellAt j (by omega)]
    exact h.done j hj2

set_option maxRecDepth 100000 in
set_option maxHeartbeats 4000000 in
theorem cHeights_any (S : Nat → Prop) (c : Cd) (n : Int) (bs bh bu : Option Addr) (ns cs nh ch nu cu : Nat) (w : World) (hin : CodeIn S w c (.slice bs ns cs) (.slice bh nh ch) (.slice bu nu cu)) (hsm : SmallC c) (ht : TabsP w) (hot : OpT w) :
    Calls Tryz.prog 8 #[cdV (.slice bs ns cs) (.slice bh nh ch) (.slice bu nu cu) c.main, .int .i64 n] w fun e w' => HtRet w.heap.size c n e w' ∧ Below w.heap.size w w' := by
  obtain ⟨m, hm⟩ : ∃ m, m = c.main := ⟨_, rfl⟩
  rw [← hm]
  obtain ⟨w2, hw2, hb2, HZ2, h0⟩ := box1 w (.cells #[.slice bs ns cs, .slice bh nh ch, .slice bu nu cu, .int .i64 m] 26)
  have HW2 : Hid (w2 = w.alloc (.cells #[.slice bs ns cs, .slice bh nh ch, .slice bu nu cu, .int .i64 m] 26)) := hw2
  have HB2 : Hid (Below w.heap.size w w2) := hb2
  have HF : Hid (∀ W, Below w2.heap.size w2 W → W.cell? ⟨w.heap.size, 0, none⟩ = some (.slice bs ns cs) ∧ W.cell? ⟨w.heap.size, 1, none⟩ = some (.slice bh nh ch) ∧ W.cell? ⟨w.heap.size, 2, none⟩ = some (.slice bu nu cu) ∧ W.cell? ⟨w.heap.size, 3, none⟩ = some (.int .i64 m)) := fun W hW => by
    have hz := HZ2.out
    exact bcells4 ((hW.block w.heap.size (by omega)).trans h0)
  obtain ⟨hnu, hcap, hat⟩ : nu = c.units.length ∧ c.units.length ≤ cu ∧ ∀ i (hi : i < c.units.length), ∃ b o, bu = some ⟨b, o, none⟩ ∧ S b ∧ b < w.heap.size ∧ unE S w b (o + i * 7) c.units[i] := by
    obtain ⟨b, c1, e, h1, _, h⟩ := hin.units.at
    cases e
    exact ⟨rfl, h1, h⟩
  have HAT : Hid (∀ i (hi : i < c.units.length), ∃ b o, bu = some ⟨b, o, none⟩ ∧ S b ∧ b < w.heap.size ∧ unE S w b (o + i * 7) c.units[i]) := hat
  have c1 : Calls Tryz.prog 22 #[.agg #[.slice bs ns cs, .slice bh nh ch, .slice bu nu cu, .int .i64 m]] w2 fun e w' => e = .returned (.bool (rightC c)) ∧ Below w2.heap.size w2 w' := by
    rw [hm]; exact cIsRight_any S c bs bh bu ns cs nh ch nu cu w2 (hin.below hb2) hsm (ht.below hb2 (Nat.le_refl _)) (hot.below hb2 (Nat.le_refl _))
  obtain ⟨R, hR⟩ : ∃ R, R = rightC c := ⟨_, rfl⟩
  have HRE : Hid (R = rightC c) := hR
  have HNU : Hid (nu = c.units.length) := hnu
  have hnle : (nu : Int) ≤ 1048576 := by have := hsm.nunits; omega
  have hn0 : (0 : Int) ≤ nu := by omega
  have HCIN : Hid (∀ W, Below w.heap.size w W → CodeIn S W c (.slice bs ns cs) (.slice bh nh ch) (.slice bu nu cu) ∧ OpT W) := fun W hW => ⟨hin.below hW, hot.below hW (Nat.le_refl _)⟩
  rw [← hR] at c1
  have hmm := @run_makeMap Tryz.prog
  obtain ⟨i0, hinf, hz0, hz1, hz2⟩ := info_parts info_int
  clear hw2 hb2 h0 hR hin hsm ht hot HZ2 hm hat hnu
  cases R with
  | false =>
    go_enter Tryz.func8, Tryz.ntmps8
    go_wp2_with fail
    rw [← HW2.out]
    refine c1.mono ?_
    clear c1
    rintro e v1 ⟨rfl, hb1⟩
    have HV1 : Hid (Below w.heap.size w v1) := HB2.out.trans (hb1.mono HB2.out.size)
    clear hb1
    go_wp2
    go_ret2
    exact ⟨.inl ⟨HRE.out.symm, rfl⟩, HV1.out⟩
  | true =>
    have C2 : Hid (∀ W, Calls Tryz.prog 23 #[.int .i64 n, .int .i64 0, .int .i64 ((nu : Int) - 1)] W fun e w' => e = .returned (.bool (decide (0 ≤ n ∧ n ≤ (nu : Int) - 1))) ∧ Below W.heap.size W w') := fun W => cIsIn_any n 0 _ W
    by_cases hn : 0 ≤ n ∧ n ≤ (nu : Int) - 1
    · rw [decide_eq_true hn] at C2
      obtain ⟨i, rfl⟩ : ∃ i : Nat, n = i := ⟨n.toNat, by omega⟩
      have hi : i < c.units.length := by have := HNU.out; omega
      obtain ⟨b, o, rfl, -, hbl, hc⟩ := HAT.out i hi
      obtain ⟨e0, e1, e2, e3, e4, ⟨vi, e5, hvi⟩, vv, e6, hvv⟩ := hc
      obtain ⟨bi, ci, rfl, -⟩ := hvi.at
      obtain ⟨bv, cv, rfl, -⟩ := hvv.at
      obtain ⟨u, hu⟩ : ∃ u, u = c.units[i] := ⟨_, rfl⟩
      rw [← hu] at e0 e1 e2 e3 e4 e5 e6 hvi hvv
      have HU : Hid (u = c.units[i]) := hu
      have hmem : u ∈ c.units := hu ▸ List.getElem_mem hi
      have hparts := rightC_parts HRE.out.symm
      have hup := unitR_parts (hparts.2.1 u hmem)
      have HRH : Hid (RightH c u) := hparts.2.2 u hmem
      have HII : Hid (insIn S w (.slice bi u.ins.length ci) u.ins) := hvi
      have HALL : Hid (InsAll c u) := insAll_of (hparts.2.1 u hmem) hparts.2.1 (outR_shapes hparts.1)
      obtain ⟨nv, hnv⟩ : ∃ nv, nv = u.vars.length := ⟨_, rfl⟩
      rw [← hnv] at e6
      have HST : Hid (0 ≤ u.stack ∧ u.stack ≤ 256) := hup.2.2.1
      have HLEN : Hid (1 ≤ u.ins.length ∧ u.ins.length ≤ 4096) := hup.2.2.2.1
      have hi3 : (i : Int) < nu := by omega
      obtain ⟨ni, hni⟩ : ∃ ni, ni = u.ins.length := ⟨_, rfl⟩
      have HNI : Hid (ni = u.ins.length) := hni
      rw [← hni] at e5
      have hnile : (ni : Int) ≤ 4096 := by omega
      clear hu hmem hparts hup hvi hvv hn hcap hnv hni
      have HI : Hid (i < c.units.length) := hi
      go_enter Tryz.func8, Tryz.ntmps8
      go_wp2_with fail
      rw [← HW2.out]
      refine c1.mono ?_
      clear c1
      rintro e v1 ⟨rfl, hb1⟩
      have HV1 : Hid (Below w2.heap.size w2 v1) := hb1
      obtain ⟨a0, a1, a2, a3⟩ := HF.out v1 hb1
      have c2 := C2.out v1
      clear hb1
      go_wp2_with fail
      refine c2.mono ?_
      clear c2 a0 a1 a2 a3
      rintro e v2 ⟨rfl, hb2⟩
      have HV2 : Hid (Below w2.heap.size w2 v2) := HV1.out.trans (hb2.mono HV1.out.size)
      have HVw : Hid (Below w.heap.size w v2) := HB2.out.trans (HV2.out.mono HB2.out.size)
      obtain ⟨a0, a1, a2, a3⟩ := HF.out v2 HV2.out
      have hcc : ∀ q, v2.cell? ⟨b, q, none⟩ = w.cell? ⟨b, q, none⟩ := fun q => below_cell HVw.out hbl
      rw [← hcc] at e0 e1 e2 e3 e4 e5 e6
      obtain ⟨w3, hw3, hb3, HZ3, h3⟩ := box1 v2 (.cells #[.string (strB u.name), .int .i64 u.params, .int .i64 u.slots, .int .i64 u.stack, .bool u.result, .slice bi ni ci, .slice bv nv cv] 58)
      have HW3 : Hid (w3 = v2.alloc (.cells #[.string (strB u.name), .int .i64 u.params, .int .i64 u.slots, .int .i64 u.stack, .bool u.result, .slice bi ni ci, .slice bv nv cv] 58)) := hw3
      have HB3 : Hid (Below w2.heap.size w2 w3) := HV2.out.trans (hb3.mono HV2.out.size)
      have HB3w : Hid (Below w.heap.size w w3) := HB2.out.trans (HB3.out.mono HB2.out.size)
      obtain ⟨y0, y1, y2, y3, y4, y5, y6⟩ := cells7 h3
      have HY5 : Hid (w3.heap[v2.heap.size]? = some (.cells #[.string (strB u.name), .int .i64 u.params, .int .i64 u.slots, .int .i64 u.stack, .bool u.result, .slice bi ni ci, .slice bv nv cv] 58 (0, 0))) := h3
      obtain ⟨d0, d1, d2, d3⟩ := HF.out w3 HB3.out
      have cr := cReach_any S c bs bh (some ⟨b, o, none⟩) bi bv ns cs nh ch nu cu u.ins.length ci nv cv m u w3 (HCIN.out w3 HB3w.out).1.shapes (HCIN.out w3 HB3w.out).1.units (rowIn.kept HII.out (insE_keeps S) HB3w.out.size fun q _ hq => HB3w.out.block q hq) (HCIN.out w3 HB3w.out).2 HALL.out HST.out HLEN.out
      rw [← HNI.out] at cr
      clear hb2 hcc hw3 hb3 h3
      go_upto_region 6 with fail
      rw [← HW3.out]
      clear e0 e1 e2 e3 e4 e5 e6 a0 a1 a2 a3
      go_wp2_with fail
      refine cr.mono ?_
      clear cr
      rintro e w4 ⟨hret, hb4⟩
      have HB4 : Hid (Below w3.heap.size w3 w4) := hb4
      have HB4w : Hid (Below w.heap.size w w4) := HB3w.out.trans (hb4.mono HB3w.out.size)
      rcases hret with ⟨-, B, mm, D, cnt, rfl, hNB, hown, hmis, hiff⟩ | ⟨hr, -⟩
      · have z5 : w4.cell? ⟨v2.heap.size, 5, none⟩ = some (.slice bi ni ci) := (cells7 ((hb4.block v2.heap.size (heap_lt HY5.out)).trans HY5.out)).2.2.2.2.2.1
        have HOWN : Hid (w4.ownsMap Tryz.prog 3 (plainElem Tryz.prog 3) B cnt D) := hown
        have HMIS : Hid (MapIs D mm) := hmis
        have HIFF : Hid (∀ i h, mm i = some h ↔ Rch c u i h) := hiff
        obtain ⟨w5, hmk, hrow5, hg5⟩ := run_makeSlice_full (P := Tryz.prog) w4 w4.heap.size 29 3 i0 (.int .i64 0) 1 und_ints hinf hz0 hz1 .i64 .i64 ni (by omega) (by rw [hz2]; omega) (by unfold maxLen; omega) (Nat.le_refl _)
        have HG5 : Hid (w4.grownBy w5 none) := hg5
        have HJ0 : Hid (HtJ c u w4.heap.size w4 w5 0 (madeCells (Value.int .i64 0).cells (ni * 1)).toList) := by
          refine ⟨?_, ⟨hg5.os, hg5.tape, hg5.output, hg5.size, fun k hk => hg5.block k hk (by simp)⟩, fun j hj => by omega⟩
          rw [← HNI.out]; exact hrow5
        clear hb4 hown hmis hiff hrow5 hg5 hNB y0 y1 y2 y3 y4 y5 y6 d0 d1 d2 d3
        go_wp2
        go_loopw [42] (fun vi wr => ∃ k xs, k ≤ ni ∧ vi = .int .i64 (k : Int) ∧ HtJ c u w4.heap.size w4 wr k xs) (fun vi _ => ni - (intOf vi).toNat)
        case atStart => exact ⟨0, _, Nat.zero_le _, rfl, HJ0.out⟩
        case round =>
          obtain ⟨k, xs, hk, rfl, hJ⟩ := hrel
          have HJ : Hid (HtJ c u w4.heap.size w4 wr k xs) := hJ
          by_cases hlt : k < ni
          · have hlt2 : (k : Int) < ni := by omega
            have hku : k < u.ins.length := by have := HNI.out; omega
            have hxl : xs.length = u.ins.length := by have := hJ.row.1; omega
            obtain ⟨x0, hc0⟩ : ∃ x0, wr.cell? ⟨w4.heap.size, k, none⟩ = some x0 := by
              rw [hJ.row.cellAt k (by omega)]
              exact ⟨_, List.getElem?_eq_getElem (by omega)⟩
            have hf0 := hJ.row.frozenAt k
            have hJ1 := hJ.put (-1)
            have hc1 : (wr.setCell ⟨w4.heap.size, k, none⟩ (.int .i64 (-1))).cell? ⟨w4.heap.size, k, none⟩ = some (.int .i64 (-1)) := World.cell?_setCell_same _ _ _ hc0
            have hf1 := hJ1.row.frozenAt k
            have hk32 : k ≤ 1048577 := by omega
            have hBlt := HOWN.out.lt
            obtain ⟨vl, ps, hlk, hvl⟩ := (map_to HOWN.out (hJ1.below.block B hBlt)).look_ok law_int und_map (zero_int _) (plainElem_int und_int (by decide)) (key_nat hk32)
            obtain ⟨cv, rfl, hcv, -⟩ := plainElem_int_inv und_int hvl
            have hcv2 : D.atKey (.int .i64 (k : Int)) (.lit (.int .i64 0)) = .lit (.int .i64 cv) := congrArg Prod.fst hcv
            rw [(HMIS.out.2 k).1] at hlk
            cases hmn : mm k with
            | none =>
              rw [hmn] at hlk
              simp only [Option.isSome_none] at hlk
              have HNX : Hid (HtJ c u w4.heap.size w4 (wr.setCell ⟨w4.heap.size, k, none⟩ (.int .i64 (-1))) (k + 1) (xs.set k (.int .i64 (-1)))) := hJ.set hku (-1) (htR_no (fun ⟨h, hr⟩ => by rw [(HIFF.out k h).2 hr] at hmn; cases hmn)).symm
              clear hJ hJ1 hvl hcv hcv2 hmn hxl hBlt hmk
              go_wp2
              exact ⟨⟨k + 1, _, by omega, by go_num, HNX.out⟩, by simp [intOf]; omega⟩
            | some hv =>
              rw [hmn] at hlk
              simp only [Option.isSome_some] at hlk
              have hcvv : cv = hv := by
                have := (HMIS.out.2 k).2 hv hmn
                rw [hcv2] at this
                injection this with h3
                injection h3 with _ h4
              subst hcvv
              have HNX : Hid (HtJ c u w4.heap.size w4 ((wr.setCell ⟨w4.heap.size, k, none⟩ (.int .i64 (-1))).setCell ⟨w4.heap.size, k, none⟩ (.int .i64 cv)) (k + 1) ((xs.set k (.int .i64 (-1))).set k (.int .i64 cv))) := hJ1.set hku cv (htR_of HRH.out ((HIFF.out k cv).1 hmn)).symm
              clear hJ hJ1 hvl hcv hcv2 hmn hxl hBlt hmk
              go_wp2
              exact ⟨⟨k + 1, _, by omega, by go_num, HNX.out⟩, by simp [intOf]; omega⟩
          · obtain rfl : k = ni := by omega
            have hi2 : ¬ (k : Int) < k := by omega
            have HE : Hid (rowIn (fun b => w.heap.size ≤ b) wr (.slice (some ⟨w4.heap.size, 0, none⟩) k k) 1 intE (hts c u)) := by
              have hh := HNI.out
              subst hh
              refine hJ.end ?_ HB4w.out.size
              rcases hJ.row.2 with ⟨h1, _⟩ | ⟨g', cap, cur, h1, _, hh, _⟩
              · cases h1
              · cases h1; exact heap_lt hh
            have HBE : Hid (Below w.heap.size w wr) := HB4w.out.trans (hJ.below.mono HB4w.out.size)
            clear hJ
            go_wp2
            go_ret2
            exact ⟨.inr (.inr ⟨HRE.out.symm, i, HI.out, _, rfl, rfl, HU.out ▸ HE.out⟩), HBE.out⟩
      · exact absurd HRH.out hr
    · rw [decide_eq_false hn] at C2
      have HNN : Hid (¬ (0 ≤ n ∧ n < (c.units.length : Int))) := fun h => hn (by have := HNU.out; omega)
      clear hn
      go_enter Tryz.func8, Tryz.ntmps8
      go_wp2_with fail
      rw [← HW2.out]
      refine c1.mono ?_
      clear c1
      rintro e v1 ⟨rfl, hb1⟩
      have HV1 : Hid (Below w2.heap.size w2 v1) := hb1
      obtain ⟨a0, a1, a2, a3⟩ := HF.out v1 hb1
      have c2 := C2.out v1
      clear hb1
      go_wp2_with fail
      refine c2.mono ?_
      clear c2 a0 a1 a2 a3
      rintro e v2 ⟨rfl, hb2⟩
      have HV2 : Hid (Below w.heap.size w v2) := HB2.out.trans ((HV1.out.trans (hb2.mono HV1.out.size)).mono HB2.out.size)
      clear hb2
      go_wp2
      go_ret2
      exact ⟨.inr (.inl ⟨HRE.out.symm, HNN.out, rfl⟩), HV2.out⟩
end Go.Proofs.YtechkkphbajmoaaGreatDoor
