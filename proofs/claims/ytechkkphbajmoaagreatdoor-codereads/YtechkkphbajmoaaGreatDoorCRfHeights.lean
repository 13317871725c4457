/- code: the document's own heights of a unit. -/
import Derived.Test.YtechkkphbajmoaaGreatDoorCRfMath
import Derived.Test.YtechkkphbajmoaaGreatDoorMR
import Derived.Test.YtechkkphbajmoaaGreatDoorCPut
import Derived.Deep.CutRange
namespace Go.Proofs.YtechkkphbajmoaaGreatDoor
open Go.RowKit Go.Shelf

/-- What the document's heights answer. -/
def HgRet (N : Nat) (c : Cd) (u : Un) (e : Ending) (w' : World) : Prop :=
  (RightH c u ∧ ∃ v, e = .returned (.tuple #[v, .bool true]) ∧ rowIn (fun b => N ≤ b) w' v 1 intE (hts c u)) ∨ (¬ RightH c u ∧ e = .returned (.tuple #[.slice none 0 0, .bool false]))
/-- The heights noted so far lie in a row of their own. -/
structure HgMem (g ni : Nat) (w2 wr : World) (L : List Int) : Prop where
  row : wr.ownsRow g 3 1 (.slice (some ⟨g, 0, none⟩) ni ni) ni (intC L)
  below : Below g w2 wr
theorem intC_set (L : List Int) (k : Nat) (a : Int) : intC (L.set k a) = (intC L).set k (.int .i64 a) := by unfold intC; rw [List.map_set]
theorem HgMem.set {g ni : Nat} {w2 wr : World} {L : List Int} (h : HgMem g ni w2 wr L) (k : Nat) (a : Int) : HgMem g ni w2 (wr.setCell ⟨g, k, none⟩ (.int .i64 a)) (L.set k a) := by
  have hs := h.row.stored k (.int .i64 a)
  exact ⟨by rw [intC_set]; exact hs.1, h.below.setCell (p := ⟨g, k, none⟩) (Nat.le_refl _) _⟩
theorem HgMem.lt {g ni : Nat} {w2 wr : World} {L : List Int} (h : HgMem g ni w2 wr L) : g < wr.heap.size := by
  rcases h.row.2 with ⟨h1, _⟩ | ⟨g', cap, cur, h1, _, hh, _⟩
  · cases h1
  · cases h1; exact heap_lt hh
theorem HgMem.new {g ni : Nat} {w2 wr w1 : World} {L : List Int} (h : HgMem g ni w2 wr L) (hb : Below wr.heap.size wr w1) : HgMem g ni w2 w1 L := ⟨own_stay h.row hb, h.below.trans (hb.mono (Nat.le_of_lt h.lt))⟩
theorem HgMem.cell {g ni : Nat} {w2 wr : World} {L : List Int} (h : HgMem g ni w2 wr L) {k : Nat} {a : Int} (ha : L[k]? = some a) (hk : k < ni) : wr.cell? ⟨g, k, none⟩ = some (.int .i64 a) := by
  rw [h.row.cellAt k (by omega)]
  unfold intC
  rw [List.getElem?_map, ha]
  rfl
theorem HgMem.read {g ni : Nat} {w2 wr : World} {L : List Int} (h : HgMem g ni w2 wr L) (hl : L.length = ni) {N : Nat} (hN : N ≤ g) : rowIn (fun b => N ≤ b) wr (.slice (some ⟨g, 0, none⟩) ni ni) 1 intE L := by
  refine ⟨some ⟨g, 0, none⟩, ni, by rw [hl], by omega, ?_, .inr ⟨g, 0, rfl, hN, h.lt, fun j hj => ?_⟩⟩
  · rcases h.row.2 with ⟨h1, _⟩ | ⟨g', cap, cur, h1, _, _, _, h5, _⟩
    · cases h1
    · cases h1; exact h5
  · show wr.cell? ⟨g, 0 + j * 1, none⟩ = _
    rw [Nat.zero_add, Nat.mul_one]
    exact h.cell (List.getElem?_eq_getElem hj) (by omega)
/-- All but the heights is kept. -/
def KeepG (g : Nat) (w w' : World) : Prop := ∀ q, q ≠ g → w'.heap[q]? = w.heap[q]?
theorem KeepG.set {g : Nat} {w w' : World} (h : KeepG g w w') (k : Nat) (v : Value) : KeepG g w (w'.setCell ⟨g, k, none⟩ v) := fun q hq => (Below.heap_setCell w' ⟨g, k, none⟩ v q hq).trans (h q hq)

set_option maxRecDepth 100000 in
set_option maxHeartbeats 16000000 in
theorem rfHts (S : Nat → Prop) (c : Cd) (bs bh bu bi bv : Option Addr) (ns cs nh ch nu cu ni ci nv cv : Nat) (m0 : Int) (u : Un) (w : World) (hsh : shapesIn S w (.slice bh nh ch) c.shapes) (hun : unitsIn S w (.slice bu nu cu) c.units) (hii : insIn S w (.slice bi ni ci) u.ins)
    (hall : InsAll c u) (hst : 0 ≤ u.stack ∧ u.stack ≤ 256) (hlen : 1 ≤ u.ins.length ∧ u.ins.length ≤ 4096) :
    Calls Tryz.prog 27 #[cdV (.slice bs ns cs) (.slice bh nh ch) (.slice bu nu cu) m0, unV u (.slice bi ni ci) (.slice bv nv cv)] w fun e w' => HgRet w.heap.size c u e w' ∧ Below w.heap.size w w' := by
  obtain ⟨name, params, slots, stack, result, ins, vars⟩ := u
  obtain ⟨U, hU⟩ : ∃ U : Un, U = ⟨name, params, slots, stack, result, ins, vars⟩ := ⟨_, rfl⟩
  have HUI : Hid (U.ins = ins) := by rw [hU]; exact rfl
  have HUS : Hid (U.stack = stack) := by rw [hU]; exact rfl
  simp only at hst hlen hii
  obtain ⟨hni, hci, hat⟩ : ni = ins.length ∧ ins.length ≤ ci ∧ ∀ i (hi : i < ins.length), ∃ b o, bi = some ⟨b, o, none⟩ ∧ S b ∧ b < w.heap.size ∧ insE w b (o + i * 2) ins[i] := by
    obtain ⟨b, cc, e, h1, _, h⟩ := hii.at
    cases e
    exact ⟨rfl, h1, h⟩
  show Calls Tryz.prog 27 #[cdV (.slice bs ns cs) (.slice bh nh ch) (.slice bu nu cu) m0, .agg #[.string (strB name), .int .i64 params, .int .i64 slots, .int .i64 stack, .bool result, .slice bi ni ci, .slice bv nv cv]] w fun e w' => HgRet w.heap.size c ⟨name, params, slots, stack, result, ins, vars⟩ e w' ∧ Below w.heap.size w w'
  rw [← hU] at hall ⊢
  have HALL : Hid (InsAll c U) := hall
  have HST : Hid (0 ≤ U.stack ∧ U.stack ≤ 256) := by rw [HUS.out]; exact hst
  have HAT : Hid (∀ i (hi : i < ins.length), ∃ b o, bi = some ⟨b, o, none⟩ ∧ S b ∧ b < w.heap.size ∧ insE w b (o + i * 2) ins[i]) := hat
  have HNI : Hid (ni = ins.length) := hni
  have HUN : Hid (U.ins.length = ni) := by rw [HUI.out]; exact hni.symm
  have hn1 : (1 : Int) ≤ ni := by omega
  have hn2 : (ni : Int) ≤ 4096 := by omega
  have hn3 : 1 ≤ ni := by omega
  obtain ⟨w2, hw2, hb2, HZ2, h0, h1⟩ := box2 w (.cells #[.slice bs ns cs, .slice bh nh ch, .slice bu nu cu, .int .i64 m0] 26) (.cells #[.string (strB name), .int .i64 params, .int .i64 slots, .int .i64 stack, .bool result, .slice bi ni ci, .slice bv nv cv] 58)
  have HW2 : Hid (w2 = (w.alloc (.cells #[.slice bs ns cs, .slice bh nh ch, .slice bu nu cu, .int .i64 m0] 26)).alloc (.cells #[.string (strB name), .int .i64 params, .int .i64 slots, .int .i64 stack, .bool result, .slice bi ni ci, .slice bv nv cv] 58)) := hw2
  have HB2 : Hid (Below w.heap.size w w2) := hb2
  have HF : Hid (∀ W, Below w2.heap.size w2 W → (W.cell? ⟨w.heap.size, 0, none⟩ = some (.slice bs ns cs) ∧ W.cell? ⟨w.heap.size, 1, none⟩ = some (.slice bh nh ch) ∧ W.cell? ⟨w.heap.size, 2, none⟩ = some (.slice bu nu cu) ∧ W.cell? ⟨w.heap.size, 3, none⟩ = some (.int .i64 m0)) ∧
      (W.cell? ⟨w.heap.size + 1, 0, none⟩ = some (.string (strB name)) ∧ W.cell? ⟨w.heap.size + 1, 1, none⟩ = some (.int .i64 params) ∧ W.cell? ⟨w.heap.size + 1, 2, none⟩ = some (.int .i64 slots) ∧ W.cell? ⟨w.heap.size + 1, 3, none⟩ = some (.int .i64 stack) ∧ W.cell? ⟨w.heap.size + 1, 4, none⟩ = some (.bool result) ∧ W.cell? ⟨w.heap.size + 1, 5, none⟩ = some (.slice bi ni ci) ∧ W.cell? ⟨w.heap.size + 1, 6, none⟩ = some (.slice bv nv cv))) := fun W hW => by
    have hz := HZ2.out
    exact ⟨bcells4 ((hW.block w.heap.size (by omega)).trans h0), cells7 ((hW.block (w.heap.size + 1) (by omega)).trans h1)⟩
  have HSZ : Hid (w.heap.size + 1 < w2.heap.size) := by have hz := HZ2.out; show _ < _; omega
  have HMV : Hid (∀ W (x : In7), Below w2.heap.size w2 W → x ∈ ins → Calls Tryz.prog 71 #[.agg #[.slice bs ns cs, .slice bh nh ch, .slice bu nu cu, .int .i64 m0], .agg #[.int .i64 x.op, .int .i64 x.a]] W fun e w' => e = .returned (.tuple #[.int .i64 (effR c x).1, .int .i64 (effR c x).2]) ∧ Below W.heap.size W w') := fun W x hW hx => by
    have hWw : Below w.heap.size w W := hb2.trans (hW.mono hb2.size)
    have hx' := hall x (by rw [HUI.out]; exact hx)
    exact rfMoves S c bs bh bu ns cs nh ch nu cu m0 x W (rowIn.kept hsh (shE_keeps S) hWw.size fun q _ hq => hWw.block q hq) (rowIn.kept hun (unE_keeps S) hWw.size fun q _ hq => hWw.block q hq) hx'.1
  obtain ⟨ii0, hinf, hz0, hz1, hz2⟩ := info_parts info_int
  obtain ⟨w3, hmk, hrow3, hg3⟩ := run_makeSlice_full (P := Tryz.prog) w2 w2.heap.size 29 3 ii0 (.int .i64 0) 1 und_ints hinf hz0 hz1 .i64 .i64 ni (by omega) (by rw [hz2]; omega) (by unfold maxLen; omega) (Nat.le_refl _)
  have HROW3 : Hid (w3.ownsRow w2.heap.size 3 1 (.slice (some ⟨w2.heap.size, 0, none⟩) ni ni) ni (madeCells (Value.int .i64 0).cells (ni * 1)).toList) := hrow3
  have HB3 : Hid (Below w2.heap.size w2 w3) := ⟨hg3.os, hg3.tape, hg3.output, hg3.size, fun k hk => hg3.block k hk (by simp)⟩
  obtain ⟨p0, p1, p2, p3, p4, p5, p6⟩ := (HF.out w2 (Below.refl _ _)).2
  clear hw2 hb2 h0 h1 HZ2 hall hst hii hsh hun hat hU hlen hni hci hrow3 hg3
  go_enter Tryz.func27, Tryz.ntmps27
  go_upto_region 1 with fail
  rw [← HW2.out]
  go_wp2
  clear p0 p1 p2 p3 p4 p5 p6 hmk
  go_loopw [7] (fun vi wr => ∃ (i : Nat) (xs : List Value), i ≤ ni ∧ vi = .int .i64 (i : Int) ∧ wr.ownsRow w2.heap.size 3 1 (.slice (some ⟨w2.heap.size, 0, none⟩) ni ni) ni xs ∧ Below w2.heap.size w2 wr ∧ ∀ j, j < i → xs[j]? = some (.int .i64 (-1))) (fun vi _ => ni - (intOf vi).toNat)
  case atStart => exact ⟨0, _, Nat.zero_le _, rfl, HROW3.out, HB3.out, fun j hj => by omega⟩
  case round =>
    obtain ⟨i, xs, hi, rfl, hrow, hbr, hxs⟩ := hrel
    have HROW : Hid (wr.ownsRow w2.heap.size 3 1 (.slice (some ⟨w2.heap.size, 0, none⟩) ni ni) ni xs) := hrow
    have HBr : Hid (Below w2.heap.size w2 wr) := hbr
    have HXS : Hid (∀ j, j < i → xs[j]? = some (.int .i64 (-1))) := hxs
    have hxl : xs.length = ni := by have := hrow.1; omega
    by_cases hlt : i < ni
    · have hi2 : (i : Int) < ni := by omega
      obtain ⟨x0, hc0⟩ : ∃ x0, wr.cell? ⟨w2.heap.size, i, none⟩ = some x0 := by
        rw [hrow.cellAt i (by omega)]
        exact ⟨_, List.getElem?_eq_getElem (by omega)⟩
      have hf0 := hrow.frozenAt i
      have HNX : Hid ((wr.setCell ⟨w2.heap.size, i, none⟩ (.int .i64 (-1))).ownsRow w2.heap.size 3 1 (.slice (some ⟨w2.heap.size, 0, none⟩) ni ni) ni (xs.set i (.int .i64 (-1)))) := (hrow.stored i (.int .i64 (-1))).1
      have HBN : Hid (Below w2.heap.size w2 (wr.setCell ⟨w2.heap.size, i, none⟩ (.int .i64 (-1)))) := hbr.setCell (p := ⟨w2.heap.size, i, none⟩) (Nat.le_refl _) _
      have HXN : Hid (∀ j, j < i + 1 → (xs.set i (.int .i64 (-1)))[j]? = some (.int .i64 (-1))) := fun j hj => by
        by_cases e : i = j
        · subst e; rw [List.getElem?_set_self (by omega)]
        · rw [List.getElem?_set_ne e]; exact HXS.out j (by omega)
      clear hrow hbr hxs hxl
      go_wp2
      exact ⟨⟨i + 1, _, by omega, by go_num, HNX.out, HBN.out, HXN.out⟩, by simp [intOf]; omega⟩
    · obtain rfl : i = ni := by omega
      have hi2 : ¬ (i : Int) < i := by omega
      have hxe : xs = intC (List.replicate i (-1)) := by
        refine List.ext_getElem? fun j => ?_
        by_cases hj : j < i
        · rw [HXS.out j hj]
          unfold intC
          rw [List.getElem?_map, List.getElem?_replicate, if_pos hj]
          rfl
        · rw [List.getElem?_eq_none (by omega), List.getElem?_eq_none (by unfold intC; rw [List.length_map, List.length_replicate]; omega)]
      have hm0 : HgMem w2.heap.size i w2 wr (List.replicate i (-1)) := ⟨by rw [← hxe]; exact hrow, hbr⟩
      have hc0 := hm0.cell (k := 0) (a := -1) (by rw [List.getElem?_replicate, if_pos (by omega)]) (by omega)
      have hf0 := hrow.frozenAt 0
      obtain ⟨L0, hL0⟩ : ∃ L0, L0 = (List.replicate i (-1 : Int)).set 0 0 := ⟨_, rfl⟩
      have HM0 : Hid (HgMem w2.heap.size i w2 (wr.setCell ⟨w2.heap.size, 0, none⟩ (.int .i64 0)) L0) := by rw [hL0]; exact hm0.set 0 0
      have HI0 : Hid (HgInv c U L0) := by
        have := hg_start (c := c) (u := U) (by rw [HUN.out]; omega)
        rw [HUN.out] at this
        rw [hL0]; exact this
      clear hrow hbr hxs hxl hxe hm0 hL0 HXS HROW
      go_wp2
      go_loopg [8] (negN L0 + 1) (fun k va wr => ∃ (b : Bool) (L : List Int), va = .bool b ∧ Hid (k = if b = true then negN L + 1 else 0) ∧ HgMem w2.heap.size i w2 wr L ∧ HgInv c U L ∧ Hid (b = false → ∃ k0, HgIn c U L i false k0))
      case atStart => exact ⟨true, L0, rfl, by show _ = _; rw [if_pos rfl], HM0.out, HI0.out, fun h => by cases h⟩
      case round =>
        obtain ⟨b, L1, rfl, HK, hM1, hI1, HEND⟩ := hrel
        have HM1 : Hid (HgMem w2.heap.size i w2 wr L1) := hM1
        have HI1 : Hid (HgInv c U L1) := hI1
        cases b with
        | false =>
          have HR : Hid (HgRet w.heap.size c U (.returned (.tuple #[.slice (some ⟨w2.heap.size, 0, none⟩) i i, .bool true])) wr) := by
            obtain ⟨k0, hin⟩ := HEND.out rfl
            rw [← HUN.out] at hin
            have e := hin.hts HALL.out HST.out
            refine .inl ⟨hin.right HALL.out HST.out, _, rfl, ?_⟩
            rw [← e]
            exact hM1.read (by rw [hI1.len, HUN.out]) HB2.out.size
          have HBE : Hid (Below w.heap.size w wr) := HB2.out.trans (hM1.below.mono HB2.out.size)
          clear hM1 hI1 HEND HK
          go_wp2
          go_ret2
          exact ⟨HR.out, HBE.out⟩
        | true =>
          have HKK : Hid (gk = negN L1 + 1) := HK.out
          clear hM1 hI1 HEND HK
          go_wp2
          go_loopw [8, 9] (fun va vi wr => ∃ (b : Bool) (j : Nat) (L : List Int), j ≤ i ∧ va = .bool b ∧ vi = .int .i64 (j : Int) ∧ HgMem w2.heap.size i w2 wr L ∧ HgIn c U L j b (negN L1)) (fun _ vi _ => i - (intOf vi).toNat)
          case atStart => exact ⟨false, 0, L1, Nat.zero_le _, rfl, rfl, HM1.out, HI1.out.begin⟩
          case round =>
            obtain ⟨b, j, L, hj, rfl, rfl, hM, hIn⟩ := hrel
            have HM : Hid (HgMem w2.heap.size i w2 wr L) := hM
            have HIn : Hid (HgIn c U L j b (negN L1)) := hIn
            have HBr : Hid (Below w2.heap.size w2 wr) := hM.below
            have HBw : Hid (Below w.heap.size w wr) := HB2.out.trans (hM.below.mono HB2.out.size)
            by_cases hlt : j < i
            · have hj2 : (j : Int) < i := by omega
              have hjL : j < L.length := by rw [hIn.inv.len, HUN.out]; exact hlt
              obtain ⟨v, hv⟩ : ∃ v, v = L[j] := ⟨_, rfl⟩
              have hvs : L[j]? = some v := by rw [hv]; exact List.getElem?_eq_getElem hjL
              have HVS : Hid (L[j]? = some v) := hvs
              have hcv := hM.cell hvs hlt
              by_cases hv0 : v < 0
              · have HNX : Hid (HgIn c U L (j + 1) b (negN L1)) := hIn.skip hvs hv0
                clear hM hIn hv hvs hjL
                go_wp2
                exact ⟨⟨b, j + 1, L, by omega, rfl, by go_num, HM.out, HNX.out⟩, by simp [intOf]; omega⟩
              · have hv1 : 0 ≤ v := by omega
                have hvr : v ≤ 256 := (rch_range HALL.out HST.out (hIn.inv.reach hvs hv1)).2
                have hjl : j < ins.length := by have := HNI.out; omega
                obtain ⟨bI, oI, rfl, -, hbl, hc⟩ := HAT.out j hjl
                obtain ⟨f0, f1⟩ := hc
                have hcc : ∀ q, wr.cell? ⟨bI, q, none⟩ = w.cell? ⟨bI, q, none⟩ := fun q => below_cell HBw.out hbl
                rw [← hcc] at f0 f1
                obtain ⟨x, hx⟩ : ∃ x, x = ins[j] := ⟨_, rfl⟩
                rw [← hx] at f0 f1
                have HXI : Hid (U.ins[j]? = some x) := by
                  show _ = _
                  rw [HUI.out, List.getElem?_eq_getElem hjl, hx]
                have HXM : Hid (x ∈ ins) := hx ▸ List.getElem_mem hjl
                obtain ⟨hok, hjmp, het, hep⟩ := HALL.out x (List.mem_of_getElem? HXI.out)
                have HJMP : Hid (x.op = 20 ∨ x.op = 21 → 0 ≤ x.a ∧ x.a < (U.ins.length : Int)) := hjmp
                have HOP : Hid (0 ≤ x.op ∧ x.op < 35) := by
                  obtain ⟨n, r, e1, e2, -⟩ := hok
                  have h9 := (List.getElem?_eq_some_iff.1 e2).1
                  have h8 : n < 35 := h9
                  show _ ∧ _
                  omega
                obtain ⟨p0, p1, p2, p3, p4, p5, p6⟩ := (HF.out wr HBr.out).2
                obtain ⟨w5, hw5, hb5, HZ5, h5⟩ := box1 wr (.cells #[.int .i64 x.op, .int .i64 x.a] 62)
                have HW5 : Hid (w5 = wr.alloc (.cells #[.int .i64 x.op, .int .i64 x.a] 62)) := hw5
                have HB5 : Hid (Below w2.heap.size w2 w5) := HBr.out.trans (hb5.mono HBr.out.size)
                have HF5 : Hid (∀ W, Below w5.heap.size w5 W → W.cell? ⟨wr.heap.size, 0, none⟩ = some (.int .i64 x.op) ∧ W.cell? ⟨wr.heap.size, 1, none⟩ = some (.int .i64 x.a)) := fun W hW => by
                  have hz := HZ5.out
                  exact bcells2 ((hW.block wr.heap.size (by omega)).trans h5)
                have HSZ5 : Hid (wr.heap.size < w5.heap.size) := heap_lt h5
                have HM5 : Hid (HgMem w2.heap.size i w2 w5 L) := hM.new hb5
                have cm := HMV.out w5 x HB5.out HXM.out
                obtain ⟨tk, htk⟩ : ∃ tk, tk = (effR c x).1 := ⟨_, rfl⟩
                obtain ⟨pu, hpu⟩ : ∃ pu, pu = (effR c x).2 := ⟨_, rfl⟩
                rw [← htk, ← hpu] at cm
                rw [← htk] at het
                rw [← hpu] at hep
                have HTK : Hid (tk = (effR c x).1 ∧ pu = (effR c x).2) := ⟨htk, hpu⟩
                obtain ⟨het0, het1⟩ := het
                obtain ⟨hep0, hep1⟩ := hep
                obtain ⟨xo, hxo⟩ : ∃ q, q = x.op := ⟨_, rfl⟩
                obtain ⟨xa, hxa⟩ : ∃ q, q = x.a := ⟨_, rfl⟩
                have HXO : Hid (xo = x.op ∧ xa = x.a) := ⟨hxo, hxa⟩
                rw [← hxo] at f0 HW5 HF5 cm
                rw [← hxa] at f1 HW5 HF5 cm
                clear hM hIn hv hvs hjL hcc hx hok hjmp hw5 hb5 HZ5 h5 htk hpu hxo hxa
                go_upto_region 15 with fail
                rw [← HW5.out]
                obtain ⟨⟨c0, c1, c2, c3⟩, -⟩ := HF.out w5 HB5.out
                obtain ⟨g0, g1⟩ := HF5.out w5 (Below.refl _ _)
                clear f0 f1 p0 p1 p2 p3 p4 p5 p6 hcv
                go_wp2_with fail
                refine cm.mono ?_
                clear cm c0 c1 c2 c3 g0 g1
                rintro e w6 ⟨rfl, hb6⟩
                have HB6 : Hid (Below w5.heap.size w5 w6) := hb6
                have HB62 : Hid (Below w2.heap.size w2 w6) := HB5.out.trans (hb6.mono HB5.out.size)
                have HM6 : Hid (HgMem w2.heap.size i w2 w6 L) := HM5.out.new hb6
                have hcv := HM6.out.cell HVS.out hlt
                have hgl := HM6.out.lt
                obtain ⟨g0, g1⟩ := HF5.out w6 hb6
                have hsz6 : wr.heap.size < w6.heap.size := Nat.lt_of_lt_of_le HSZ5.out hb6.size
                have hszw : w.heap.size + 1 < w6.heap.size := Nat.lt_of_lt_of_le HSZ.out HB62.out.size
                have p3 := (HF.out w6 HB62.out).2.2.2.2.1
                obtain ⟨left, hleft⟩ : ∃ left, left = v - tk + pu := ⟨_, rfl⟩
                have HLEFT : Hid (left = v - tk + pu) := hleft
                obtain ⟨BAD, hBAD⟩ : ∃ BAD, BAD = decide (LeaveBad c U.stack x v) := ⟨_, rfl⟩
                have HBAD : Hid (BAD = decide (v < tk ∨ stack < left ∨ (xo = 0 ∧ v ≠ 0) ∨ (xo = 23 ∧ v ≠ xa))) := by
                  show _ = _
                  rw [hBAD, HLEFT.out, HTK.out.1, HTK.out.2, HXO.out.1, HXO.out.2, ← HUS.out]
                  rfl
                have HBADE : Hid (BAD = decide (LeaveBad c U.stack x v)) := hBAD
                obtain ⟨s, hs⟩ : ∃ s, s = nmR xo := ⟨_, rfl⟩
                have HNM : Hid (∀ W, Below w6.heap.size w6 W → Calls Tryz.prog 41 #[.int .i64 xo] W fun e w' => e = .returned (.string (strB s)) ∧ Below w6.heap.size w6 w') := fun W hW => by
                  rw [hs]
                  exact (rfNm xo W).mono fun e w' ⟨he, hb⟩ => ⟨he, hW.trans (hb.mono hW.size)⟩
                have HQM : Hid ((xo = 0 → (s == [109, 97, 114, 107]) = true) ∧ (xo ≠ 0 → (s == [109, 97, 114, 107]) = false) ∧ (xo = 23 → (s == [114, 101, 116, 117, 114, 110]) = true) ∧ (xo ≠ 23 → (s == [114, 101, 116, 117, 114, 110]) = false)) := by
                  have ho := HOP.out
                  rw [← HXO.out.1] at ho
                  obtain ⟨n, hn⟩ : ∃ n : Nat, xo = n := ⟨xo.toNat, by omega⟩
                  have hnl : n < opsL.length := by show n < 35; omega
                  have hsn : s = (opsL[n]'hnl).1 := by rw [hs, hn]; exact nmR_at hnl
                  refine ⟨fun e => ?_, fun e => ?_, fun e => ?_, fun e => ?_⟩
                  · obtain rfl : n = 0 := by omega
                    rw [hsn]; rfl
                  · rw [hsn]; exact nm_ne hnl (k := 0) (by decide) (by omega)
                  · obtain rfl : n = 23 := by omega
                    rw [hsn]; rfl
                  · rw [hsn]; exact nm_ne hnl (k := 23) (by decide) (by omega)
                have hle : v - tk + pu = left := hleft.symm
                clear hb6 hleft hBAD hs
                go_upto_region 17 with fail
                have z0 := cls_cell (n := w6.heap.size) hcv (by simp only; omega)
                have z1 := cls_cell (n := w6.heap.size) p3 (by simp only; omega)
                have z2 := cls_cell (n := w6.heap.size) g0 (by simp only; omega)
                have z3 := cls_cell (n := w6.heap.size) g1 (by simp only; omega)
                clear hcv p3 g0 g1 hgl hsz6 hszw
                go_cut [101] from 32 to 153 (fun t wx => t = .bool BAD ∧ Below w6.heap.size w6 wx)
                case first =>
                  by_cases hA : v < tk
                  · have HBD : Hid (BAD = true) := HBAD.out.trans (decide_eq_true (.inl hA))
                    refine wp_region_cls (n := w6.heap.size) (w0 := w6) (Below.refl _ _) (by kernel_rfl) (by kernel_rfl) ?_
                    iterate 40 (go_big_quiet_step (fail))
                    refine wpQuiet_nil ?_
                    rintro _ ⟨cc, rfl⟩
                    obtain ⟨w7, hb7⟩ := cc
                    dsimp only
                    have HB7 : Hid (Below w6.heap.size w6 w7) := hb7
                    clear hb7 z0 z1 z2 z3
                    go_wp2_with fail
                    go_meet
                    exact ⟨by rw [HBD.out], HB7.out⟩
                  · by_cases hB : stack < left
                    · have HBD : Hid (BAD = true) := HBAD.out.trans (decide_eq_true (.inr (.inl hB)))
                      refine wp_region_cls (n := w6.heap.size) (w0 := w6) (Below.refl _ _) (by kernel_rfl) (by kernel_rfl) ?_
                      iterate 40 (go_big_quiet_step (fail))
                      refine wpQuiet_nil ?_
                      rintro _ ⟨cc, rfl⟩
                      obtain ⟨w7, hb7⟩ := cc
                      dsimp only
                      have HB7 : Hid (Below w6.heap.size w6 w7) := hb7
                      clear hb7 z0 z1 z2 z3
                      go_wp2_with fail
                      go_meet
                      exact ⟨by rw [HBD.out], HB7.out⟩
                    · by_cases hC : xo = 0
                      · have q0 := HQM.out.1 hC
                        have q23 := HQM.out.2.2.2 (by omega)
                        by_cases hv0b : v = 0
                        · have HBD : Hid (BAD = false) := HBAD.out.trans (decide_eq_false (by omega))
                          have hvb : (v == 0) = true := by rw [hv0b]; rfl
                          have hvd : decide (v = 0) = true := decide_eq_true hv0b
                          have hvn : (v != 0) = false := by rw [hv0b]; rfl
                          clear HQM hC hv0b
                          refine wp_region_cls (n := w6.heap.size) (w0 := w6) (Below.refl _ _) (by kernel_rfl) (by kernel_rfl) ?_
                          iterate 15 (go_big_quiet_step (fail))
                          go_big_quiet_step (exact cls_calls HNM.out _)
                          iterate 12 (go_big_quiet_step (fail))
                          go_big_quiet_step (exact cls_calls HNM.out _)
                          iterate 11 (go_big_quiet_step (fail))
                          refine wpQuiet_nil ?_
                          rintro _ ⟨cc, rfl⟩
                          obtain ⟨w7, hb7⟩ := cc
                          dsimp only
                          have HB7 : Hid (Below w6.heap.size w6 w7) := hb7
                          clear hb7 z0 z1 z2 z3
                          go_wp2_with fail
                          go_meet
                          exact ⟨by rw [HBD.out], HB7.out⟩
                        · have HBD : Hid (BAD = true) := HBAD.out.trans (decide_eq_true (.inr (.inr (.inl ⟨hC, hv0b⟩))))
                          have hvb : (v == 0) = false := by rw [beq_eq_false_iff_ne]; exact hv0b
                          have hvd : decide (v = 0) = false := decide_eq_false hv0b
                          have hvn : (v != 0) = true := by rw [bne_iff_ne]; exact hv0b
                          clear HQM hC
                          refine wp_region_cls (n := w6.heap.size) (w0 := w6) (Below.refl _ _) (by kernel_rfl) (by kernel_rfl) ?_
                          iterate 15 (go_big_quiet_step (fail))
                          go_big_quiet_step (exact cls_calls HNM.out _)
                          iterate 24 (go_big_quiet_step (fail))
                          refine wpQuiet_nil ?_
                          rintro _ ⟨cc, rfl⟩
                          obtain ⟨w7, hb7⟩ := cc
                          dsimp only
                          have HB7 : Hid (Below w6.heap.size w6 w7) := hb7
                          clear hb7 z0 z1 z2 z3
                          go_wp2_with fail
                          go_meet
                          exact ⟨by rw [HBD.out], HB7.out⟩
                      · have q0 := HQM.out.2.1 hC
                        by_cases hD : xo = 23
                        · have q23 := HQM.out.2.2.1 hD
                          by_cases hva : v = xa
                          · have HBD : Hid (BAD = false) := HBAD.out.trans (decide_eq_false (by omega))
                            have hvb : (v == xa) = true := by rw [hva]; simp
                            have hvd : decide (v = xa) = true := decide_eq_true hva
                            have hvn : (v != xa) = false := by rw [hva]; simp
                            clear HQM hC hD hva
                            refine wp_region_cls (n := w6.heap.size) (w0 := w6) (Below.refl _ _) (by kernel_rfl) (by kernel_rfl) ?_
                            iterate 15 (go_big_quiet_step (fail))
                            go_big_quiet_step (exact cls_calls HNM.out _)
                            iterate 12 (go_big_quiet_step (fail))
                            go_big_quiet_step (exact cls_calls HNM.out _)
                            iterate 11 (go_big_quiet_step (fail))
                            refine wpQuiet_nil ?_
                            rintro _ ⟨cc, rfl⟩
                            obtain ⟨w7, hb7⟩ := cc
                            dsimp only
                            have HB7 : Hid (Below w6.heap.size w6 w7) := hb7
                            clear hb7 z0 z1 z2 z3
                            go_wp2_with fail
                            go_meet
                            exact ⟨by rw [HBD.out], HB7.out⟩
                          · have HBD : Hid (BAD = true) := HBAD.out.trans (decide_eq_true (.inr (.inr (.inr ⟨hD, hva⟩))))
                            have hvb : (v == xa) = false := by rw [beq_eq_false_iff_ne]; exact hva
                            have hvn : (v != xa) = true := by rw [bne_iff_ne]; exact hva
                            clear HQM hC hD
                            refine wp_region_cls (n := w6.heap.size) (w0 := w6) (Below.refl _ _) (by kernel_rfl) (by kernel_rfl) ?_
                            iterate 15 (go_big_quiet_step (fail))
                            go_big_quiet_step (exact cls_calls HNM.out _)
                            iterate 12 (go_big_quiet_step (fail))
                            go_big_quiet_step (exact cls_calls HNM.out _)
                            iterate 11 (go_big_quiet_step (fail))
                            refine wpQuiet_nil ?_
                            rintro _ ⟨cc, rfl⟩
                            obtain ⟨w7, hb7⟩ := cc
                            dsimp only
                            have HB7 : Hid (Below w6.heap.size w6 w7) := hb7
                            clear hb7 z0 z1 z2 z3
                            go_wp2_with fail
                            go_meet
                            exact ⟨by rw [HBD.out], HB7.out⟩
                        · have q23 := HQM.out.2.2.2 hD
                          have HBD : Hid (BAD = false) := HBAD.out.trans (decide_eq_false (by omega))
                          clear HQM hC hD
                          refine wp_region_cls (n := w6.heap.size) (w0 := w6) (Below.refl _ _) (by kernel_rfl) (by kernel_rfl) ?_
                          iterate 15 (go_big_quiet_step (fail))
                          go_big_quiet_step (exact cls_calls HNM.out _)
                          iterate 12 (go_big_quiet_step (fail))
                          go_big_quiet_step (exact cls_calls HNM.out _)
                          iterate 11 (go_big_quiet_step (fail))
                          refine wpQuiet_nil ?_
                          rintro _ ⟨cc, rfl⟩
                          obtain ⟨w7, hb7⟩ := cc
                          dsimp only
                          have HB7 : Hid (Below w6.heap.size w6 w7) := hb7
                          clear hb7 z0 z1 z2 z3
                          go_wp2_with fail
                          go_meet
                          exact ⟨by rw [HBD.out], HB7.out⟩
                case rest =>
                  obtain ⟨rfl, hbc⟩ := hcut
                  have HBc : Hid (Below w6.heap.size w6 wc) := hbc
                  have HBc5 : Hid (Below w5.heap.size w5 wc) := HB6.out.trans (hbc.mono HB6.out.size)
                  have HBc2 : Hid (Below w2.heap.size w2 wc) := HB62.out.trans (hbc.mono HB62.out.size)
                  have HBcw : Hid (Below w.heap.size w wc) := HB2.out.trans (HBc2.out.mono HB2.out.size)
                  have HMc : Hid (HgMem w2.heap.size i w2 wc L) := HM6.out.new hbc
                  clear hbc z0 z1 z2 z3 hle
                  cases BAD with
                  | true =>
                    have HNR : Hid (¬ RightH c U) := HIn.out.bad HVS.out hv1 HXI.out (of_decide_eq_true HBADE.out.symm)
                    go_wp2
                    go_ret2
                    exact ⟨.inr ⟨HNR.out, rfl⟩, HBcw.out⟩
                  | false =>
                    have HLV : Hid (leaveR c U.stack x v = (left, true)) := by
                      show _ = _
                      unfold leaveR
                      rw [if_neg (of_decide_eq_false HBADE.out.symm), ← HTK.out.1, ← HTK.out.2, ← HLEFT.out]
                    have HL0 : Hid (0 ≤ left) := by
                      have hnb := of_decide_eq_false HBAD.out.symm
                      have := HLEFT.out
                      show 0 ≤ left
                      omega
                    have HMID0 : Hid (HgMid c U L j x v left 0 b (negN L1)) := HIn.out.take HVS.out hv1 HXI.out HLV.out
                    obtain ⟨g0, g1⟩ := HF5.out wc HBc5.out
                    have cb := rfBehind j x wc (by omega) HOP.out (fun h => (HJMP.out h).1)
                    rw [show inV x = .agg #[.int .i64 xo, .int .i64 xa] from by rw [HXO.out.1, HXO.out.2]] at cb
                    clear HBADE HBAD
                    go_wp2_with fail
                    refine cb.mono ?_
                    clear cb g0 g1
                    rintro e w8 ⟨⟨vx, rfl, hrowx⟩, hb8⟩
                    obtain ⟨LN, hLN⟩ : ∃ LN, LN = behindR j x := ⟨_, rfl⟩
                    rw [← hLN] at hrowx
                    have HLN : Hid (LN = behindR j x) := hLN
                    obtain ⟨basex, capx, rfl, hx1, hx2, hatx⟩ := hrowx.at
                    have HATX : Hid (∀ q (hq : q < LN.length), ∃ b o, basex = some ⟨b, o, none⟩ ∧ wc.heap.size ≤ b ∧ b < w8.heap.size ∧ natE w8 b (o + q * 1) LN[q]) := hatx
                    have hLf : LN.length ≤ 2 := hLN ▸ behind_few j x
                    have HLL : Hid (∀ n, n ∈ LN → n ≤ i) := fun n hn => by
                      have := behind_le HALL.out HXI.out (hLN ▸ hn)
                      rwa [HUN.out] at this
                    have HM8 : Hid (HgMem w2.heap.size i w2 w8 L) := HMc.out.new hb8
                    have HGC : Hid (w2.heap.size < wc.heap.size) := HMc.out.lt
                    have HB82 : Hid (Below w2.heap.size w2 w8) := HBc2.out.trans (hb8.mono HBc2.out.size)
                    have HKG : Hid (KeepG w2.heap.size w8 w8) := fun q _ => rfl
                    have hxl2 : (LN.length : Int) ≤ 2 := by omega
                    clear hrowx hatx hb8 hLN
                    go_wp2
                    go_loopw [8, 15] (fun va vk wr => ∃ (b : Bool) (k : Nat) (L : List Int), k ≤ LN.length ∧ va = .bool b ∧ vk = .int .i64 (k : Int) ∧ HgMem w2.heap.size i w2 wr L ∧ HgMid c U L j x v left k b (negN L1) ∧ KeepG w2.heap.size w8 wr) (fun _ vk _ => LN.length - (intOf vk).toNat)
                    case atStart => exact ⟨b, 0, L, Nat.zero_le _, rfl, rfl, HM8.out, HMID0.out, HKG.out⟩
                    case round =>
                      obtain ⟨b2, k, L2, hk, rfl, rfl, hM2, hMid, hKG⟩ := hrel
                      have HM2 : Hid (HgMem w2.heap.size i w2 wr L2) := hM2
                      have HMid : Hid (HgMid c U L2 j x v left k b2 (negN L1)) := hMid
                      have HKG2 : Hid (KeepG w2.heap.size w8 wr) := hKG
                      have HBr2 : Hid (Below w.heap.size w wr) := HB2.out.trans (hM2.below.mono HB2.out.size)
                      by_cases hklt : k < LN.length
                      · have hk2 : (k : Int) < LN.length := by omega
                        obtain ⟨bx, ox, rfl, hbx1, hbx2, hcx⟩ := HATX.out k hklt
                        have hcx2 : wr.cell? ⟨bx, ox + k, none⟩ = some (.int .i64 (LN[k] : Int)) := by
                          have h9 : natE w8 bx (ox + k * 1) LN[k] := hcx
                          have h8 : w8.cell? ⟨bx, ox + k * 1, none⟩ = _ := h9
                          rw [Nat.mul_one] at h8
                          exact (World.cell?_of_block (hKG bx (by have := HGC.out; omega))).trans h8
                        obtain ⟨n, hn⟩ : ∃ n, n = LN[k] := ⟨_, rfl⟩
                        have hbe : (behindR j x)[k]? = some n := by rw [← HLN.out, List.getElem?_eq_getElem hklt, hn]
                        rw [← hn] at hcx2
                        have hnle : n ≤ i := HLL.out n (hn ▸ List.getElem_mem hklt)
                        by_cases hni2 : n = i
                        · have HNR : Hid (¬ RightH c U) := hMid.far hbe (by rw [HUN.out, hni2]; exact Nat.le_refl _)
                          have hge : (i : Int) ≤ n := by omega
                          have hge2 : i ≤ n := by omega
                          clear hM2 hMid hKG hcx hn hbe hni2 hnle
                          go_wp2
                          go_ret2
                          exact ⟨.inr ⟨HNR.out, rfl⟩, HBr2.out⟩
                        · have hnlt : n < i := by omega
                          have hnlt2 : (n : Int) < i := by omega
                          have hnL : n < L2.length := by rw [hMid.inv.len, HUN.out]; exact hnlt
                          obtain ⟨a, ha⟩ : ∃ a, a = L2[n] := ⟨_, rfl⟩
                          have has : L2[n]? = some a := by rw [ha]; exact List.getElem?_eq_getElem hnL
                          have hca := hM2.cell has hnlt
                          have hfa := hM2.row.frozenAt n
                          by_cases ha0 : a < 0
                          · have HNX : Hid (HgMid c U (L2.set n left) j x v left (k + 1) true (negN L1)) := hMid.new hbe has ha0 HL0.out
                            have HMN : Hid (HgMem w2.heap.size i w2 (wr.setCell ⟨w2.heap.size, n, none⟩ (.int .i64 left)) (L2.set n left)) := hM2.set n left
                            have HKN : Hid (KeepG w2.heap.size w8 (wr.setCell ⟨w2.heap.size, n, none⟩ (.int .i64 left))) := hKG.set n _
                            clear hM2 hMid hKG hcx hn hbe hni2 hnle hnL ha has
                            go_wp2
                            exact ⟨⟨true, k + 1, _, by omega, rfl, by go_num, HMN.out, HNX.out, HKN.out⟩, by simp [intOf]; omega⟩
                          · have ha1 : 0 ≤ a := by omega
                            by_cases hal : a = left
                            · have HNX : Hid (HgMid c U L2 j x v left (k + 1) b2 (negN L1)) := hMid.same hbe (by rw [← hal]; exact has)
                              have hab : (a == left) = true := by rw [hal]; simp
                              clear hM2 hMid hKG hcx hn hbe hni2 hnle hnL ha has
                              subst hal
                              go_wp2
                              exact ⟨⟨b2, k + 1, L2, by omega, rfl, by go_num, HM2.out, HNX.out, HKG2.out⟩, by simp [intOf]; omega⟩
                            · have HNR : Hid (¬ RightH c U) := hMid.two hbe has ha1 hal
                              have hab : (a == left) = false := by rw [beq_eq_false_iff_ne]; exact hal
                              have hab2 : (a != left) = true := by rw [bne_iff_ne]; exact hal
                              clear hM2 hMid hKG hcx hn hbe hni2 hnle hnL ha has hal
                              go_wp2
                              go_ret2
                              exact ⟨.inr ⟨HNR.out, rfl⟩, HBr2.out⟩
                      · obtain rfl : k = LN.length := by omega
                        have hk2 : ¬ (LN.length : Int) < LN.length := by omega
                        have HNX : Hid (HgIn c U L2 (j + 1) b2 (negN L1)) := by
                          have h9 := hMid
                          rw [HLN.out] at h9
                          exact h9.done
                        clear hM2 hMid hKG
                        go_wp2
                        exact ⟨⟨b2, j + 1, L2, by omega, rfl, by go_num, HM2.out, HNX.out⟩, by simp [intOf]; omega⟩
            · obtain rfl : j = i := by omega
              have hj2 : ¬ (j : Int) < j := by omega
              have HEN : Hid (b = false → ∃ k0, HgIn c U L j false k0) := fun e => ⟨_, e ▸ HIn.out⟩
              have HLESS : Hid ((if b = true then negN L + 1 else 0) < gk) := by
                have h1 := HKK.out
                have h2 := HIn.out.less
                show _ < _
                cases b with
                | true => have := h2 rfl; rw [if_pos rfl]; omega
                | false => rw [if_neg (by simp)]; omega
              have HINV : Hid (HgInv c U L) := hIn.inv
              clear hM hIn
              go_wp2
              go_roundg (if b = true then negN L + 1 else 0)
              case measure => exact HLESS.out
              case rel => exact ⟨b, L, rfl, rfl, HM.out, HINV.out, HEN⟩
end Go.Proofs.YtechkkphbajmoaaGreatDoor
