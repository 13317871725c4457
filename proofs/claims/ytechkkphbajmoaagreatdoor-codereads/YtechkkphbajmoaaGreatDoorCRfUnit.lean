/- code: the document's own words: is a unit right, but for its heights. -/
import Derived.Test.YtechkkphbajmoaaGreatDoorMR
import Derived.Test.YtechkkphbajmoaaGreatDoorCRfNames
import Derived.Test.YtechkkphbajmoaaGreatDoorMB
namespace Go.Proofs.YtechkkphbajmoaaGreatDoor
open Go.RowKit Go.Shelf

theorem unitR_no {ns nh nu : Nat} {u : Un} (h : ¬ ((0 ≤ u.params ∧ u.params ≤ 8) ∧ (u.params ≤ u.slots ∧ u.slots ≤ 32) ∧ (0 ≤ u.stack ∧ u.stack ≤ 256) ∧ 1 ≤ (u.ins.length : Int) ∧ (u.ins.length : Int) ≤ 4096)) : unitR ns nh nu u = false := by
  rw [Bool.eq_false_iff]
  intro e
  unfold unitR at e
  simp only [Bool.and_eq_true, decide_eq_true_eq] at e
  exact h ⟨e.1, e.2.1, e.2.2.1, e.2.2.2.1⟩
theorem unitR_var {ns nh nu : Nat} {u : Un} {j : Nat} (hj : j < u.vars.length) (h : varR u.slots u.ins.length u.vars[j] = false) : unitR ns nh nu u = false := by
  rw [Bool.eq_false_iff]
  intro e
  unfold unitR at e
  simp only [Bool.and_eq_true, List.all_eq_true] at e
  have := e.2.2.2.2.1 _ (List.getElem_mem hj)
  rw [h] at this
  cases this
theorem unitR_ins {ns nh nu : Nat} {u : Un} {j : Nat} (hj : j < u.ins.length) (h : insR ns nh nu u.ins.length u.slots u.result u.ins[j] = false) : unitR ns nh nu u = false := by
  rw [Bool.eq_false_iff]
  intro e
  unfold unitR at e
  simp only [Bool.and_eq_true, List.all_eq_true] at e
  have := e.2.2.2.2.2 _ (List.getElem_mem hj)
  rw [h] at this
  cases this
theorem unitR_yes {ns nh nu : Nat} {u : Un} (h : (0 ≤ u.params ∧ u.params ≤ 8) ∧ (u.params ≤ u.slots ∧ u.slots ≤ 32) ∧ (0 ≤ u.stack ∧ u.stack ≤ 256) ∧ 1 ≤ (u.ins.length : Int) ∧ (u.ins.length : Int) ≤ 4096) (hv : ∀ j (hj : j < u.vars.length), varR u.slots u.ins.length u.vars[j] = true) (hi : ∀ j (hj : j < u.ins.length), insR ns nh nu u.ins.length u.slots u.result u.ins[j] = true) : unitR ns nh nu u = true := by
  unfold unitR
  simp only [Bool.and_eq_true, decide_eq_true_eq]
  exact ⟨h.1, h.2.1, h.2.2.1, h.2.2.2, all_true hv, all_true hi⟩
theorem unitR_ins2 {ns nh nu : Nat} {u : Un} {ins : List In7} {slots : Int} {result : Bool} {ni j : Nat} (e2 : u.slots = slots) (e4 : u.result = result) (e5 : u.ins = ins) (en : ni = ins.length) (hj : j < ins.length) (h : insR ns nh nu ni slots result ins[j] = false) : unitR ns nh nu u = false := by
  subst e2 e4 e5 en
  exact unitR_ins hj h
theorem unitR_yes2 {ns nh nu : Nat} {u : Un} {ins : List In7} {vars : List Vr} {params slots stack : Int} {result : Bool} {ni : Nat} (hU : u.params = params ∧ u.slots = slots ∧ u.stack = stack ∧ u.result = result ∧ u.ins = ins ∧ u.vars = vars) (en : ni = ins.length)
    (h : (0 ≤ params ∧ params ≤ 8) ∧ (params ≤ slots ∧ slots ≤ 32) ∧ (0 ≤ stack ∧ stack ≤ 256) ∧ 1 ≤ (ni : Int) ∧ (ni : Int) ≤ 4096) (hv : ∀ j (hj : j < vars.length), varR slots ni vars[j] = true) (hi : ∀ j (hj : j < ins.length), insR ns nh nu ni slots result ins[j] = true) : unitR ns nh nu u = true := by
  obtain ⟨e1, e2, e3, e4, e5, e6⟩ := hU
  subst e1 e2 e3 e4 e5 e6 en
  exact unitR_yes h hv hi
theorem varR_name {slots : Int} {ni : Nat} {v : Vr} (h : decide (backB 1 0 v.name) = false) : varR slots ni v = false := by unfold varR; rw [h]; rfl
theorem varR_rest {slots : Int} {ni : Nat} {v : Vr} (h : decide (backB 1 0 v.name) = true) : varR slots ni v = decide ((0 ≤ v.slot ∧ v.slot < slots) ∧ 0 ≤ v.lo ∧ v.lo ≤ v.hi ∧ v.hi ≤ (ni : Int)) := by
  unfold varR
  rw [h, Bool.true_and, ← Bool.decide_and, ← Bool.decide_and]
  exact decide_eq_decide.2 (by omega)

set_option maxRecDepth 100000 in
set_option maxHeartbeats 8000000 in
theorem rfUnit (S : Nat → Prop) (bs bh bu bi bv : Option Addr) (ns cs nh ch nu cu ni ci nv cv : Nat) (m : Int) (u : Un) (w : World) (hii : insIn S w (.slice bi ni ci) u.ins) (hvv : varsIn S w (.slice bv nv cv) u.vars)
    (hl : ∀ v ∈ u.vars, v.name.length ≤ 1048576) (hln : u.vars.length ≤ 1048576) (hln2 : u.ins.length ≤ 1048576) (hai : ∀ x ∈ u.ins, -9223372036854775808 ≤ x.a ∧ x.a ≤ 9223372036854775807) :
    Calls Tryz.prog 70 #[cdV (.slice bs ns cs) (.slice bh nh ch) (.slice bu nu cu) m, unV u (.slice bi ni ci) (.slice bv nv cv)] w fun e w' => e = .returned (.bool (unitR ns nh nu u)) ∧ Below w.heap.size w w' := by
  obtain ⟨U, hU⟩ : ∃ U, U = u := ⟨_, rfl⟩
  rw [show unitR ns nh nu u = unitR ns nh nu U from by rw [hU]]
  obtain ⟨name, params, slots, stack, result, ins, vars⟩ := u
  simp only at hii hvv hl hln hln2 hai ⊢
  have HU1 : Hid (U.params = params ∧ U.slots = slots ∧ U.stack = stack ∧ U.result = result ∧ U.ins = ins ∧ U.vars = vars) := by rw [hU]; exact ⟨rfl, rfl, rfl, rfl, rfl, rfl⟩
  obtain ⟨hni, hci, hati⟩ : ni = ins.length ∧ ins.length ≤ ci ∧ ∀ i (hi : i < ins.length), ∃ b o, bi = some ⟨b, o, none⟩ ∧ S b ∧ b < w.heap.size ∧ insE w b (o + i * 2) ins[i] := by obtain ⟨b, c, e, h1, -, h⟩ := hii.at; cases e; exact ⟨rfl, h1, h⟩
  obtain ⟨hnv, hcv, hatv⟩ : nv = vars.length ∧ vars.length ≤ cv ∧ ∀ i (hi : i < vars.length), ∃ b o, bv = some ⟨b, o, none⟩ ∧ S b ∧ b < w.heap.size ∧ varE w b (o + i * 4) vars[i] := by obtain ⟨b, c, e, h1, -, h⟩ := hvv.at; cases e; exact ⟨rfl, h1, h⟩
  have HATI : Hid (∀ i (hi : i < ins.length), ∃ b o, bi = some ⟨b, o, none⟩ ∧ S b ∧ b < w.heap.size ∧ insE w b (o + i * 2) ins[i]) := hati
  have HATV : Hid (∀ i (hi : i < vars.length), ∃ b o, bv = some ⟨b, o, none⟩ ∧ S b ∧ b < w.heap.size ∧ varE w b (o + i * 4) vars[i]) := hatv
  have HNI : Hid (ni = ins.length) := hni
  have HNV : Hid (nv = vars.length) := hnv
  have HLV : Hid (∀ v ∈ vars, v.name.length ≤ 1048576) := hl
  have HAI : Hid (∀ x ∈ ins, -9223372036854775808 ≤ x.a ∧ x.a ≤ 9223372036854775807) := hai
  obtain ⟨w2, hw2, hb2, HZ2, h0, hu⟩ := box2 w (.cells #[.slice bs ns cs, .slice bh nh ch, .slice bu nu cu, .int .i64 m] 26) (.cells #[.string (strB name), .int .i64 params, .int .i64 slots, .int .i64 stack, .bool result, .slice bi ni ci, .slice bv nv cv] 58)
  have HW2 : Hid (w2 = (w.alloc (.cells #[.slice bs ns cs, .slice bh nh ch, .slice bu nu cu, .int .i64 m] 26)).alloc (.cells #[.string (strB name), .int .i64 params, .int .i64 slots, .int .i64 stack, .bool result, .slice bi ni ci, .slice bv nv cv] 58)) := hw2
  have HB2 : Hid (Below w.heap.size w w2) := hb2
  have HF : Hid (∀ W, Below w2.heap.size w2 W → (W.cell? ⟨w.heap.size, 0, none⟩ = some (.slice bs ns cs) ∧ W.cell? ⟨w.heap.size, 1, none⟩ = some (.slice bh nh ch) ∧ W.cell? ⟨w.heap.size, 2, none⟩ = some (.slice bu nu cu) ∧ W.cell? ⟨w.heap.size, 3, none⟩ = some (.int .i64 m)) ∧
      (W.cell? ⟨w.heap.size + 1, 0, none⟩ = some (.string (strB name)) ∧ W.cell? ⟨w.heap.size + 1, 1, none⟩ = some (.int .i64 params) ∧ W.cell? ⟨w.heap.size + 1, 2, none⟩ = some (.int .i64 slots) ∧ W.cell? ⟨w.heap.size + 1, 3, none⟩ = some (.int .i64 stack) ∧ W.cell? ⟨w.heap.size + 1, 4, none⟩ = some (.bool result) ∧ W.cell? ⟨w.heap.size + 1, 5, none⟩ = some (.slice bi ni ci) ∧ W.cell? ⟨w.heap.size + 1, 6, none⟩ = some (.slice bv nv cv))) := fun W hW => by
    have hz := HZ2.out
    exact ⟨bcells4 ((hW.block w.heap.size (by omega)).trans h0), cells7 ((hW.block (w.heap.size + 1) (by omega)).trans hu)⟩
  have HSZ : Hid (w.heap.size + 1 < w2.heap.size) := by have hz := HZ2.out; show _ < _; omega
  obtain ⟨R, hR⟩ : ∃ R, R = unitR ns nh nu U := ⟨_, rfl⟩
  have HRE : Hid (R = unitR ns nh nu U) := hR
  rw [← hR]
  have hniI : (ni : Int) ≤ 1048576 := by omega
  have hnvI : (nv : Int) ≤ 1048576 := by omega
  have HNO : Hid (¬ ((0 ≤ params ∧ params ≤ 8) ∧ (params ≤ slots ∧ slots ≤ 32) ∧ (0 ≤ stack ∧ stack ≤ 256) ∧ 1 ≤ (ni : Int) ∧ (ni : Int) ≤ 4096) → R = false) := fun h => by
    rw [HRE.out]
    refine unitR_no ?_
    obtain ⟨e1, e2, e3, e4, e5, e6⟩ := HU1.out
    rw [e1, e2, e3, e5, ← HNI.out]
    exact h
  obtain ⟨⟨c0, c1, c2, c3⟩, p0, p1, p2, p3, p4, p5, p6⟩ := HF.out w2 (Below.refl _ _)
  clear hw2 hb2 h0 hu HZ2 hii hvv hati hatv hni hnv hl hai hR hU hln hln2 hci hcv
  go_enter Tryz.func70, Tryz.ntmps70
  go_upto_region 1 with fail
  rw [← HW2.out]
  by_cases b1 : params < 0
  · have HFA : Hid (R = false) := HNO.out fun h => by omega
    clear HNO c0 c1 c2 c3
    go_wp2
    go_ret
    rw [HFA.out]
    exact ⟨rfl, HB2.out⟩
  have k1 : 0 ≤ params := by omega
  clear b1
  by_cases b2 : 8 < params
  · have HFA : Hid (R = false) := HNO.out fun h => by omega
    clear HNO c0 c1 c2 c3
    go_wp2
    go_ret
    rw [HFA.out]
    exact ⟨rfl, HB2.out⟩
  have k2 : params ≤ 8 := by omega
  clear b2
  by_cases b3 : slots < params
  · have HFA : Hid (R = false) := HNO.out fun h => by omega
    clear HNO c0 c1 c2 c3
    go_wp2
    go_ret
    rw [HFA.out]
    exact ⟨rfl, HB2.out⟩
  have k3 : params ≤ slots := by omega
  clear b3
  by_cases b4 : 32 < slots
  · have HFA : Hid (R = false) := HNO.out fun h => by omega
    clear HNO c0 c1 c2 c3
    go_wp2
    go_ret
    rw [HFA.out]
    exact ⟨rfl, HB2.out⟩
  have k4 : slots ≤ 32 := by omega
  clear b4
  by_cases b5 : stack < 0
  · have HFA : Hid (R = false) := HNO.out fun h => by omega
    clear HNO c0 c1 c2 c3
    go_wp2
    go_ret
    rw [HFA.out]
    exact ⟨rfl, HB2.out⟩
  have k5 : 0 ≤ stack := by omega
  clear b5
  by_cases b6 : 256 < stack
  · have HFA : Hid (R = false) := HNO.out fun h => by omega
    clear HNO c0 c1 c2 c3
    go_wp2
    go_ret
    rw [HFA.out]
    exact ⟨rfl, HB2.out⟩
  have k6 : stack ≤ 256 := by omega
  clear b6
  by_cases b7 : (ni : Int) < 1
  · have HFA : Hid (R = false) := HNO.out fun h => by omega
    obtain rfl : ni = 0 := by omega
    clear HNO c0 c1 c2 c3
    go_wp2
    go_ret
    rw [HFA.out]
    exact ⟨rfl, HB2.out⟩
  have k7 : 1 ≤ (ni : Int) := by omega
  clear b7
  have k9 : ni ≠ 0 := by omega
  by_cases b8 : 4096 < (ni : Int)
  · have HFA : Hid (R = false) := HNO.out fun h => by omega
    clear HNO c0 c1 c2 c3
    go_wp2
    go_ret
    rw [HFA.out]
    exact ⟨rfl, HB2.out⟩
  have k8 : (ni : Int) ≤ 4096 := by omega
  clear b8
  have HOK : Hid ((0 ≤ params ∧ params ≤ 8) ∧ (params ≤ slots ∧ slots ≤ 32) ∧ (0 ≤ stack ∧ stack ≤ 256) ∧ 1 ≤ (ni : Int) ∧ (ni : Int) ≤ 4096) := ⟨⟨k1, k2⟩, ⟨k3, k4⟩, ⟨k5, k6⟩, k7, k8⟩
  have HB0 : Hid (Below w2.heap.size w2 w2) := Below.refl _ _
  clear c0 c1 c2 c3
  go_wp2
  clear k1 k2 k3 k4 k5 k6 k7 k8 k9 p0 p1 p2 p3 p4 p5 p6
  go_loopw [5] (fun vi wr => ∃ i : Nat, i ≤ nv ∧ vi = .int .i64 (i : Int) ∧ Hid (∀ j (hj : j < vars.length), j < i → varR slots ni vars[j] = true) ∧ Below w2.heap.size w2 wr) (fun vi _ => nv - (intOf vi).toNat)
  case atStart => exact ⟨0, Nat.zero_le _, rfl, fun j _ h => by omega, HB0.out⟩
  case round =>
    obtain ⟨i, hi, rfl, HVS, hbr⟩ := hrel
    have HB : Hid (Below w2.heap.size w2 wr) := hbr
    have HBw : Hid (Below w.heap.size w wr) := HB2.out.trans (hbr.mono HB2.out.size)
    obtain ⟨-, p0, p1, p2, p3, p4, p5, p6⟩ := HF.out wr hbr
    clear hbr
    by_cases hlt : i < nv
    · have hi2 : (i : Int) < nv := by omega
      have hil : i < vars.length := by have := HNV.out; omega
      obtain ⟨b, o, rfl, -, hbl, hc⟩ := HATV.out i hil
      obtain ⟨f0, f1, f2, f3⟩ := hc
      have hcc : ∀ q, wr.cell? ⟨b, q, none⟩ = w.cell? ⟨b, q, none⟩ := fun q => below_cell HBw.out hbl
      rw [← hcc] at f0 f1 f2 f3
      obtain ⟨x, hx⟩ : ∃ x, x = vars[i] := ⟨_, rfl⟩
      rw [← hx] at f0 f1 f2 f3
      have HX : Hid (x = vars[i]) := hx
      have hxl : x.name.length ≤ 1048576 := by rw [hx]; exact HLV.out _ (List.getElem_mem hil)
      have HBADV : Hid (varR slots ni x = false → R = false) := fun h => by
        rw [HRE.out]
        obtain ⟨e1, e2, e3, e4, e5, e6⟩ := HU1.out
        refine unitR_var (j := i) (by rw [e6]; exact hil) ?_
        rw [e2, e5, ← HNI.out]
        simp only [e6]
        rw [← HX.out]; exact h
      have HNEXT : Hid (varR slots ni x = true → ∀ j (hj : j < vars.length), j < i + 1 → varR slots ni vars[j] = true) := fun h j hj hji => by
        by_cases e : j = i
        · subst e; rw [← HX.out]; exact h
        · exact HVS.out j hj (by omega)
      obtain ⟨xn, xs, xlo, xhi⟩ := x
      simp only at f0 f1 f2 f3 hxl
      have HVN : Hid (decide (backB 1 0 xn) = false → varR slots ni ⟨xn, xs, xlo, xhi⟩ = false) := fun h => varR_name h
      have HVR : Hid (decide (backB 1 0 xn) = true → varR slots ni ⟨xn, xs, xlo, xhi⟩ = decide ((0 ≤ xs ∧ xs < slots) ∧ 0 ≤ xlo ∧ xlo ≤ xhi ∧ xhi ≤ (ni : Int))) := fun h => varR_rest h
      obtain ⟨w5, hw5, hb5, HZ5, h5⟩ := box1 wr (.cells #[.string (strB xn), .int .i64 xs, .int .i64 xlo, .int .i64 xhi] 121)
      have HW5 : Hid (w5 = wr.alloc (.cells #[.string (strB xn), .int .i64 xs, .int .i64 xlo, .int .i64 xhi] 121)) := hw5
      have HB5 : Hid (Below w2.heap.size w2 w5) := HB.out.trans (hb5.mono HB.out.size)
      have HB5w : Hid (Below w.heap.size w w5) := HB2.out.trans (HB5.out.mono HB2.out.size)
      have HF5 : Hid (∀ W, Below w5.heap.size w5 W → W.cell? ⟨wr.heap.size, 0, none⟩ = some (.string (strB xn)) ∧ W.cell? ⟨wr.heap.size, 1, none⟩ = some (.int .i64 xs) ∧ W.cell? ⟨wr.heap.size, 2, none⟩ = some (.int .i64 xlo) ∧ W.cell? ⟨wr.heap.size, 3, none⟩ = some (.int .i64 xhi)) := fun W hW => by
        have hz := HZ5.out
        exact bcells4 ((hW.block wr.heap.size (by omega)).trans h5)
      have cn := refName_any xn w5 (by omega)
      rw [← back1D] at cn
      have CU : Hid (∀ W, Calls Tryz.prog 26 #[.int .i64 xs, .int .i64 slots] W fun e w' => e = .returned (.bool (decide (0 ≤ xs ∧ xs < slots))) ∧ Below W.heap.size W w') := fun W => rfUpto xs slots W
      clear hcc hx hw5 hb5 HZ5 h5 hxl
      go_upto_region 7 with fail
      rw [← HW5.out]
      obtain ⟨g0, g1, g2, g3⟩ := HF5.out w5 (Below.refl _ _)
      clear f0 f1 f2 f3 p0 p1 p2 p3 p4 p5 p6
      by_cases hbk : backB 1 0 xn
      · rw [decide_eq_true hbk] at cn HVR
        have HVR2 : Hid (varR slots ni ⟨xn, xs, xlo, xhi⟩ = decide ((0 ≤ xs ∧ xs < slots) ∧ 0 ≤ xlo ∧ xlo ≤ xhi ∧ xhi ≤ (ni : Int))) := HVR.out rfl
        clear hbk HVR HVN
        go_wp2_with fail
        refine cn.mono ?_
        clear cn g0 g1 g2 g3
        rintro e w6 ⟨rfl, hb6⟩
        have HB6 : Hid (Below w5.heap.size w5 w6) := hb6
        have HB62 : Hid (Below w2.heap.size w2 w6) := HB5.out.trans (hb6.mono HB5.out.size)
        obtain ⟨g0, g1, g2, g3⟩ := HF5.out w6 hb6
        obtain ⟨-, p0, p1, p2, p3, p4, p5, p6⟩ := HF.out w6 HB62.out
        have cu := CU.out w6
        clear hb6
        by_cases hsl : 0 ≤ xs ∧ xs < slots
        · rw [decide_eq_true hsl] at cu
          go_wp2_with fail
          refine cu.mono ?_
          clear cu g0 g1 g2 g3 p0 p1 p2 p3 p4 p5 p6
          rintro e w7 ⟨rfl, hb7⟩
          have HB7 : Hid (Below w5.heap.size w5 w7) := HB6.out.trans (hb7.mono HB6.out.size)
          have HB72 : Hid (Below w2.heap.size w2 w7) := HB5.out.trans (HB7.out.mono HB5.out.size)
          have HB7w : Hid (Below w.heap.size w w7) := HB2.out.trans (HB72.out.mono HB2.out.size)
          obtain ⟨g0, g1, g2, g3⟩ := HF5.out w7 HB7.out
          obtain ⟨-, p0, p1, p2, p3, p4, p5, p6⟩ := HF.out w7 HB72.out
          clear hb7
          by_cases hlo : xlo < 0
          · have HFA : Hid (R = false) := HBADV.out (HVR2.out.trans (decide_eq_false fun h => by omega))
            clear hsl
            go_wp2
            go_ret
            rw [HFA.out]
            exact ⟨rfl, HB7w.out⟩
          · by_cases hhl : xhi < xlo
            · have HFA : Hid (R = false) := HBADV.out (HVR2.out.trans (decide_eq_false fun h => by omega))
              clear hsl
              go_wp2
              go_ret
              rw [HFA.out]
              exact ⟨rfl, HB7w.out⟩
            · by_cases hhn : xhi ≤ (ni : Int)
              · have HNX : Hid (∀ j (hj : j < vars.length), j < i + 1 → varR slots ni vars[j] = true) := HNEXT.out (HVR2.out.trans (decide_eq_true ⟨hsl, by omega, by omega, hhn⟩))
                have hhn2 : ¬ (ni : Int) < xhi := by omega
                clear hsl
                go_wp2
                exact ⟨⟨i + 1, by omega, by go_num, HNX, HB72.out⟩, by simp [intOf]; omega⟩
              · have HFA : Hid (R = false) := HBADV.out (HVR2.out.trans (decide_eq_false fun h => by omega))
                have hhn2 : (ni : Int) < xhi := by omega
                clear hsl
                go_wp2
                go_ret
                rw [HFA.out]
                exact ⟨rfl, HB7w.out⟩
        · rw [decide_eq_false hsl] at cu
          have HFA : Hid (R = false) := HBADV.out (HVR2.out.trans (decide_eq_false fun h => hsl h.1))
          clear hsl
          go_wp2_with fail
          refine cu.mono ?_
          clear cu g0 g1 g2 g3 p0 p1 p2 p3 p4 p5 p6
          rintro e w7 ⟨rfl, hb7⟩
          have HB7w : Hid (Below w.heap.size w w7) := HB2.out.trans ((HB62.out.trans (hb7.mono HB62.out.size)).mono HB2.out.size)
          clear hb7
          go_wp2
          go_ret
          rw [HFA.out]
          exact ⟨rfl, HB7w.out⟩
      · rw [decide_eq_false hbk] at cn HVN
        have HFA : Hid (R = false) := HBADV.out (HVN.out rfl)
        clear hbk HVR HVN
        go_wp2_with fail
        refine cn.mono ?_
        clear cn g0 g1 g2 g3
        rintro e w6 ⟨rfl, hb6⟩
        have HB6w : Hid (Below w.heap.size w w6) := HB5w.out.trans (hb6.mono HB5w.out.size)
        clear hb6
        go_wp2
        go_ret
        rw [HFA.out]
        exact ⟨rfl, HB6w.out⟩
    · obtain rfl : i = nv := by omega
      have hi2 : ¬ (i : Int) < i := by omega
      have HVALL : Hid (∀ j (hj : j < vars.length), varR slots ni vars[j] = true) := fun j hj => HVS.out j hj (by have := HNV.out; omega)
      clear HVS hlt
      go_wp2
      clear p0 p1 p2 p3 p4 p5 p6
      go_loopw [7] (fun vk wr => ∃ k : Nat, k ≤ ni ∧ vk = .int .i64 (k : Int) ∧ Hid (∀ j (hj : j < ins.length), j < k → insR ns nh nu ni slots result ins[j] = true) ∧ Below w2.heap.size w2 wr) (fun vk _ => ni - (intOf vk).toNat)
      case atStart => exact ⟨0, Nat.zero_le _, rfl, fun j _ h => by omega, HB.out⟩
      case round =>
        obtain ⟨k, hk, rfl, HIS, hbr⟩ := hrel
        have HBk : Hid (Below w2.heap.size w2 wr) := hbr
        have HBkw : Hid (Below w.heap.size w wr) := HB2.out.trans (hbr.mono HB2.out.size)
        obtain ⟨⟨c0, c1, c2, c3⟩, p0, p1, p2, p3, p4, p5, p6⟩ := HF.out wr hbr
        have hsz : w.heap.size + 1 < wr.heap.size := Nat.lt_of_lt_of_le HSZ.out hbr.size
        clear hbr
        by_cases hlt : k < ni
        · have hk2 : (k : Int) < ni := by omega
          have hkl : k < ins.length := by have := HNI.out; omega
          obtain ⟨b, o, rfl, -, hbl, hc⟩ := HATI.out k hkl
          obtain ⟨f0, f1⟩ := hc
          have hcc : ∀ q, wr.cell? ⟨b, q, none⟩ = w.cell? ⟨b, q, none⟩ := fun q => below_cell HBkw.out hbl
          rw [← hcc] at f0 f1
          have hbl2 : b < wr.heap.size := Nat.lt_of_lt_of_le hbl HBkw.out.size
          obtain ⟨x, hx⟩ : ∃ x, x = ins[k] := ⟨_, rfl⟩
          rw [← hx] at f0 f1
          have HX : Hid (x = ins[k]) := hx
          obtain ⟨D, hD⟩ : ∃ D, D = insR ns nh nu ni slots result x := ⟨_, rfl⟩
          have HD : Hid (D = insR ns nh nu ni slots result x) := hD
          obtain ⟨xo, xa⟩ := x
          simp only at f0 f1
          have hxa : -9223372036854775808 ≤ xa ∧ xa ≤ 9223372036854775807 := by
            have := HAI.out _ (List.getElem_mem hkl)
            rw [← HX.out] at this
            exact this
          have HC : Hid (∀ W, Below wr.heap.size wr W → Calls Tryz.prog 118 #[.agg #[.slice bs ns cs, .slice bh nh ch, .slice bu nu cu, .int .i64 m], .agg #[.string (strB name), .int .i64 params, .int .i64 slots, .int .i64 stack, .bool result, .slice (some ⟨b, o, none⟩) ni ci, .slice bv i cv], .agg #[.int .i64 xo, .int .i64 xa]] W fun e w' => e = .returned (.bool D) ∧ Below wr.heap.size wr w') := fun W hW => by
            rw [hD]
            exact (rfFits bs bh bu (some ⟨b, o, none⟩) bv ns cs nh ch nu cu ni ci i cv m ⟨name, params, slots, stack, result, ins, vars⟩ ⟨xo, xa⟩ hxa W).mono fun e w' ⟨he, hb⟩ => ⟨he, hW.trans (hb.mono hW.size)⟩
          have z0 := cls_cell (n := wr.heap.size) c0 (by simp only; omega)
          have z1 := cls_cell (n := wr.heap.size) c1 (by simp only; omega)
          have z2 := cls_cell (n := wr.heap.size) c2 (by simp only; omega)
          have z3 := cls_cell (n := wr.heap.size) c3 (by simp only; omega)
          have y0 := cls_cell (n := wr.heap.size) p0 (by simp only; omega)
          have y1 := cls_cell (n := wr.heap.size) p1 (by simp only; omega)
          have y2 := cls_cell (n := wr.heap.size) p2 (by simp only; omega)
          have y3 := cls_cell (n := wr.heap.size) p3 (by simp only; omega)
          have y4 := cls_cell (n := wr.heap.size) p4 (by simp only; omega)
          have y5 := cls_cell (n := wr.heap.size) p5 (by simp only; omega)
          have y6 := cls_cell (n := wr.heap.size) p6 (by simp only; omega)
          have v0 := cls_cell (n := wr.heap.size) f0 (by simp only; omega)
          have v1 := cls_cell (n := wr.heap.size) f1 (by simp only; omega)
          clear hcc hx hD c0 c1 c2 c3 p0 p1 p2 p3 p4 p6 f0 f1 hxa
          go_upto_region 12 with fail
          refine wp_region_cls (n := wr.heap.size) (w0 := wr) (Below.refl _ _) (by kernel_rfl) (by kernel_rfl) ?_
          iterate 7 (go_big_quiet_step (fail))
          go_big_quiet_step (exact cls_calls HC.out _)
          iterate 1 (go_big_quiet_step (fail))
          refine wpQuiet_nil ?_
          rintro _ ⟨cc, rfl⟩
          obtain ⟨w6, hb6⟩ := cc
          dsimp only
          have HB6 : Hid (Below w2.heap.size w2 w6) := HBk.out.trans (hb6.mono HBk.out.size)
          have HB6w : Hid (Below w.heap.size w w6) := HB2.out.trans (HB6.out.mono HB2.out.size)
          clear hb6 z0 z1 z2 z3 y0 y1 y2 y3 y4 y5 y6 v0 v1 p5
          cases D with
          | false =>
            have HFA : Hid (R = false) := by
              rw [HRE.out]
              obtain ⟨e1, e2, e3, e4, e5, e6⟩ := HU1.out
              exact unitR_ins2 e2 e4 e5 HNI.out hkl (by rw [← HX.out]; exact HD.out.symm)
            go_wp2
            go_ret
            rw [HFA.out]
            exact ⟨rfl, HB6w.out⟩
          | true =>
            have HNX : Hid (∀ j (hj : j < ins.length), j < k + 1 → insR ns nh nu ni slots result ins[j] = true) := fun j hj hji => by
              by_cases e : j = k
              · subst e; rw [← HX.out]; exact HD.out.symm
              · exact HIS.out j hj (by omega)
            go_wp2
            exact ⟨⟨k + 1, by omega, by go_num, HNX, HB6.out⟩, by simp [intOf]; omega⟩
        · obtain rfl : k = ni := by omega
          have hk2 : ¬ (k : Int) < k := by omega
          have HT : Hid (R = true) := by
            rw [HRE.out]
            exact unitR_yes2 HU1.out HNI.out HOK.out HVALL.out fun j hj => HIS.out j hj (by have := HNI.out; omega)
          clear HIS hlt
          go_wp2
          go_ret
          rw [HT.out]
          exact ⟨rfl, HBkw.out⟩
end Go.Proofs.YtechkkphbajmoaaGreatDoor
