/- code: may an instruction stand in a unit, but for its height. -/
import Derived.Test.YtechkkphbajmoaaGreatDoorCBox
namespace Go.Proofs.YtechkkphbajmoaaGreatDoor
open Go.RowKit Go.Shelf

/-- The ops: name, operand, how many are taken, how many are put. -/
def opsL : List (List UInt8 × Int × Int × Int) := [([109, 97, 114, 107], 1, 0, 0), ([105, 110, 116], 1, 0, 1), ([98, 111, 111, 108], 2, 0, 1), ([115, 116, 114], 3, 0, 1), ([108, 111, 97, 100], 4, 0, 1), ([115, 116, 111, 114, 101], 4, 1, 0), ([112, 111, 112], 0, 1, 0), ([97, 100, 100], 0, 2, 1), ([115, 117, 98], 0, 2, 1), ([109, 117, 108], 0, 2, 1), ([100, 105, 118], 0, 2, 1), ([114, 101, 109], 0, 2, 1), ([110, 101, 103], 0, 1, 1), ([110, 111, 116], 0, 1, 1), ([101, 113], 0, 2, 1), ([110, 101], 0, 2, 1), ([108, 116], 0, 2, 1), ([108, 101], 0, 2, 1), ([103, 116], 0, 2, 1), ([103, 101], 0, 2, 1), ([106, 117, 109, 112], 5, 0, 0), ([117, 110, 108, 101, 115, 115], 5, 1, 0), ([99, 97, 108, 108], 6, 0, 0), ([114, 101, 116, 117, 114, 110], 8, 0, 0), ([97, 114, 114, 97, 121], 9, 0, 1), ([110, 101, 119], 7, 0, 1), ([105, 110, 100, 101, 120], 0, 2, 1), ([115, 101, 116, 105, 110, 100, 101, 120], 0, 3, 0), ([102, 105, 101, 108, 100], 3, 1, 1), ([115, 101, 116, 102, 105, 101, 108, 100], 3, 2, 0), ([108, 101, 110], 0, 1, 1), ([115, 104, 111, 119], 0, 1, 1), ([102, 105, 108, 108], 0, 2, 1), ([105, 110, 112, 117, 116], 0, 0, 1), ([112, 114, 105, 110, 116], 9, 0, 0)]
/-- The table of ops is laid. -/
def OpT (w : World) : Prop := ∀ j (h : j < opsL.length), w.cell? ⟨0, j * 4, none⟩ = some (.string (strB opsL[j].1)) ∧ w.cell? ⟨0, j * 4 + 1, none⟩ = some (.int .i64 opsL[j].2.1) ∧ w.cell? ⟨0, j * 4 + 2, none⟩ = some (.int .i64 opsL[j].2.2.1) ∧ w.cell? ⟨0, j * 4 + 3, none⟩ = some (.int .i64 opsL[j].2.2.2)
theorem OpT.lt {w : World} (h : OpT w) : 0 < w.heap.size := by
  have h1 := (h 0 (by decide)).1
  by_cases hlt : 0 < w.heap.size
  · exact hlt
  · have : w.heap[0]? = none := Array.getElem?_eq_none (by omega)
    simp [World.cell?, this] at h1
theorem OpT.below {w w' : World} {B : Nat} (h : OpT w) (hb : Below B w w') (hB : w.heap.size ≤ B) : OpT w' := fun j hj => by
  have e := fun q => below_cell (g := 0) (j := q) (hb.mono hB) h.lt
  obtain ⟨a, b, c, d⟩ := h j hj
  exact ⟨(e _).trans a, (e _).trans b, (e _).trans c, (e _).trans d⟩

abbrev inV (x : In7) : Value := .agg #[.int .i64 x.op, .int .i64 x.a]
/-- May an instruction stand there? -/
def insR (ns nh nu ni : Nat) (slots : Int) (res : Bool) (x : In7) : Bool :=
  match opsL[x.op.toNat]? with
  | some r => decide (0 ≤ x.op) && decide ((bndR ns nh nu ni slots res r.2.1).1 ≤ x.a ∧ x.a ≤ (bndR ns nh nu ni slots res r.2.1).2)
  | none => false

set_option maxRecDepth 100000 in
set_option maxHeartbeats 4000000 in
theorem cRightIns_any (bs bh bu bi bv : Option Addr) (ns cs nh ch nu cu ni ci nv cv : Nat) (m : Int) (u : Un) (x : In7) (h1 : ns ≤ 1048576) (h2 : nh ≤ 1048576) (h3 : nu ≤ 1048576) (h4 : ni ≤ 1048576) (hs : 0 ≤ u.slots ∧ u.slots ≤ 32) (w : World) (ht : OpT w) :
    Calls Tryz.prog 115 #[cdV (.slice bs ns cs) (.slice bh nh ch) (.slice bu nu cu) m, unV u (.slice bi ni ci) (.slice bv nv cv), inV x] w fun e w' => e = .returned (.bool (insR ns nh nu ni u.slots u.result x)) ∧ Below w.heap.size w w' := by
  obtain ⟨name, params, slots, stack, result, ins, vars⟩ := u
  obtain ⟨op, a⟩ := x
  simp only at hs ⊢
  obtain ⟨w3, hw3, hb3, HZ3, hbc, hbu, hbi⟩ := box3 w (.cells #[.slice bs ns cs, .slice bh nh ch, .slice bu nu cu, .int .i64 m] 26) (.cells #[.string (strB name), .int .i64 params, .int .i64 slots, .int .i64 stack, .bool result, .slice bi ni ci, .slice bv nv cv] 58) (.cells #[.int .i64 op, .int .i64 a] 62)
  have HW3 : Hid (w3 = ((w.alloc (.cells #[.slice bs ns cs, .slice bh nh ch, .slice bu nu cu, .int .i64 m] 26)).alloc (.cells #[.string (strB name), .int .i64 params, .int .i64 slots, .int .i64 stack, .bool result, .slice bi ni ci, .slice bv nv cv] 58)).alloc (.cells #[.int .i64 op, .int .i64 a] 62)) := hw3
  have HB3 : Hid (Below w.heap.size w w3) := hb3
  have HT3 : Hid (OpT w3) := ht.below hb3 (Nat.le_refl _)
  have HF : Hid (∀ W, Below w3.heap.size w3 W → (W.cell? ⟨w.heap.size, 0, none⟩ = some (.slice bs ns cs) ∧ W.cell? ⟨w.heap.size, 1, none⟩ = some (.slice bh nh ch) ∧ W.cell? ⟨w.heap.size, 2, none⟩ = some (.slice bu nu cu) ∧ W.cell? ⟨w.heap.size, 3, none⟩ = some (.int .i64 m)) ∧
      (W.cell? ⟨w.heap.size + 1, 0, none⟩ = some (.string (strB name)) ∧ W.cell? ⟨w.heap.size + 1, 1, none⟩ = some (.int .i64 params) ∧ W.cell? ⟨w.heap.size + 1, 2, none⟩ = some (.int .i64 slots) ∧ W.cell? ⟨w.heap.size + 1, 3, none⟩ = some (.int .i64 stack) ∧ W.cell? ⟨w.heap.size + 1, 4, none⟩ = some (.bool result) ∧ W.cell? ⟨w.heap.size + 1, 5, none⟩ = some (.slice bi ni ci) ∧ W.cell? ⟨w.heap.size + 1, 6, none⟩ = some (.slice bv nv cv)) ∧
      W.cell? ⟨w.heap.size + 2, 0, none⟩ = some (.int .i64 op) ∧ W.cell? ⟨w.heap.size + 2, 1, none⟩ = some (.int .i64 a)) := fun W hW => by
    have hz := HZ3.out
    exact ⟨bcells4 ((hW.block w.heap.size (by omega)).trans hbc), cells7 ((hW.block (w.heap.size + 1) (by omega)).trans hbu), bcells2 ((hW.block (w.heap.size + 2) (by omega)).trans hbi)⟩
  have HLT : Hid (w.heap.size + 2 < w3.heap.size) := by have hz := HZ3.out; show _ < _; omega
  have co := cIsOp_any op w3
  clear hw3 hb3 hbi hbu hbc ht HZ3
  by_cases ho : 0 ≤ op ∧ op < 35
  · rw [decide_eq_true ho] at co
    obtain ⟨n, rfl⟩ : ∃ n : Nat, op = n := ⟨op.toNat, by omega⟩
    have hn : n < opsL.length := by show n < 35; omega
    obtain ⟨r, hr⟩ : ∃ r, r = (opsL[n]'hn).2.1 := ⟨_, rfl⟩
    obtain ⟨lo, hlo⟩ : ∃ lo, lo = (bndR ns nh nu ni slots result r).1 := ⟨_, rfl⟩
    obtain ⟨hi, hhi⟩ : ∃ hi, hi = (bndR ns nh nu ni slots result r).2 := ⟨_, rfl⟩
    obtain ⟨d, hd⟩ : ∃ d, d = insR ns nh nu ni slots result ⟨n, a⟩ := ⟨_, rfl⟩
    have HD : Hid (d = decide (lo ≤ a ∧ a ≤ hi)) := by
      show _ = _
      rw [hd, hlo, hhi, hr]
      unfold insR
      simp only [Int.toNat_natCast, List.getElem?_eq_getElem hn, Int.natCast_nonneg, decide_true, Bool.true_and]
    rw [← hd]
    have HQ : Hid (∀ W, OpT W → W.cell? ⟨0, n * 4 + 1, none⟩ = some (.int .i64 r)) := fun W hW => by
      rw [hr]; exact (hW n hn).2.1
    have HCB : Hid (∀ W, Calls Tryz.prog 144 #[.agg #[.slice bs ns cs, .slice bh nh ch, .slice bu nu cu, .int .i64 m], .agg #[.string (strB name), .int .i64 params, .int .i64 slots, .int .i64 stack, .bool result, .slice bi ni ci, .slice bv nv cv], .int .i64 r] W fun e w' => e = .returned (.tuple #[.int .i64 lo, .int .i64 hi]) ∧ Below W.heap.size W w') := fun W => by
      rw [hlo, hhi]
      exact (cbounds_any bs bh bu bi bv ns cs nh ch nu cu ni ci nv cv m ⟨name, params, slots, stack, result, ins, vars⟩ r h1 h2 h3 h4 hs W)
    have hn35 : (n : Int) < 35 := by have : n < 35 := hn
                                     omega
    have HN : Hid (n < 35) := hn
    have CIN : Hid (∀ W, Calls Tryz.prog 23 #[.int .i64 a, .int .i64 lo, .int .i64 hi] W fun e w' => e = .returned (.bool d) ∧ Below W.heap.size W w') := fun W => by
      rw [HD.out]; exact cIsIn_any a lo hi W
    clear hlo hhi hd hr hn ho h1 h2 h3 h4 hs HD
    go_enter Tryz.func115, Tryz.ntmps115
    go_wp2_with fail
    rw [← HW3.out]
    refine co.mono ?_
    clear co
    rintro e w4 ⟨rfl, hb4⟩
    have HB4 : Hid (Below w3.heap.size w3 w4) := hb4
    have hlt4 : w.heap.size + 2 < w4.heap.size := Nat.lt_of_lt_of_le HLT.out hb4.size
    have q1 := HQ.out _ (HT3.out.below hb4 (Nat.le_refl _))
    have hgl := (HT3.out.below hb4 (Nat.le_refl _)).lt
    obtain ⟨⟨c0, c1, c2, c3⟩, ⟨p0, p1, p2, p3, p4, p5, p6⟩, i0, i1⟩ := HF.out w4 hb4
    have y0 := cls_cell (n := w4.heap.size) p0 (by simp only; omega)
    have y1 := cls_cell (n := w4.heap.size) p1 (by simp only; omega)
    have y2 := cls_cell (n := w4.heap.size) p2 (by simp only; omega)
    have y3 := cls_cell (n := w4.heap.size) p3 (by simp only; omega)
    have y4 := cls_cell (n := w4.heap.size) p4 (by simp only; omega)
    have y5 := cls_cell (n := w4.heap.size) p5 (by simp only; omega)
    have y6 := cls_cell (n := w4.heap.size) p6 (by simp only; omega)
    have z0 := cls_cell (n := w4.heap.size) c0 (by simp only; omega)
    have z1 := cls_cell (n := w4.heap.size) c1 (by simp only; omega)
    have z2 := cls_cell (n := w4.heap.size) c2 (by simp only; omega)
    have z3 := cls_cell (n := w4.heap.size) c3 (by simp only; omega)
    have v0 := cls_cell (n := w4.heap.size) i0 (by simp only; omega)
    have v1 := cls_cell (n := w4.heap.size) q1 (by simp only; omega)
    have HC4 : Hid (∀ W, Below w4.heap.size w4 W → Calls Tryz.prog 144 #[.agg #[.slice bs ns cs, .slice bh nh ch, .slice bu nu cu, .int .i64 m], .agg #[.string (strB name), .int .i64 params, .int .i64 slots, .int .i64 stack, .bool result, .slice bi ni ci, .slice bv nv cv], .int .i64 r] W fun e w' => e = .returned (.tuple #[.int .i64 lo, .int .i64 hi]) ∧ Below w4.heap.size w4 w') := fun W hW => (HCB.out W).mono fun e w' ⟨he, hb⟩ => ⟨he, hW.trans (hb.mono hW.size)⟩
    clear hb4 p0 p1 p2 p3 p4 p5 p6 c0 c1 c2 c3 i0 i1 q1 hlt4 hgl
    go_upto_region 3 with fail
    refine wp_region_cls (n := w4.heap.size) (w0 := w4) (Below.refl _ _) (by kernel_rfl) (by kernel_rfl) ?_
    iterate 7 (go_big_quiet_step (fail))
    go_big_quiet_step (exact cls_calls HC4.out _)
    iterate 5 (go_big_quiet_step (fail))
    refine wpQuiet_nil ?_
    rintro _ ⟨c, rfl⟩
    obtain ⟨w5, hb5⟩ := c
    dsimp only
    have HB5 : Hid (Below w3.heap.size w3 w5) := HB4.out.trans (hb5.mono HB4.out.size)
    obtain ⟨-, -, j0, j1⟩ := HF.out w5 HB5.out
    have c5 := CIN.out w5
    clear hb5 y0 y1 y2 y3 y4 y5 y6 z0 z1 z2 z3 v0 v1
    go_wp2_with fail
    refine c5.mono ?_
    clear c5
    rintro e w6 ⟨rfl, hb6⟩
    have HB6 : Hid (Below w.heap.size w w6) := HB3.out.trans ((HB5.out.trans (hb6.mono HB5.out.size)).mono HB3.out.size)
    clear hb6
    go_wp2
    go_ret
    exact ⟨rfl, HB6.out⟩
  · rw [decide_eq_false ho] at co
    have HR : Hid (insR ns nh nu ni slots result ⟨op, a⟩ = false) := by
      show _ = _
      unfold insR
      simp only
      split
      · rename_i r hr
        have h9 := (List.getElem?_eq_some_iff.1 hr).1
        have h8 : op.toNat < 35 := h9
        rw [decide_eq_false (show ¬ 0 ≤ op by omega)]
        rfl
      · rfl
    obtain ⟨d, hd⟩ : ∃ d, d = insR ns nh nu ni slots result ⟨op, a⟩ := ⟨_, rfl⟩
    rw [← hd] at HR ⊢
    clear hd ho h1 h2 h3 h4 hs
    go_enter Tryz.func115, Tryz.ntmps115
    go_wp2_with fail
    rw [← HW3.out]
    refine co.mono ?_
    clear co
    rintro e w4 ⟨rfl, hb4⟩
    have HB4 : Hid (Below w.heap.size w w4) := HB3.out.trans (hb4.mono HB3.out.size)
    clear hb4
    go_wp2
    go_ret
    rw [HR.out]
    exact ⟨rfl, HB4.out⟩
end Go.Proofs.YtechkkphbajmoaaGreatDoor
