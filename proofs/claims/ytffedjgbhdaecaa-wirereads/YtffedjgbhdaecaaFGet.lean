/- frame.Get. -/
import Derived.Test.YtffedjgbhdaecaaFBounds
import Derived.Deep.QuietTactic
import Derived.Laws.Cover3
import Derived.DeepKeys
namespace Go.Proofs.Ytffedjgbhdaecaa
open Go.RowKit

/-- What is in the frame at the front: its bytes, the place behind it, what went wrong. -/
def getL (l : List UInt8) : List UInt8 × Nat × Nat :=
  if (cntF l).2.2 ≠ 0 then ([], 0, (cntF l).2.2)
  else if l.length < (cntF l).2.1 + (cntF l).1.toNat + 4 then ([], 0, 3)
  else if (l.drop ((cntF l).2.1 + (cntF l).1.toNat)).take 4 = leB (sumB (l.take ((cntF l).2.1 + (cntF l).1.toNat))) then ((l.drop (cntF l).2.1).take (cntF l).1.toNat, (cntF l).2.1 + (cntF l).1.toNat + 4, 0)
  else ([], 0, 4)
/-- .. at a place. -/
def getAt (bs : List UInt8) (at0 : Nat) : List UInt8 × Nat × Nat :=
  if (getL (bs.drop at0)).2.2 ≠ 0 then ([], 0, (getL (bs.drop at0)).2.2) else ((getL (bs.drop at0)).1, at0 + (getL (bs.drop at0)).2.1, 0)
def getF (bs : List UInt8) (at0 : Int) : List UInt8 × Nat × Nat :=
  if at0 < 0 ∨ (bs.length : Int) < at0 then ([], 0, 2) else getAt bs at0.toNat

theorem getAt_e1 {bs l : List UInt8} {at0 : Nat} (hl : l = bs.drop at0) (h : (cntF l).2.2 ≠ 0) : getAt bs at0 = ([], 0, (cntF l).2.2) := by
  have h1 : getL l = ([], 0, (cntF l).2.2) := by unfold getL; rw [if_pos h]
  unfold getAt; rw [← hl, h1, if_pos h]
theorem getAt_e2 {bs l : List UInt8} {at0 : Nat} (hl : l = bs.drop at0) (h : (cntF l).2.2 = 0) (h2 : l.length < (cntF l).2.1 + (cntF l).1.toNat + 4) : getAt bs at0 = ([], 0, 3) := by
  have h1 : getL l = ([], 0, 3) := by unfold getL; rw [if_neg (by simp [h]), if_pos h2]
  unfold getAt; rw [← hl, h1, if_pos (by decide)]
theorem getAt_e3 {bs l : List UInt8} {at0 : Nat} (hl : l = bs.drop at0) (h : (cntF l).2.2 = 0) (h2 : ¬ l.length < (cntF l).2.1 + (cntF l).1.toNat + 4)
    (h3 : (l.drop ((cntF l).2.1 + (cntF l).1.toNat)).take 4 ≠ leB (sumB (l.take ((cntF l).2.1 + (cntF l).1.toNat)))) : getAt bs at0 = ([], 0, 4) := by
  have h1 : getL l = ([], 0, 4) := by unfold getL; rw [if_neg (by simp [h]), if_neg h2, if_neg h3]
  unfold getAt; rw [← hl, h1, if_pos (by decide)]
theorem getAt_ok {bs l : List UInt8} {at0 : Nat} (hl : l = bs.drop at0) (h : (cntF l).2.2 = 0) (h2 : ¬ l.length < (cntF l).2.1 + (cntF l).1.toNat + 4)
    (h3 : (l.drop ((cntF l).2.1 + (cntF l).1.toNat)).take 4 = leB (sumB (l.take ((cntF l).2.1 + (cntF l).1.toNat)))) :
    getAt bs at0 = ((l.drop (cntF l).2.1).take (cntF l).1.toNat, at0 + ((cntF l).2.1 + (cntF l).1.toNat + 4), 0) := by
  have h1 : getL l = ((l.drop (cntF l).2.1).take (cntF l).1.toNat, (cntF l).2.1 + (cntF l).1.toNat + 4, 0) := by unfold getL; rw [if_neg (by simp [h]), if_neg h2, if_pos h3]
  unfold getAt; rw [← hl, h1, if_neg (by simp)]

set_option maxHeartbeats 1000000 in
set_option maxRecDepth 100000 in
theorem getArg_any (v : Value) (bs : List UInt8) (at0 : Int) (w : World) (hv : bytesAt w v bs) (ha : at0 < 0 ∨ (bs.length : Int) < at0) :
    Calls Try.prog 15 #[v, .int .i64 at0] w fun e w' => e = .returned (.tuple #[.slice none 0 0, .int .i64 0, .int .i64 2]) ∧ w = w' := by
  have hm := bytesAt_len hv
  unfold maxLen at hm
  obtain ⟨base, cap, rfl, hb, hlc, hcm, hc⟩ := hv
  clear hb hc
  rcases Int.lt_or_le at0 0 with h | h
  · clear ha
    go_enter Try.func15, Try.ntmps15
    go_wp2
    go_ret3
    exact ⟨rfl, rfl⟩
  · have h2 : (bs.length : Int) < at0 := by omega
    clear ha
    go_enter Try.func15, Try.ntmps15
    go_wp2
    go_ret3
    exact ⟨rfl, rfl⟩

set_option maxHeartbeats 1000000 in
set_option maxRecDepth 100000 in
/-- Two rows of four bytes, held against each other. -/
theorem eq4 (w : World) (x0 x1 x2 x3 y0 y1 y2 y3 : Int) :
    (Op.equalIn 10000 75 (.agg #[.int .u8 x0, .int .u8 x1, .int .u8 x2, .int .u8 x3]) (.agg #[.int .u8 y0, .int .u8 y1, .int .u8 y2, .int .u8 y3])).run Try.prog w = .ok (x0 == y0 && (x1 == y1 && (x2 == y2 && x3 == y3))) w := by
  obtain ⟨i0, hi, hz0, hz1, hz2⟩ := info_parts info_u8
  have hc : Try.prog.cellsOf 5 = 1 := by kernel_rfl
  have hk : Try.prog.plainKey 5 = true := by kernel_rfl
  have he : ∀ a b wx, (Op.equalIn 9999 5 (.int .u8 a) (.int .u8 b)).run Try.prog wx = .ok (a == b) wx := fun a b wx => run_equalIn_int wx 9998 5 .u8 .u8 a b Try.underlying5
  have p0 : ∀ a b c d wx, (part 5 #[.int .u8 a, .int .u8 b, .int .u8 c, .int .u8 d] (0 * 1)).run Try.prog wx = .ok (.int .u8 a) wx := fun a b c d wx => run_part_plain wx hk rfl
  have p1 : ∀ a b c d wx, (part 5 #[.int .u8 a, .int .u8 b, .int .u8 c, .int .u8 d] (1 * 1)).run Try.prog wx = .ok (.int .u8 b) wx := fun a b c d wx => run_part_plain wx hk rfl
  have p2 : ∀ a b c d wx, (part 5 #[.int .u8 a, .int .u8 b, .int .u8 c, .int .u8 d] (2 * 1)).run Try.prog wx = .ok (.int .u8 c) wx := fun a b c d wx => run_part_plain wx hk rfl
  have p3 : ∀ a b c d wx, (part 5 #[.int .u8 a, .int .u8 b, .int .u8 c, .int .u8 d] (3 * 1)).run Try.prog wx = .ok (.int .u8 d) wx := fun a b c d wx => run_part_plain wx hk rfl
  rw [show (10000 : Nat) = 9999 + 1 from rfl, run_equalIn_array w 9999 _ _ Try.underlying75 hi, hc, show List.range 4 = [0, 1, 2, 3] from rfl]
  simp only [Op.eqItems, Sem.run_bind, Sem.run_ite, p0, p1, p2, p3, he, Result.andThen_ok, Sem.run_pure]
  cases x0 == y0 <;> cases x1 == y1 <;> cases x2 == y2 <;> cases x3 == y3 <;> rfl

theorem quietStep {P : Program} {ops : Array Oper} {C : World → Prop} {Q : Act → Prop} {a : Act} {o : Oper} {rest : List Oper} (hw : Region.wanted o (yielded ops a.tmps) = true) (v : Value)
    (h1 : ∀ w, C w → o.quietAt P a C w v) (h2 : wpQuiet P ops C Q rest (a.put o.dst v)) : wpQuiet P ops C Q (o :: rest) a :=
  wpQuiet_step fun K hK => by rw [if_pos hw]; exact ⟨v, h1, hK _ h2⟩

theorem bytesAt_drop {w : World} {base : Option Addr} {cap : Nat} {bs : List UInt8} (h : bytesAt w (.slice base bs.length cap) bs) (n : Nat) (hn : n ≤ bs.length) : bytesAt w (.slice (subBase base cap n) (bs.length - n) (cap - n)) (bs.drop n) := by
  obtain ⟨-, hrow, -, -⟩ := bytesAt_row h
  obtain ⟨base', cap', hv, hb, h1, h2, hc⟩ := h
  cases hv
  refine ⟨subBase base cap n, cap - n, by rw [List.length_drop], fun e => ?_, by rw [List.length_drop]; omega, by omega, fun a ha j u hj => ?_⟩
  · have e2 : base = none := by
      unfold subBase at e
      split at e
      · exact e
      · simpa using e
    obtain ⟨rfl, rfl⟩ := hb e2
    simp
  · unfold Lib.byteCells at hj
    rw [List.getElem?_map, List.getElem?_drop, ← List.getElem?_map] at hj
    have hlt : n + j < bs.length := by
      rcases Nat.lt_or_ge (n + j) bs.length with h | h
      · exact h
      · rw [List.getElem?_eq_none (by rw [List.length_map]; exact h)] at hj; cases hj
    unfold subBase at ha
    rw [if_neg (by omega)] at ha
    cases base with
    | none => simp at ha
    | some a0 =>
      simp only [Option.map_some, Option.some.injEq] at ha
      have h0 := hc a0 rfl (n + j) u hj
      rcases hrow with rfl | ⟨b, o, hbo, -⟩
      · simp at hlt
      · cases hbo
        rw [← ha, add_plain, add_plain, Nat.add_assoc, ← add_plain]
        exact h0

set_option maxHeartbeats 2000000 in
set_option maxRecDepth 100000 in
theorem getIn_any (v : Value) (bs : List UInt8) (at0 : Nat) (w : World) (hv : bytesAt w v bs) (ha : at0 ≤ bs.length) :
    Calls Try.prog 15 #[v, .int .i64 at0] w fun e w' => ∃ x, e = .returned (.tuple #[x, .int .i64 (getAt bs at0).2.1, .int .i64 (getAt bs at0).2.2]) ∧
      w'.ownsRow w.heap.size 5 1 x (getAt bs at0).1.length (Lib.byteCells (getAt bs at0).1) ∧ Below w.heap.size w w' := by
  have hm := bytesAt_len hv
  unfold maxLen at hm
  have HV : Hid (bytesAt w v bs) := hv
  obtain ⟨base, cap, rfl, hb, hlc, hcm, hc⟩ := hv
  clear hb hc
  have hfrom := fun wx => run_from wx base bs.length cap at0 ha
  have HD : Hid (bytesAt w (.slice (subBase base cap at0) (bs.length - at0) (cap - at0)) (bs.drop at0)) := bytesAt_drop HV.out at0 ha
  obtain ⟨l, hl⟩ : ∃ l, l = bs.drop at0 := ⟨_, rfl⟩
  have hll : l.length = bs.length - at0 := by rw [hl, List.length_drop]
  have HLE : Hid (l = bs.drop at0) := hl
  rw [← hl] at HD
  rw [← hll] at HD hfrom
  obtain ⟨bb, hbb⟩ : ∃ bb, bb = subBase base cap at0 := ⟨_, rfl⟩
  obtain ⟨cc, hcc⟩ : ∃ cc, cc = cap - at0 := ⟨_, rfl⟩
  rw [← hbb, ← hcc] at HD hfrom
  have hlcc : l.length ≤ cc := by omega
  have hccm : cc ≤ 9223372036854775807 := by unfold maxLen at hcm; omega
  have hm2 : bs.length ≤ 9223372036854775807 := by omega
  have HLL : Hid (l.length = bs.length - at0) := hll
  have hl9 : l.length ≤ 9223372036854775807 := by omega
  clear hl hbb hcc hll hm hlc hcm
  go_enter Try.func15, Try.ntmps15
  go_wp2_with fail
  refine (bounds_any _ l w HD.out).mono ?_
  rintro e w1 ⟨rfl, hb1⟩
  obtain ⟨c1, c2⟩ := cntF_le l
  have c3 := cntF_at10 l
  have c4 := cntF_at l
  by_cases he : (cntF l).2.2 = 0
  · have HE : Hid ((cntF l).2.2 = 0) := he
    rw [he]
    obtain ⟨n, hn⟩ : ∃ n : Nat, (cntF l).1 = (n : Int) := ⟨(cntF l).1.toNat, by omega⟩
    obtain ⟨f, hf⟩ : ∃ f, f = (cntF l).2.1 := ⟨_, rfl⟩
    have HN : Hid ((cntF l).1 = (n : Int)) := hn
    have HF : Hid (f = (cntF l).2.1) := hf
    rw [hn] at c1 c2 ⊢
    rw [← hf] at c3 c4 ⊢
    clear hn hf he
    obtain ⟨to, hto⟩ : ∃ to, to = f + n := ⟨_, rfl⟩
    have hto1 : (f : Int) + (n : Int) = (to : Int) := by omega
    rw [hto1]
    have HTO : Hid (to = f + n) := hto
    have hto2 : to ≤ 1048586 := by omega
    have hft : f ≤ to := by omega
    clear hto hto1
    by_cases hsh : l.length < to + 4
    · have hG : getAt bs at0 = ([], 0, 3) := getAt_e2 HLE.out HE.out (by rw [HN.out, ← HF.out, Int.toNat_natCast, ← HTO.out]; exact hsh)
      go_wp2
      go_ret3
      exact ⟨_, by rw [hG]; rfl, by rw [hG]; exact World.ownsRow_nil _ _ _ _, hb1⟩
    · obtain ⟨-, hrow, -, -⟩ := bytesAt_row (bytesAt_below HD.out hb1 (Nat.le_refl _))
      have hpos : l ≠ [] := fun h => by rw [h] at hsh; simp at hsh
      rcases hrow with h0 | ⟨b, o, rfl, hcell⟩
      · exact absurd h0 hpos
      have hsub : ∀ wx, (Instr.slice 22 (.slice (some ⟨b, o, none⟩) l.length cc) (some (.int .i64 to)) (some (.int .i64 ((to : Int) + 4))) none).run Try.prog wx = .ok (.slice (some ⟨b, o + to, none⟩) 4 (cc - to)) wx := fun wx => by
        have h := run_sub wx (some ⟨b, o, none⟩) l.length cc to 4 (by omega)
        have e : subBase (some ⟨b, o, none⟩) cc to = some ⟨b, o + to, none⟩ := by
          unfold subBase; rw [if_neg (by omega)]; simp [add_plain]
        rw [e] at h
        exact h
      have hupto := fun wx => run_to wx (some ⟨b, o, none⟩) l.length cc to (by omega)
      have hblk : b < w1.heap.size := World.block_lt_of_cell? w1 _ (hcell 0 (by omega))
      obtain ⟨x0, hx0⟩ : ∃ x, x = (l[to]'(by omega)).toNat := ⟨_, rfl⟩
      obtain ⟨x1, hx1⟩ : ∃ x, x = (l[to + 1]'(by omega)).toNat := ⟨_, rfl⟩
      obtain ⟨x2, hx2⟩ : ∃ x, x = (l[to + 2]'(by omega)).toNat := ⟨_, rfl⟩
      obtain ⟨x3, hx3⟩ : ∃ x, x = (l[to + 3]'(by omega)).toNat := ⟨_, rfl⟩
      have hc4 : ∀ i (hi : i < 4) wx, Below w1.heap.size w1 wx → wx.cell? ⟨b, o + to + i, none⟩ = some (.int .u8 (l[to + i]'(by omega)).toNat) := fun i hi wx hwx => by
        rw [hwx.cell (p := ⟨b, o + to + i, none⟩) hblk, Nat.add_assoc]
        exact hcell (to + i) (by omega)
      have hc0 : ∀ wx, Below w1.heap.size w1 wx → wx.cell? ⟨b, o + to, none⟩ = some (.int .u8 x0) := fun wx h => by rw [hx0]; exact hc4 0 (by decide) wx h
      have hc1 : ∀ wx, Below w1.heap.size w1 wx → wx.cell? ⟨b, o + to + 1, none⟩ = some (.int .u8 x1) := fun wx h => by rw [hx1]; exact hc4 1 (by decide) wx h
      have hc2 : ∀ wx, Below w1.heap.size w1 wx → wx.cell? ⟨b, o + to + 2, none⟩ = some (.int .u8 x2) := fun wx h => by rw [hx2]; exact hc4 2 (by decide) wx h
      have hc3 : ∀ wx, Below w1.heap.size w1 wx → wx.cell? ⟨b, o + to + 3, none⟩ = some (.int .u8 x3) := fun wx h => by rw [hx3]; exact hc4 3 (by decide) wx h
      clear hc4
      have hrow2 : ∀ wx, Below w1.heap.size w1 wx → rowAt wx (some ⟨b, o, none⟩) (l.take to) := fun wx hwx => rowAt_below (rowAt_take to (.inr ⟨b, o, rfl, hcell⟩)) hwx (Nat.le_refl _)
      have htl : (l.take to).length = to := by rw [List.length_take]; omega
      obtain ⟨sm, hsm⟩ : ∃ sm, sm = sumB (l.take to) := ⟨_, rfl⟩
      have hsum : ∀ wx, Below w1.heap.size w1 wx → Calls Try.prog 24 #[.slice (some ⟨b, o, none⟩) to cc] wx fun e w'' => e = .returned (.int .u32 sm) ∧ Below w1.heap.size w1 w'' := fun wx h => by
        have hh := sum_any (some ⟨b, o, none⟩) (l.take to) cc wx (hrow2 wx h) (by rw [htl]; unfold maxLen; omega)
        rw [htl, ← hsm] at hh
        exact hh.mono (fun e w' ⟨he, hw⟩ => ⟨he, hw ▸ h⟩)
      have hslt : sm < 4294967296 := by rw [hsm]; exact moreB_lt _ _
      obtain ⟨t0, t1, t2, t3, ht⟩ := leB_four sm
      have HS : Hid (∀ wx, Below w1.heap.size w1 wx → Calls Try.prog 38 #[.int .u32 sm] wx fun e w'' => e = .returned (.agg #[.int .u8 t0.toNat, .int .u8 t1.toNat, .int .u8 t2.toNat, .int .u8 t3.toNat]) ∧ Below w1.heap.size w1 w'') := fun wx h => by
        have hh := sumBytes_any _ hslt wx
        rw [ht] at hh
        exact hh.mono (fun e w' h2 => ⟨h2.1, h.trans (h2.2.mono h.size)⟩)
      have HSM : Hid (sm = sumB (l.take to)) := hsm
      have HT : Hid (leB sm = [t0, t1, t2, t3]) := ht
      clear hsm ht
      go_wp2_with fail
      obtain ⟨q, hq⟩ : ∃ q : Bool, q = ((x0 : Int) == t0.toNat && ((x1 : Int) == t1.toNat && ((x2 : Int) == t2.toNat && (x3 : Int) == t3.toNat))) := ⟨_, rfl⟩
      have HQ : Hid (q = ((x0 : Int) == t0.toNat && ((x1 : Int) == t1.toNat && ((x2 : Int) == t2.toNat && (x3 : Int) == t3.toNat)))) := hq
      have htk : (l.drop to).take 4 = [l[to]'(by omega), l[to + 1]'(by omega), l[to + 2]'(by omega), l[to + 3]'(by omega)] := by
        rw [drop_at (show to < l.length by omega), drop_at (show to + 1 < l.length by omega), drop_at (show to + 1 + 1 < l.length by omega), drop_at (show to + 1 + 1 + 1 < l.length by omega)]
        rfl
      have hqq : q = true ↔ (l.drop to).take 4 = leB (sumB (l.take to)) := by
        rw [hq, htk, ← HSM.out, HT.out, hx0, hx1, hx2, hx3]
        simp only [Bool.and_eq_true, beq_iff_eq, Int.natCast_inj, List.cons.injEq, and_true, ← UInt8.toNat_inj]
      have HQQ : Hid (q = true ↔ (l.drop to).take 4 = leB (sumB (l.take to))) := hqq
      clear hq htk hqq hx0 hx1 hx2 hx3
      have hsub2 : ∀ wx, (Instr.slice 22 (.slice (some ⟨b, o, none⟩) l.length cc) (some (.int .i64 f)) (some (.int .i64 to)) none).run Try.prog wx = .ok (.slice (subBase (some ⟨b, o, none⟩) cc f) n (cc - f)) wx := fun wx => by
        have h := run_sub wx (some ⟨b, o, none⟩) l.length cc f n (by have := HTO.out; omega)
        have e : ((f : Int) + (n : Int)) = (to : Int) := by have := HTO.out; omega
        rw [e] at h
        exact h
      obtain ⟨fb, hfb⟩ : ∃ fb, fb = subBase (some ⟨b, o, none⟩) cc f := ⟨_, rfl⟩
      obtain ⟨fc, hfc⟩ : ∃ fc, fc = cc - f := ⟨_, rfl⟩
      have hby : ∀ wx, Below w1.heap.size w1 wx → bytesAt wx (.slice fb n fc) ((l.drop f).take n) := fun wx h => by
        have hd := bytesAt_drop (bytesAt_below (bytesAt_below HD.out hb1 (Nat.le_refl _)) h (Nat.le_refl _)) f (by omega)
        rw [← hfb, ← hfc] at hd
        have e : l.length - f = (l.drop f).length := by rw [List.length_drop]
        rw [e] at hd
        exact bytesAt_take hd n (by rw [List.length_drop]; have := HTO.out; omega)
      have HBY : Hid (∀ wx, Below w1.heap.size w1 wx → bytesAt wx (.slice fb n fc) ((l.drop f).take n)) := hby
      rw [← hfb, ← hfc] at hsub2
      have HSUB2 : Hid (∀ wx, (Instr.slice 22 (.slice (some ⟨b, o, none⟩) l.length cc) (some (.int .i64 f)) (some (.int .i64 to)) none).run Try.prog wx = .ok (.slice fb n fc) wx) := hsub2
      clear hfb hfc hby hsub2
      refine wp_region_quiet (C := fun wx => Below w1.heap.size w1 wx) (by kernel_rfl) (by kernel_rfl) (Below.refl _ _).drew ?_
      refine quietStep rfl ?v1 (fun wx hC => ?h1) ?r1
      case h1 => go_simp; exact rfl
      refine quietStep rfl ?v2 (fun wx hC => ?h2) ?r2
      case h2 => go_simp; exact rfl
      refine quietStep rfl ?v3 (fun wx hC => ?h3) ?r3
      case h3 => go_simp; exact rfl
      refine quietStep rfl ?v4 (fun wx hC => ?h4) ?r4
      case h4 => go_simp; exact rfl
      refine quietStep rfl (.pointer (some ⟨b, o + to, none⟩)) (fun wx hC => ?h5) ?r5
      case h5 => go_simp; rw [run_arrayAt (h := Try.underlying75) (hn := Nat.le_refl 4)]; exact ⟨rfl, rfl⟩
      refine quietStep rfl ?v6 (fun wx hC => ?h6) ?r6
      case h6 => have k0 := hc0 wx hC; have k1 := hc1 wx hC; have k2 := hc2 wx hC; have k3 := hc3 wx hC; go_simp; exact rfl
      refine quietStep rfl ?v7 (fun wx hC => ?h7) ?r7
      case h7 => go_simp; exact rfl
      refine quietStep rfl ?v8 (fun wx hC => ?h8) ?r8
      case h8 => go_simp; exact rfl
      refine quietStep rfl ?v9 (fun wx hC => ?h9) ?r9
      case h9 => go_simp; exact rfl
      refine quietStep rfl (.int .u32 sm) (fun wx hC => ?h10) ?r10
      case h10 => go_simp
      refine quietStep rfl (.agg #[.int .u8 t0.toNat, .int .u8 t1.toNat, .int .u8 t2.toNat, .int .u8 t3.toNat]) (fun wx hC => ?h11) ?r11
      case h11 => go_simp; exact HS.out wx hC
      refine quietStep rfl (.bool (!q)) (fun wx hC => ?h12) ?r12
      case h12 => go_simp; rw [eq4, ← HQ.out]; exact ⟨rfl, rfl⟩
      refine wpQuiet_nil ?_
      intro w2 hb2
      clear hc0 hc1 hc2 hc3 hrow2 hsum hcell hsub hupto
      go_simp
      have HB2 : Hid (Below w1.heap.size w1 w2) := hb2
      clear hb2
      have hfn : (cntF l).2.1 + (cntF l).1.toNat = to := by rw [HN.out, ← HF.out, Int.toNat_natCast, ← HTO.out]
      have HFN : Hid ((cntF l).2.1 + (cntF l).1.toNat = to) := hfn
      have HSH : Hid (¬ l.length < to + 4) := hsh
      have hsh2 : to + 4 ≤ l.length := by omega
      clear hfn
      have HB1 : Hid (Below w.heap.size w w1) := hb1
      have hszb := hb1.size
      cases q with
      | false =>
        have hG : getAt bs at0 = ([], 0, 4) := getAt_e3 HLE.out HE.out (by rw [HFN.out]; exact HSH.out) (by rw [HFN.out]; intro h; exact absurd (HQQ.out.2 h) (by decide))
        have HG : Hid (getAt bs at0 = ([], 0, 4)) := hG
        clear hG
        go_wp2
        go_ret3
        exact ⟨_, by rw [HG.out]; rfl, by rw [HG.out]; exact World.ownsRow_nil _ _ _ _, HB1.out.trans (HB2.out.mono hszb)⟩
      | true =>
        have hG : getAt bs at0 = ((l.drop f).take n, at0 + (to + 4), 0) := by
          have h := getAt_ok HLE.out HE.out (by rw [HFN.out]; exact HSH.out) (by rw [HFN.out]; exact HQQ.out.1 rfl)
          rw [HFN.out, HN.out, ← HF.out, Int.toNat_natCast] at h
          exact h
        have HG : Hid (getAt bs at0 = ((l.drop f).take n, at0 + (to + 4), 0)) := hG
        clear hG
        have hnl : ((l.drop f).take n).length = n := by rw [List.length_take, List.length_drop]; have := HTO.out; omega
        have HCL := clone_any _ _ w2 (HBY.out w2 HB2.out) (by rw [hnl]; omega)
        have HCL' : Hid (Calls Try.prog 25 #[.slice fb n fc] w2 fun e w' => ∃ v', e = .returned v' ∧ w'.ownsRow w2.heap.size 5 1 v' ((l.drop f).take n).length (Lib.byteCells ((l.drop f).take n)) ∧ Below w2.heap.size w2 w') := HCL
        clear HCL
        have hsub2 := HSUB2.out
        go_wp2_with fail
        refine HCL'.out.mono ?_
        rintro e w3 ⟨x, rfl, hown, hb3⟩
        have hsz2 := HB2.out.size
        have HF3 : Hid (w3.ownsRow w.heap.size 5 1 x ((l.drop f).take n).length (Lib.byteCells ((l.drop f).take n)) ∧ Below w.heap.size w w3) :=
          ⟨own_base hown (by omega), (HB1.out.trans (HB2.out.mono hszb)).trans (hb3.mono (by omega))⟩
        clear hown hb3 hb1
        have hat : at0 + (to + 4) ≤ 9223372036854775807 := by have := HLL.out; omega
        go_wp2
        go_ret3
        refine ⟨x, ?_, by rw [HG.out]; exact HF3.out.1, HF3.out.2⟩
        rw [HG.out]
        rfl
  · have HE : Hid ((cntF l).2.2 ≠ 0) := he
    have hG : getAt bs at0 = ([], 0, (cntF l).2.2) := getAt_e1 HLE.out HE.out
    obtain ⟨er, her⟩ : ∃ er, er = (cntF l).2.2 := ⟨_, rfl⟩
    rw [← her] at he hG ⊢
    have HG : Hid (getAt bs at0 = ([], 0, er)) := hG
    have t0 : ((er : Int) != 0) = true := by rw [bne_iff_ne]; omega
    clear her HE hG he
    go_wp2
    go_ret3
    exact ⟨_, by rw [HG.out]; rfl, by rw [HG.out]; exact World.ownsRow_nil _ _ _ _, hb1⟩

theorem getF_in {bs : List UInt8} {at0 : Nat} (h : at0 ≤ bs.length) : getF bs at0 = getAt bs at0 := by
  unfold getF; rw [if_neg (by omega), Int.toNat_natCast]

set_option maxRecDepth 100000 in
theorem get_any (v : Value) (bs : List UInt8) (at0 : Int) (w : World) (hv : bytesAt w v bs) :
    Calls Try.prog 15 #[v, .int .i64 at0] w fun e w' => ∃ x, e = .returned (.tuple #[x, .int .i64 (getF bs at0).2.1, .int .i64 (getF bs at0).2.2]) ∧
      w'.ownsRow w.heap.size 5 1 x (getF bs at0).1.length (Lib.byteCells (getF bs at0).1) ∧ Below w.heap.size w w' := by
  by_cases h : at0 < 0 ∨ (bs.length : Int) < at0
  · have hG : getF bs at0 = ([], 0, 2) := by unfold getF; rw [if_pos h]
    rw [hG]
    exact (getArg_any v bs at0 w hv h).mono (fun e w' ⟨he, hw⟩ => ⟨_, he, World.ownsRow_nil _ _ _ _, hw ▸ Below.refl _ _⟩)
  · obtain ⟨k, rfl⟩ : ∃ k : Nat, at0 = (k : Int) := ⟨at0.toNat, by omega⟩
    have hk : k ≤ bs.length := by omega
    rw [getF_in hk]
    exact getIn_any v bs k w hv hk
end Go.Proofs.Ytffedjgbhdaecaa
