import Derived.Test.YtechkkphbajmoaaGreatDoorMC
import Derived.BigQuiet
/- code: the document's own names of ops; from 0 to below another number; 1 or 0. -/
namespace Go.Proofs.YtechkkphbajmoaaGreatDoor
open Go.RowKit Go.Shelf

/-- The name of an op. -/
def nmR (o : Int) : List UInt8 := if 0 ≤ o then (match opsL[o.toNat]? with
  | some r => r.1
  | none => []) else []
theorem nmR_at {n : Nat} (hn : n < opsL.length) : nmR (n : Int) = (opsL[n]'hn).1 := by
  unfold nmR
  rw [if_pos (by omega), Int.toNat_natCast, List.getElem?_eq_getElem hn]
theorem nmR_no {o : Int} (h : ¬ (0 ≤ o ∧ o < 35)) : nmR o = [] := by
  unfold nmR
  by_cases h0 : 0 ≤ o
  · rw [if_pos h0, List.getElem?_eq_none (show opsL.length ≤ o.toNat by show 35 ≤ o.toNat; omega)]
  · rw [if_neg h0]

set_option maxRecDepth 100000 in
set_option maxHeartbeats 4000000 in
theorem rfNm (o : Int) (w : World) :
    Calls Tryz.prog 41 #[.int .i64 o] w fun e w' => e = .returned (.string (strB (nmR o))) ∧ Below w.heap.size w w' := by
  obtain ⟨w1, hw1, hb1, HZ1, h1⟩ := box1 w (.cells #[.string ⟨#[109, 97, 114, 107]⟩, .string ⟨#[105, 110, 116]⟩, .string ⟨#[98, 111, 111, 108]⟩, .string ⟨#[115, 116, 114]⟩, .string ⟨#[108, 111, 97, 100]⟩, .string ⟨#[115, 116, 111, 114, 101]⟩, .string ⟨#[112, 111, 112]⟩, .string ⟨#[97, 100, 100]⟩, .string ⟨#[115, 117, 98]⟩, .string ⟨#[109, 117, 108]⟩, .string ⟨#[100, 105, 118]⟩, .string ⟨#[114, 101, 109]⟩, .string ⟨#[110, 101, 103]⟩, .string ⟨#[110, 111, 116]⟩, .string ⟨#[101, 113]⟩, .string ⟨#[110, 101]⟩, .string ⟨#[108, 116]⟩, .string ⟨#[108, 101]⟩, .string ⟨#[103, 116]⟩, .string ⟨#[103, 101]⟩, .string ⟨#[106, 117, 109, 112]⟩, .string ⟨#[117, 110, 108, 101, 115, 115]⟩, .string ⟨#[99, 97, 108, 108]⟩, .string ⟨#[114, 101, 116, 117, 114, 110]⟩, .string ⟨#[97, 114, 114, 97, 121]⟩, .string ⟨#[110, 101, 119]⟩, .string ⟨#[105, 110, 100, 101, 120]⟩, .string ⟨#[115, 101, 116, 105, 110, 100, 101, 120]⟩, .string ⟨#[102, 105, 101, 108, 100]⟩, .string ⟨#[115, 101, 116, 102, 105, 101, 108, 100]⟩, .string ⟨#[108, 101, 110]⟩, .string ⟨#[115, 104, 111, 119]⟩, .string ⟨#[102, 105, 108, 108]⟩, .string ⟨#[105, 110, 112, 117, 116]⟩, .string ⟨#[112, 114, 105, 110, 116]⟩] 9)
  have HB1 : Hid (Below w.heap.size w w1) := hb1
  have hw1' := hw1.symm
  by_cases ho : 0 ≤ o ∧ o < 35
  · obtain ⟨n, rfl⟩ : ∃ n : Nat, o = n := ⟨o.toNat, by omega⟩
    have hn : n < opsL.length := by show n < 35; omega
    obtain ⟨s, hs⟩ : ∃ s, s = nmR (n : Int) := ⟨_, rfl⟩
    rw [← hs]
    have hc : w1.cell? ⟨w.heap.size, n, none⟩ = some (.string (strB s)) := by
      rw [hs, nmR_at hn]
      have h2 : w1.heap[w.heap.size]? = some (.cells (opsL.map fun r => Value.string (strB r.1)).toArray 9 (0, 0)) := h1
      rw [cell_of_row _ _ _ _ _ _ h2]
      simp [hn]
    have h35 : (n : Int) < 35 := ho.2
    clear hs hn ho hw1 hb1 h1 HZ1
    go_enter Tryz.func41, Tryz.ntmps41
    go_wp2
    go_ret
    exact ⟨rfl, HB1.out⟩
  · have HS : Hid (nmR o = []) := nmR_no ho
    by_cases h0 : o < 0
    · clear hw1 hb1 h1 HZ1
      go_enter Tryz.func41, Tryz.ntmps41
      go_wp2
      go_ret
      rw [HS.out]
      exact ⟨rfl, HB1.out⟩
    · have h35 : ¬ o < 35 := fun h => ho ⟨by omega, h⟩
      have h36 : 35 ≤ o := by omega
      clear ho hw1 hb1 h1 HZ1
      go_enter Tryz.func41, Tryz.ntmps41
      go_wp2
      go_ret
      rw [HS.out]
      exact ⟨rfl, HB1.out⟩

set_option maxRecDepth 100000 in
set_option maxHeartbeats 2000000 in
theorem rfUpto (a n : Int) (w : World) :
    Calls Tryz.prog 26 #[.int .i64 a, .int .i64 n] w fun e w' => e = .returned (.bool (decide (0 ≤ a ∧ a < n))) ∧ Below w.heap.size w w' := by
  have HB : Hid (Below w.heap.size w w) := Below.refl _ _
  obtain ⟨d, hd⟩ : ∃ d, d = decide (0 ≤ a ∧ a < n) := ⟨_, rfl⟩
  rw [← hd]
  by_cases h1 : 0 ≤ a
  · by_cases h2 : a < n
    · have HD : Hid (d = true) := hd.trans (decide_eq_true ⟨h1, h2⟩)
      clear hd
      go_enter Tryz.func26, Tryz.ntmps26
      go_wp2
      go_ret
      rw [HD.out]
      exact ⟨rfl, HB.out⟩
    · have HD : Hid (d = false) := hd.trans (decide_eq_false fun h => h2 h.2)
      clear hd
      go_enter Tryz.func26, Tryz.ntmps26
      go_wp2
      go_ret
      rw [HD.out]
      exact ⟨rfl, HB.out⟩
  · have HD : Hid (d = false) := hd.trans (decide_eq_false fun h => h1 h.1)
    clear hd
    go_enter Tryz.func26, Tryz.ntmps26
    go_wp2
    go_ret
    rw [HD.out]
    exact ⟨rfl, HB.out⟩

set_option maxRecDepth 100000 in
set_option maxHeartbeats 2000000 in
theorem rfOne (b : Bool) (w : World) :
    Calls Tryz.prog 119 #[.bool b] w fun e w' => e = .returned (.int .i64 (oneR b)) ∧ Below w.heap.size w w' := by
  have HB : Hid (Below w.heap.size w w) := Below.refl _ _
  cases b with
  | true =>
    go_enter Tryz.func119, Tryz.ntmps119
    go_wp2
    go_ret
    exact ⟨rfl, HB.out⟩
  | false =>
    go_enter Tryz.func119, Tryz.ntmps119
    go_wp2
    go_ret
    exact ⟨rfl, HB.out⟩
end Go.Proofs.YtechkkphbajmoaaGreatDoor
/- code: the document's own words: may an instruction stand in a unit. -/
namespace Go.Proofs.YtechkkphbajmoaaGreatDoor
open Go.RowKit Go.Shelf

theorem nm_all : ∀ n k : Fin opsL.length, n ≠ k → ((opsL[n]).1 == (opsL[k]).1) = false := by decide +kernel
theorem nm_ne {n k : Nat} (hn : n < opsL.length) (hk : k < opsL.length) (h : n ≠ k) : ((opsL[n]'hn).1 == (opsL[k]'hk).1) = false := nm_all ⟨n, hn⟩ ⟨k, hk⟩ fun e => h (by cases e; rfl)
theorem nm_some : ∀ n : Fin opsL.length, ((opsL[n]).1 == []) = false := by decide +kernel
theorem insR_at {ns nh nu ni : Nat} {slots : Int} {res : Bool} {n : Nat} {a : Int} (hn : n < opsL.length) : insR ns nh nu ni slots res ⟨n, a⟩ = decide ((bndR ns nh nu ni slots res (opsL[n]'hn).2.1).1 ≤ a ∧ a ≤ (bndR ns nh nu ni slots res (opsL[n]'hn).2.1).2) := by
  unfold insR
  simp only [Int.toNat_natCast, List.getElem?_eq_getElem hn, Int.natCast_nonneg, decide_true, Bool.true_and]
theorem insR_no {ns nh nu ni : Nat} {slots : Int} {res : Bool} {op a : Int} (h : ¬ (0 ≤ op ∧ op < 35)) : insR ns nh nu ni slots res ⟨op, a⟩ = false := by
  unfold insR
  simp only
  split
  · rename_i r hr
    have h9 := (List.getElem?_eq_some_iff.1 hr).1
    have h8 : op.toNat < 35 := h9
    rw [decide_eq_false (show ¬ 0 ≤ op by omega)]
    rfl
  · rfl
theorem ops_cls : ∀ n : Fin opsL.length, n.1 ∉ [0, 1, 2, 3, 28, 29, 4, 5, 20, 21, 22, 25, 23, 24, 34] → (opsL[n]).2.1 = 0 := by decide +kernel

set_option maxRecDepth 100000 in
set_option maxHeartbeats 8000000 in
theorem rfFits (bs bh bu bi bv : Option Addr) (ns cs nh ch nu cu ni ci nv cv : Nat) (m : Int) (u : Un) (x : In7) (ha : -9223372036854775808 ≤ x.a ∧ x.a ≤ 9223372036854775807) (w : World) :
    Calls Tryz.prog 118 #[cdV (.slice bs ns cs) (.slice bh nh ch) (.slice bu nu cu) m, unV u (.slice bi ni ci) (.slice bv nv cv), inV x] w fun e w' => e = .returned (.bool (insR ns nh nu ni u.slots u.result x)) ∧ Below w.heap.size w w' := by
  obtain ⟨name, params, slots, stack, result, ins, vars⟩ := u
  obtain ⟨op, a⟩ := x
  simp only at ha ⊢
  obtain ⟨w3, hw3, hb3, HZ3, hbc, hbu, hbi⟩ := box3 w (.cells #[.slice bs ns cs, .slice bh nh ch, .slice bu nu cu, .int .i64 m] 26) (.cells #[.string (strB name), .int .i64 params, .int .i64 slots, .int .i64 stack, .bool result, .slice bi ni ci, .slice bv nv cv] 58) (.cells #[.int .i64 op, .int .i64 a] 62)
  have HW3 : Hid (w3 = ((w.alloc (.cells #[.slice bs ns cs, .slice bh nh ch, .slice bu nu cu, .int .i64 m] 26)).alloc (.cells #[.string (strB name), .int .i64 params, .int .i64 slots, .int .i64 stack, .bool result, .slice bi ni ci, .slice bv nv cv] 58)).alloc (.cells #[.int .i64 op, .int .i64 a] 62)) := hw3
  have HB3 : Hid (Below w.heap.size w w3) := hb3
  have HF : Hid (∀ W, Below w3.heap.size w3 W → (W.cell? ⟨w.heap.size, 0, none⟩ = some (.slice bs ns cs) ∧ W.cell? ⟨w.heap.size, 1, none⟩ = some (.slice bh nh ch) ∧ W.cell? ⟨w.heap.size, 2, none⟩ = some (.slice bu nu cu) ∧ W.cell? ⟨w.heap.size, 3, none⟩ = some (.int .i64 m)) ∧
      (W.cell? ⟨w.heap.size + 1, 0, none⟩ = some (.string (strB name)) ∧ W.cell? ⟨w.heap.size + 1, 1, none⟩ = some (.int .i64 params) ∧ W.cell? ⟨w.heap.size + 1, 2, none⟩ = some (.int .i64 slots) ∧ W.cell? ⟨w.heap.size + 1, 3, none⟩ = some (.int .i64 stack) ∧ W.cell? ⟨w.heap.size + 1, 4, none⟩ = some (.bool result) ∧ W.cell? ⟨w.heap.size + 1, 5, none⟩ = some (.slice bi ni ci) ∧ W.cell? ⟨w.heap.size + 1, 6, none⟩ = some (.slice bv nv cv)) ∧
      W.cell? ⟨w.heap.size + 2, 0, none⟩ = some (.int .i64 op) ∧ W.cell? ⟨w.heap.size + 2, 1, none⟩ = some (.int .i64 a)) := fun W hW => by
    have hz := HZ3.out
    exact ⟨bcells4 ((hW.block w.heap.size (by omega)).trans hbc), cells7 ((hW.block (w.heap.size + 1) (by omega)).trans hbu), bcells2 ((hW.block (w.heap.size + 2) (by omega)).trans hbi)⟩
  obtain ⟨D, hD⟩ : ∃ D, D = insR ns nh nu ni slots result ⟨op, a⟩ := ⟨_, rfl⟩
  rw [← hD]
  have HDE : Hid (D = insR ns nh nu ni slots result ⟨op, a⟩) := hD
  obtain ⟨s, hs⟩ : ∃ s, s = nmR op := ⟨_, rfl⟩
  have HS : Hid (s = nmR op) := hs
  have cN := rfNm op w3
  rw [← hs] at cN
  have HA : Hid (-9223372036854775808 ≤ a ∧ a ≤ 9223372036854775807) := ha
  clear hw3 hb3 hbi hbu hbc HZ3 hD hs ha
  go_enter Tryz.func118, Tryz.ntmps118
  go_wp2_with fail
  rw [← HW3.out]
  refine cN.mono ?_
  clear cN
  rintro e w4 ⟨rfl, hb4⟩
  have HB4 : Hid (Below w.heap.size w w4) := HB3.out.trans (hb4.mono HB3.out.size)
  obtain ⟨⟨c0, c1, c2, c3⟩, ⟨p0, p1, p2, p3, p4, p5, p6⟩, i0, i1⟩ := HF.out w4 hb4
  clear hb4
  by_cases ho : 0 ≤ op ∧ op < 35
  · obtain ⟨n, hn0⟩ : ∃ n : Nat, op = n := ⟨op.toNat, by omega⟩
    have HN : Hid (op = n) := hn0
    have hn : n < opsL.length := by show n < 35; omega
    have HNL : Hid (n < opsL.length) := hn
    have HSN : Hid (s = (opsL[n]'HNL.out).1) := by
      show _ = _
      rw [HS.out, HN.out]; exact nmR_at hn
    have HDN : Hid (D = decide ((bndR ns nh nu ni slots result (opsL[n]'HNL.out).2.1).1 ≤ a ∧ a ≤ (bndR ns nh nu ni slots result (opsL[n]'HNL.out).2.1).2)) := by
      show _ = _
      rw [HDE.out, HN.out]; exact insR_at hn
    have qz : (s == []) = false := by rw [HSN.out]; exact nm_some ⟨n, hn⟩
    clear ho hn0 hn
    by_cases e0 : n = 0
    · subst e0
      have q0 : (s == [109, 97, 114, 107]) = true := by rw [HSN.out]; rfl
      have HD : Hid (D = true) := HDN.out.trans (decide_eq_true (show (-9223372036854775808 : Int) ≤ a ∧ a ≤ 9223372036854775807 from HA.out))
      clear HDN
      go_wp2
      go_ret
      rw [HD.out]
      exact ⟨rfl, HB4.out⟩
    by_cases e1 : n = 1
    · subst e1
      have q0 : (s == [109, 97, 114, 107]) = false := by rw [HSN.out]; exact nm_ne HNL.out (k := 0) (by decide) (by decide)
      have q1 : (s == [105, 110, 116]) = true := by rw [HSN.out]; rfl
      have HD : Hid (D = true) := HDN.out.trans (decide_eq_true (show (-9223372036854775808 : Int) ≤ a ∧ a ≤ 9223372036854775807 from HA.out))
      clear HDN
      go_wp2
      go_ret
      rw [HD.out]
      exact ⟨rfl, HB4.out⟩
    by_cases e2 : n = 2
    · subst e2
      have q0 : (s == [109, 97, 114, 107]) = false := by rw [HSN.out]; exact nm_ne HNL.out (k := 0) (by decide) (by decide)
      have q1 : (s == [105, 110, 116]) = false := by rw [HSN.out]; exact nm_ne HNL.out (k := 1) (by decide) (by decide)
      have q2 : (s == [98, 111, 111, 108]) = true := by rw [HSN.out]; rfl
      have HDK : Hid (D = decide ((0 : Int) ≤ a ∧ a ≤ 1)) := HDN.out
      have HU : Hid (∀ W, Calls Tryz.prog 26 #[.int .i64 a, .int .i64 2] W fun e w' => e = .returned (.bool D) ∧ Below W.heap.size W w') := fun W => by
        have : D = decide (0 ≤ a ∧ a < (2 : Int)) := HDK.out.trans (decide_eq_decide.2 (by omega))
        rw [this]; exact rfUpto a _ W
      clear HDK HDN
      go_wp2_with fail
      refine (HU.out _).mono ?_
      rintro e w5 ⟨rfl, hb5⟩
      have HB5 : Hid (Below w.heap.size w w5) := HB4.out.trans (hb5.mono HB4.out.size)
      clear hb5
      go_wp2
      go_ret
      exact ⟨rfl, HB5.out⟩
    by_cases e3 : n = 3
    · subst e3
      have q0 : (s == [109, 97, 114, 107]) = false := by rw [HSN.out]; exact nm_ne HNL.out (k := 0) (by decide) (by decide)
      have q1 : (s == [105, 110, 116]) = false := by rw [HSN.out]; exact nm_ne HNL.out (k := 1) (by decide) (by decide)
      have q2 : (s == [98, 111, 111, 108]) = false := by rw [HSN.out]; exact nm_ne HNL.out (k := 2) (by decide) (by decide)
      have q3 : (s == [115, 116, 114]) = true := by rw [HSN.out]; rfl
      have HDK : Hid (D = decide ((0 : Int) ≤ a ∧ a ≤ ((ns : Int) - 1))) := HDN.out
      have HU : Hid (∀ W, Calls Tryz.prog 26 #[.int .i64 a, .int .i64 (ns : Int)] W fun e w' => e = .returned (.bool D) ∧ Below W.heap.size W w') := fun W => by
        have : D = decide (0 ≤ a ∧ a < ((ns : Int) : Int)) := HDK.out.trans (decide_eq_decide.2 (by omega))
        rw [this]; exact rfUpto a _ W
      clear HDK HDN
      go_wp2_with fail
      refine (HU.out _).mono ?_
      rintro e w5 ⟨rfl, hb5⟩
      have HB5 : Hid (Below w.heap.size w w5) := HB4.out.trans (hb5.mono HB4.out.size)
      clear hb5
      go_wp2
      go_ret
      exact ⟨rfl, HB5.out⟩
    by_cases e28 : n = 28
    · subst e28
      have q0 : (s == [109, 97, 114, 107]) = false := by rw [HSN.out]; exact nm_ne HNL.out (k := 0) (by decide) (by decide)
      have q1 : (s == [105, 110, 116]) = false := by rw [HSN.out]; exact nm_ne HNL.out (k := 1) (by decide) (by decide)
      have q2 : (s == [98, 111, 111, 108]) = false := by rw [HSN.out]; exact nm_ne HNL.out (k := 2) (by decide) (by decide)
      have q3 : (s == [115, 116, 114]) = false := by rw [HSN.out]; exact nm_ne HNL.out (k := 3) (by decide) (by decide)
      have q28 : (s == [102, 105, 101, 108, 100]) = true := by rw [HSN.out]; rfl
      have HDK : Hid (D = decide ((0 : Int) ≤ a ∧ a ≤ ((ns : Int) - 1))) := HDN.out
      have HU : Hid (∀ W, Calls Tryz.prog 26 #[.int .i64 a, .int .i64 (ns : Int)] W fun e w' => e = .returned (.bool D) ∧ Below W.heap.size W w') := fun W => by
        have : D = decide (0 ≤ a ∧ a < ((ns : Int) : Int)) := HDK.out.trans (decide_eq_decide.2 (by omega))
        rw [this]; exact rfUpto a _ W
      clear HDK HDN
      go_wp2_with fail
      refine (HU.out _).mono ?_
      rintro e w5 ⟨rfl, hb5⟩
      have HB5 : Hid (Below w.heap.size w w5) := HB4.out.trans (hb5.mono HB4.out.size)
      clear hb5
      go_wp2
      go_ret
      exact ⟨rfl, HB5.out⟩
    by_cases e29 : n = 29
    · subst e29
      have q0 : (s == [109, 97, 114, 107]) = false := by rw [HSN.out]; exact nm_ne HNL.out (k := 0) (by decide) (by decide)
      have q1 : (s == [105, 110, 116]) = false := by rw [HSN.out]; exact nm_ne HNL.out (k := 1) (by decide) (by decide)
      have q2 : (s == [98, 111, 111, 108]) = false := by rw [HSN.out]; exact nm_ne HNL.out (k := 2) (by decide) (by decide)
      have q3 : (s == [115, 116, 114]) = false := by rw [HSN.out]; exact nm_ne HNL.out (k := 3) (by decide) (by decide)
      have q28 : (s == [102, 105, 101, 108, 100]) = false := by rw [HSN.out]; exact nm_ne HNL.out (k := 28) (by decide) (by decide)
      have q29 : (s == [115, 101, 116, 102, 105, 101, 108, 100]) = true := by rw [HSN.out]; rfl
      have HDK : Hid (D = decide ((0 : Int) ≤ a ∧ a ≤ ((ns : Int) - 1))) := HDN.out
      have HU : Hid (∀ W, Calls Tryz.prog 26 #[.int .i64 a, .int .i64 (ns : Int)] W fun e w' => e = .returned (.bool D) ∧ Below W.heap.size W w') := fun W => by
        have : D = decide (0 ≤ a ∧ a < ((ns : Int) : Int)) := HDK.out.trans (decide_eq_decide.2 (by omega))
        rw [this]; exact rfUpto a _ W
      clear HDK HDN
      go_wp2_with fail
      refine (HU.out _).mono ?_
      rintro e w5 ⟨rfl, hb5⟩
      have HB5 : Hid (Below w.heap.size w w5) := HB4.out.trans (hb5.mono HB4.out.size)
      clear hb5
      go_wp2
      go_ret
      exact ⟨rfl, HB5.out⟩
    by_cases e4 : n = 4
    · subst e4
      have q0 : (s == [109, 97, 114, 107]) = false := by rw [HSN.out]; exact nm_ne HNL.out (k := 0) (by decide) (by decide)
      have q1 : (s == [105, 110, 116]) = false := by rw [HSN.out]; exact nm_ne HNL.out (k := 1) (by decide) (by decide)
      have q2 : (s == [98, 111, 111, 108]) = false := by rw [HSN.out]; exact nm_ne HNL.out (k := 2) (by decide) (by decide)
      have q3 : (s == [115, 116, 114]) = false := by rw [HSN.out]; exact nm_ne HNL.out (k := 3) (by decide) (by decide)
      have q28 : (s == [102, 105, 101, 108, 100]) = false := by rw [HSN.out]; exact nm_ne HNL.out (k := 28) (by decide) (by decide)
      have q29 : (s == [115, 101, 116, 102, 105, 101, 108, 100]) = false := by rw [HSN.out]; exact nm_ne HNL.out (k := 29) (by decide) (by decide)
      have q4 : (s == [108, 111, 97, 100]) = true := by rw [HSN.out]; rfl
      have HDK : Hid (D = decide ((0 : Int) ≤ a ∧ a ≤ (slots - 1))) := HDN.out
      have HU : Hid (∀ W, Calls Tryz.prog 26 #[.int .i64 a, .int .i64 slots] W fun e w' => e = .returned (.bool D) ∧ Below W.heap.size W w') := fun W => by
        have : D = decide (0 ≤ a ∧ a < (slots : Int)) := HDK.out.trans (decide_eq_decide.2 (by omega))
        rw [this]; exact rfUpto a _ W
      clear HDK HDN
      go_wp2_with fail
      refine (HU.out _).mono ?_
      rintro e w5 ⟨rfl, hb5⟩
      have HB5 : Hid (Below w.heap.size w w5) := HB4.out.trans (hb5.mono HB4.out.size)
      clear hb5
      go_wp2
      go_ret
      exact ⟨rfl, HB5.out⟩
    by_cases e5 : n = 5
    · subst e5
      have q0 : (s == [109, 97, 114, 107]) = false := by rw [HSN.out]; exact nm_ne HNL.out (k := 0) (by decide) (by decide)
      have q1 : (s == [105, 110, 116]) = false := by rw [HSN.out]; exact nm_ne HNL.out (k := 1) (by decide) (by decide)
      have q2 : (s == [98, 111, 111, 108]) = false := by rw [HSN.out]; exact nm_ne HNL.out (k := 2) (by decide) (by decide)
      have q3 : (s == [115, 116, 114]) = false := by rw [HSN.out]; exact nm_ne HNL.out (k := 3) (by decide) (by decide)
      have q28 : (s == [102, 105, 101, 108, 100]) = false := by rw [HSN.out]; exact nm_ne HNL.out (k := 28) (by decide) (by decide)
      have q29 : (s == [115, 101, 116, 102, 105, 101, 108, 100]) = false := by rw [HSN.out]; exact nm_ne HNL.out (k := 29) (by decide) (by decide)
      have q4 : (s == [108, 111, 97, 100]) = false := by rw [HSN.out]; exact nm_ne HNL.out (k := 4) (by decide) (by decide)
      have q5 : (s == [115, 116, 111, 114, 101]) = true := by rw [HSN.out]; rfl
      have HDK : Hid (D = decide ((0 : Int) ≤ a ∧ a ≤ (slots - 1))) := HDN.out
      have HU : Hid (∀ W, Calls Tryz.prog 26 #[.int .i64 a, .int .i64 slots] W fun e w' => e = .returned (.bool D) ∧ Below W.heap.size W w') := fun W => by
        have : D = decide (0 ≤ a ∧ a < (slots : Int)) := HDK.out.trans (decide_eq_decide.2 (by omega))
        rw [this]; exact rfUpto a _ W
      clear HDK HDN
      go_wp2_with fail
      refine (HU.out _).mono ?_
      rintro e w5 ⟨rfl, hb5⟩
      have HB5 : Hid (Below w.heap.size w w5) := HB4.out.trans (hb5.mono HB4.out.size)
      clear hb5
      go_wp2
      go_ret
      exact ⟨rfl, HB5.out⟩
    by_cases e20 : n = 20
    · subst e20
      have q0 : (s == [109, 97, 114, 107]) = false := by rw [HSN.out]; exact nm_ne HNL.out (k := 0) (by decide) (by decide)
      have q1 : (s == [105, 110, 116]) = false := by rw [HSN.out]; exact nm_ne HNL.out (k := 1) (by decide) (by decide)
      have q2 : (s == [98, 111, 111, 108]) = false := by rw [HSN.out]; exact nm_ne HNL.out (k := 2) (by decide) (by decide)
      have q3 : (s == [115, 116, 114]) = false := by rw [HSN.out]; exact nm_ne HNL.out (k := 3) (by decide) (by decide)
      have q28 : (s == [102, 105, 101, 108, 100]) = false := by rw [HSN.out]; exact nm_ne HNL.out (k := 28) (by decide) (by decide)
      have q29 : (s == [115, 101, 116, 102, 105, 101, 108, 100]) = false := by rw [HSN.out]; exact nm_ne HNL.out (k := 29) (by decide) (by decide)
      have q4 : (s == [108, 111, 97, 100]) = false := by rw [HSN.out]; exact nm_ne HNL.out (k := 4) (by decide) (by decide)
      have q5 : (s == [115, 116, 111, 114, 101]) = false := by rw [HSN.out]; exact nm_ne HNL.out (k := 5) (by decide) (by decide)
      have q20 : (s == [106, 117, 109, 112]) = true := by rw [HSN.out]; rfl
      have HDK : Hid (D = decide ((0 : Int) ≤ a ∧ a ≤ ((ni : Int) - 1))) := HDN.out
      have HU : Hid (∀ W, Calls Tryz.prog 26 #[.int .i64 a, .int .i64 (ni : Int)] W fun e w' => e = .returned (.bool D) ∧ Below W.heap.size W w') := fun W => by
        have : D = decide (0 ≤ a ∧ a < ((ni : Int) : Int)) := HDK.out.trans (decide_eq_decide.2 (by omega))
        rw [this]; exact rfUpto a _ W
      clear HDK HDN
      go_wp2_with fail
      refine (HU.out _).mono ?_
      rintro e w5 ⟨rfl, hb5⟩
      have HB5 : Hid (Below w.heap.size w w5) := HB4.out.trans (hb5.mono HB4.out.size)
      clear hb5
      go_wp2
      go_ret
      exact ⟨rfl, HB5.out⟩
    by_cases e21 : n = 21
    · subst e21
      have q0 : (s == [109, 97, 114, 107]) = false := by rw [HSN.out]; exact nm_ne HNL.out (k := 0) (by decide) (by decide)
      have q1 : (s == [105, 110, 116]) = false := by rw [HSN.out]; exact nm_ne HNL.out (k := 1) (by decide) (by decide)
      have q2 : (s == [98, 111, 111, 108]) = false := by rw [HSN.out]; exact nm_ne HNL.out (k := 2) (by decide) (by decide)
      have q3 : (s == [115, 116, 114]) = false := by rw [HSN.out]; exact nm_ne HNL.out (k := 3) (by decide) (by decide)
      have q28 : (s == [102, 105, 101, 108, 100]) = false := by rw [HSN.out]; exact nm_ne HNL.out (k := 28) (by decide) (by decide)
      have q29 : (s == [115, 101, 116, 102, 105, 101, 108, 100]) = false := by rw [HSN.out]; exact nm_ne HNL.out (k := 29) (by decide) (by decide)
      have q4 : (s == [108, 111, 97, 100]) = false := by rw [HSN.out]; exact nm_ne HNL.out (k := 4) (by decide) (by decide)
      have q5 : (s == [115, 116, 111, 114, 101]) = false := by rw [HSN.out]; exact nm_ne HNL.out (k := 5) (by decide) (by decide)
      have q20 : (s == [106, 117, 109, 112]) = false := by rw [HSN.out]; exact nm_ne HNL.out (k := 20) (by decide) (by decide)
      have q21 : (s == [117, 110, 108, 101, 115, 115]) = true := by rw [HSN.out]; rfl
      have HDK : Hid (D = decide ((0 : Int) ≤ a ∧ a ≤ ((ni : Int) - 1))) := HDN.out
      have HU : Hid (∀ W, Calls Tryz.prog 26 #[.int .i64 a, .int .i64 (ni : Int)] W fun e w' => e = .returned (.bool D) ∧ Below W.heap.size W w') := fun W => by
        have : D = decide (0 ≤ a ∧ a < ((ni : Int) : Int)) := HDK.out.trans (decide_eq_decide.2 (by omega))
        rw [this]; exact rfUpto a _ W
      clear HDK HDN
      go_wp2_with fail
      refine (HU.out _).mono ?_
      rintro e w5 ⟨rfl, hb5⟩
      have HB5 : Hid (Below w.heap.size w w5) := HB4.out.trans (hb5.mono HB4.out.size)
      clear hb5
      go_wp2
      go_ret
      exact ⟨rfl, HB5.out⟩
    by_cases e22 : n = 22
    · subst e22
      have q0 : (s == [109, 97, 114, 107]) = false := by rw [HSN.out]; exact nm_ne HNL.out (k := 0) (by decide) (by decide)
      have q1 : (s == [105, 110, 116]) = false := by rw [HSN.out]; exact nm_ne HNL.out (k := 1) (by decide) (by decide)
      have q2 : (s == [98, 111, 111, 108]) = false := by rw [HSN.out]; exact nm_ne HNL.out (k := 2) (by decide) (by decide)
      have q3 : (s == [115, 116, 114]) = false := by rw [HSN.out]; exact nm_ne HNL.out (k := 3) (by decide) (by decide)
      have q28 : (s == [102, 105, 101, 108, 100]) = false := by rw [HSN.out]; exact nm_ne HNL.out (k := 28) (by decide) (by decide)
      have q29 : (s == [115, 101, 116, 102, 105, 101, 108, 100]) = false := by rw [HSN.out]; exact nm_ne HNL.out (k := 29) (by decide) (by decide)
      have q4 : (s == [108, 111, 97, 100]) = false := by rw [HSN.out]; exact nm_ne HNL.out (k := 4) (by decide) (by decide)
      have q5 : (s == [115, 116, 111, 114, 101]) = false := by rw [HSN.out]; exact nm_ne HNL.out (k := 5) (by decide) (by decide)
      have q20 : (s == [106, 117, 109, 112]) = false := by rw [HSN.out]; exact nm_ne HNL.out (k := 20) (by decide) (by decide)
      have q21 : (s == [117, 110, 108, 101, 115, 115]) = false := by rw [HSN.out]; exact nm_ne HNL.out (k := 21) (by decide) (by decide)
      have q22 : (s == [99, 97, 108, 108]) = true := by rw [HSN.out]; rfl
      have HDK : Hid (D = decide ((0 : Int) ≤ a ∧ a ≤ ((nu : Int) - 1))) := HDN.out
      have HU : Hid (∀ W, Calls Tryz.prog 26 #[.int .i64 a, .int .i64 (nu : Int)] W fun e w' => e = .returned (.bool D) ∧ Below W.heap.size W w') := fun W => by
        have : D = decide (0 ≤ a ∧ a < ((nu : Int) : Int)) := HDK.out.trans (decide_eq_decide.2 (by omega))
        rw [this]; exact rfUpto a _ W
      clear HDK HDN
      go_wp2_with fail
      refine (HU.out _).mono ?_
      rintro e w5 ⟨rfl, hb5⟩
      have HB5 : Hid (Below w.heap.size w w5) := HB4.out.trans (hb5.mono HB4.out.size)
      clear hb5
      go_wp2
      go_ret
      exact ⟨rfl, HB5.out⟩
    by_cases e25 : n = 25
    · subst e25
      have q0 : (s == [109, 97, 114, 107]) = false := by rw [HSN.out]; exact nm_ne HNL.out (k := 0) (by decide) (by decide)
      have q1 : (s == [105, 110, 116]) = false := by rw [HSN.out]; exact nm_ne HNL.out (k := 1) (by decide) (by decide)
      have q2 : (s == [98, 111, 111, 108]) = false := by rw [HSN.out]; exact nm_ne HNL.out (k := 2) (by decide) (by decide)
      have q3 : (s == [115, 116, 114]) = false := by rw [HSN.out]; exact nm_ne HNL.out (k := 3) (by decide) (by decide)
      have q28 : (s == [102, 105, 101, 108, 100]) = false := by rw [HSN.out]; exact nm_ne HNL.out (k := 28) (by decide) (by decide)
      have q29 : (s == [115, 101, 116, 102, 105, 101, 108, 100]) = false := by rw [HSN.out]; exact nm_ne HNL.out (k := 29) (by decide) (by decide)
      have q4 : (s == [108, 111, 97, 100]) = false := by rw [HSN.out]; exact nm_ne HNL.out (k := 4) (by decide) (by decide)
      have q5 : (s == [115, 116, 111, 114, 101]) = false := by rw [HSN.out]; exact nm_ne HNL.out (k := 5) (by decide) (by decide)
      have q20 : (s == [106, 117, 109, 112]) = false := by rw [HSN.out]; exact nm_ne HNL.out (k := 20) (by decide) (by decide)
      have q21 : (s == [117, 110, 108, 101, 115, 115]) = false := by rw [HSN.out]; exact nm_ne HNL.out (k := 21) (by decide) (by decide)
      have q22 : (s == [99, 97, 108, 108]) = false := by rw [HSN.out]; exact nm_ne HNL.out (k := 22) (by decide) (by decide)
      have q25 : (s == [110, 101, 119]) = true := by rw [HSN.out]; rfl
      have HDK : Hid (D = decide ((0 : Int) ≤ a ∧ a ≤ ((nh : Int) - 1))) := HDN.out
      have HU : Hid (∀ W, Calls Tryz.prog 26 #[.int .i64 a, .int .i64 (nh : Int)] W fun e w' => e = .returned (.bool D) ∧ Below W.heap.size W w') := fun W => by
        have : D = decide (0 ≤ a ∧ a < ((nh : Int) : Int)) := HDK.out.trans (decide_eq_decide.2 (by omega))
        rw [this]; exact rfUpto a _ W
      clear HDK HDN
      go_wp2_with fail
      refine (HU.out _).mono ?_
      rintro e w5 ⟨rfl, hb5⟩
      have HB5 : Hid (Below w.heap.size w w5) := HB4.out.trans (hb5.mono HB4.out.size)
      clear hb5
      go_wp2
      go_ret
      exact ⟨rfl, HB5.out⟩
    by_cases e23 : n = 23
    · subst e23
      have q0 : (s == [109, 97, 114, 107]) = false := by rw [HSN.out]; exact nm_ne HNL.out (k := 0) (by decide) (by decide)
      have q1 : (s == [105, 110, 116]) = false := by rw [HSN.out]; exact nm_ne HNL.out (k := 1) (by decide) (by decide)
      have q2 : (s == [98, 111, 111, 108]) = false := by rw [HSN.out]; exact nm_ne HNL.out (k := 2) (by decide) (by decide)
      have q3 : (s == [115, 116, 114]) = false := by rw [HSN.out]; exact nm_ne HNL.out (k := 3) (by decide) (by decide)
      have q28 : (s == [102, 105, 101, 108, 100]) = false := by rw [HSN.out]; exact nm_ne HNL.out (k := 28) (by decide) (by decide)
      have q29 : (s == [115, 101, 116, 102, 105, 101, 108, 100]) = false := by rw [HSN.out]; exact nm_ne HNL.out (k := 29) (by decide) (by decide)
      have q4 : (s == [108, 111, 97, 100]) = false := by rw [HSN.out]; exact nm_ne HNL.out (k := 4) (by decide) (by decide)
      have q5 : (s == [115, 116, 111, 114, 101]) = false := by rw [HSN.out]; exact nm_ne HNL.out (k := 5) (by decide) (by decide)
      have q20 : (s == [106, 117, 109, 112]) = false := by rw [HSN.out]; exact nm_ne HNL.out (k := 20) (by decide) (by decide)
      have q21 : (s == [117, 110, 108, 101, 115, 115]) = false := by rw [HSN.out]; exact nm_ne HNL.out (k := 21) (by decide) (by decide)
      have q22 : (s == [99, 97, 108, 108]) = false := by rw [HSN.out]; exact nm_ne HNL.out (k := 22) (by decide) (by decide)
      have q25 : (s == [110, 101, 119]) = false := by rw [HSN.out]; exact nm_ne HNL.out (k := 25) (by decide) (by decide)
      have q23 : (s == [114, 101, 116, 117, 114, 110]) = true := by rw [HSN.out]; rfl
      have HDK : Hid (D = decide (oneR result ≤ a ∧ a ≤ oneR result)) := HDN.out
      clear HDN
      cases result with
      | true =>
        by_cases h1 : a = 1
        · subst h1
          have HD : Hid (D = true) := HDK.out.trans (by decide)
          clear HDK
          go_wp2
          go_ret
          rw [HD.out]
          exact ⟨rfl, HB4.out⟩
        · have hb1 : (a == 1) = false := by rw [beq_eq_false_iff_ne]; exact h1
          have HD : Hid (D = false) := HDK.out.trans (decide_eq_false (show ¬ ((1 : Int) ≤ a ∧ a ≤ 1) by omega))
          clear HDK h1
          go_wp2
          go_ret
          rw [HD.out]
          exact ⟨rfl, HB4.out⟩
      | false =>
        by_cases h1 : a = 0
        · subst h1
          have HD : Hid (D = true) := HDK.out.trans (by decide)
          clear HDK
          go_wp2
          go_ret
          rw [HD.out]
          exact ⟨rfl, HB4.out⟩
        · have hb1 : (a == 0) = false := by rw [beq_eq_false_iff_ne]; exact h1
          have HD : Hid (D = false) := HDK.out.trans (decide_eq_false (show ¬ ((0 : Int) ≤ a ∧ a ≤ 0) by omega))
          clear HDK h1
          go_wp2
          go_ret
          rw [HD.out]
          exact ⟨rfl, HB4.out⟩
    by_cases e24 : n = 24
    · subst e24
      have q0 : (s == [109, 97, 114, 107]) = false := by rw [HSN.out]; exact nm_ne HNL.out (k := 0) (by decide) (by decide)
      have q1 : (s == [105, 110, 116]) = false := by rw [HSN.out]; exact nm_ne HNL.out (k := 1) (by decide) (by decide)
      have q2 : (s == [98, 111, 111, 108]) = false := by rw [HSN.out]; exact nm_ne HNL.out (k := 2) (by decide) (by decide)
      have q3 : (s == [115, 116, 114]) = false := by rw [HSN.out]; exact nm_ne HNL.out (k := 3) (by decide) (by decide)
      have q28 : (s == [102, 105, 101, 108, 100]) = false := by rw [HSN.out]; exact nm_ne HNL.out (k := 28) (by decide) (by decide)
      have q29 : (s == [115, 101, 116, 102, 105, 101, 108, 100]) = false := by rw [HSN.out]; exact nm_ne HNL.out (k := 29) (by decide) (by decide)
      have q4 : (s == [108, 111, 97, 100]) = false := by rw [HSN.out]; exact nm_ne HNL.out (k := 4) (by decide) (by decide)
      have q5 : (s == [115, 116, 111, 114, 101]) = false := by rw [HSN.out]; exact nm_ne HNL.out (k := 5) (by decide) (by decide)
      have q20 : (s == [106, 117, 109, 112]) = false := by rw [HSN.out]; exact nm_ne HNL.out (k := 20) (by decide) (by decide)
      have q21 : (s == [117, 110, 108, 101, 115, 115]) = false := by rw [HSN.out]; exact nm_ne HNL.out (k := 21) (by decide) (by decide)
      have q22 : (s == [99, 97, 108, 108]) = false := by rw [HSN.out]; exact nm_ne HNL.out (k := 22) (by decide) (by decide)
      have q25 : (s == [110, 101, 119]) = false := by rw [HSN.out]; exact nm_ne HNL.out (k := 25) (by decide) (by decide)
      have q23 : (s == [114, 101, 116, 117, 114, 110]) = false := by rw [HSN.out]; exact nm_ne HNL.out (k := 23) (by decide) (by decide)
      have q24 : (s == [97, 114, 114, 97, 121]) = true := by rw [HSN.out]; rfl
      have HDK : Hid (D = decide ((1 : Int) ≤ a ∧ a ≤ 256)) := HDN.out
      clear HDN
      by_cases h1 : 1 ≤ a
      · have HD : Hid (D = decide (a ≤ 256)) := HDK.out.trans (decide_eq_decide.2 ⟨fun h => h.2, fun h => ⟨h1, h⟩⟩)
        clear HDK
        go_wp2
        go_ret
        rw [HD.out]
        exact ⟨rfl, HB4.out⟩
      · have HD : Hid (D = false) := HDK.out.trans (decide_eq_false fun h => h1 h.1)
        clear HDK
        go_wp2
        go_ret
        rw [HD.out]
        exact ⟨rfl, HB4.out⟩
    by_cases e34 : n = 34
    · subst e34
      have q0 : (s == [109, 97, 114, 107]) = false := by rw [HSN.out]; exact nm_ne HNL.out (k := 0) (by decide) (by decide)
      have q1 : (s == [105, 110, 116]) = false := by rw [HSN.out]; exact nm_ne HNL.out (k := 1) (by decide) (by decide)
      have q2 : (s == [98, 111, 111, 108]) = false := by rw [HSN.out]; exact nm_ne HNL.out (k := 2) (by decide) (by decide)
      have q3 : (s == [115, 116, 114]) = false := by rw [HSN.out]; exact nm_ne HNL.out (k := 3) (by decide) (by decide)
      have q28 : (s == [102, 105, 101, 108, 100]) = false := by rw [HSN.out]; exact nm_ne HNL.out (k := 28) (by decide) (by decide)
      have q29 : (s == [115, 101, 116, 102, 105, 101, 108, 100]) = false := by rw [HSN.out]; exact nm_ne HNL.out (k := 29) (by decide) (by decide)
      have q4 : (s == [108, 111, 97, 100]) = false := by rw [HSN.out]; exact nm_ne HNL.out (k := 4) (by decide) (by decide)
      have q5 : (s == [115, 116, 111, 114, 101]) = false := by rw [HSN.out]; exact nm_ne HNL.out (k := 5) (by decide) (by decide)
      have q20 : (s == [106, 117, 109, 112]) = false := by rw [HSN.out]; exact nm_ne HNL.out (k := 20) (by decide) (by decide)
      have q21 : (s == [117, 110, 108, 101, 115, 115]) = false := by rw [HSN.out]; exact nm_ne HNL.out (k := 21) (by decide) (by decide)
      have q22 : (s == [99, 97, 108, 108]) = false := by rw [HSN.out]; exact nm_ne HNL.out (k := 22) (by decide) (by decide)
      have q25 : (s == [110, 101, 119]) = false := by rw [HSN.out]; exact nm_ne HNL.out (k := 25) (by decide) (by decide)
      have q23 : (s == [114, 101, 116, 117, 114, 110]) = false := by rw [HSN.out]; exact nm_ne HNL.out (k := 23) (by decide) (by decide)
      have q24 : (s == [97, 114, 114, 97, 121]) = false := by rw [HSN.out]; exact nm_ne HNL.out (k := 24) (by decide) (by decide)
      have q34 : (s == [112, 114, 105, 110, 116]) = true := by rw [HSN.out]; rfl
      have HDK : Hid (D = decide ((1 : Int) ≤ a ∧ a ≤ 256)) := HDN.out
      clear HDN
      by_cases h1 : 1 ≤ a
      · have HD : Hid (D = decide (a ≤ 256)) := HDK.out.trans (decide_eq_decide.2 ⟨fun h => h.2, fun h => ⟨h1, h⟩⟩)
        clear HDK
        go_wp2
        go_ret
        rw [HD.out]
        exact ⟨rfl, HB4.out⟩
      · have HD : Hid (D = false) := HDK.out.trans (decide_eq_false fun h => h1 h.1)
        clear HDK
        go_wp2
        go_ret
        rw [HD.out]
        exact ⟨rfl, HB4.out⟩
    have q0 : (s == [109, 97, 114, 107]) = false := by rw [HSN.out]; exact nm_ne HNL.out (k := 0) (by decide) e0
    have q1 : (s == [105, 110, 116]) = false := by rw [HSN.out]; exact nm_ne HNL.out (k := 1) (by decide) e1
    have q2 : (s == [98, 111, 111, 108]) = false := by rw [HSN.out]; exact nm_ne HNL.out (k := 2) (by decide) e2
    have q3 : (s == [115, 116, 114]) = false := by rw [HSN.out]; exact nm_ne HNL.out (k := 3) (by decide) e3
    have q28 : (s == [102, 105, 101, 108, 100]) = false := by rw [HSN.out]; exact nm_ne HNL.out (k := 28) (by decide) e28
    have q29 : (s == [115, 101, 116, 102, 105, 101, 108, 100]) = false := by rw [HSN.out]; exact nm_ne HNL.out (k := 29) (by decide) e29
    have q4 : (s == [108, 111, 97, 100]) = false := by rw [HSN.out]; exact nm_ne HNL.out (k := 4) (by decide) e4
    have q5 : (s == [115, 116, 111, 114, 101]) = false := by rw [HSN.out]; exact nm_ne HNL.out (k := 5) (by decide) e5
    have q20 : (s == [106, 117, 109, 112]) = false := by rw [HSN.out]; exact nm_ne HNL.out (k := 20) (by decide) e20
    have q21 : (s == [117, 110, 108, 101, 115, 115]) = false := by rw [HSN.out]; exact nm_ne HNL.out (k := 21) (by decide) e21
    have q22 : (s == [99, 97, 108, 108]) = false := by rw [HSN.out]; exact nm_ne HNL.out (k := 22) (by decide) e22
    have q25 : (s == [110, 101, 119]) = false := by rw [HSN.out]; exact nm_ne HNL.out (k := 25) (by decide) e25
    have q23 : (s == [114, 101, 116, 117, 114, 110]) = false := by rw [HSN.out]; exact nm_ne HNL.out (k := 23) (by decide) e23
    have q24 : (s == [97, 114, 114, 97, 121]) = false := by rw [HSN.out]; exact nm_ne HNL.out (k := 24) (by decide) e24
    have q34 : (s == [112, 114, 105, 110, 116]) = false := by rw [HSN.out]; exact nm_ne HNL.out (k := 34) (by decide) e34
    have HDK : Hid (D = decide ((0 : Int) ≤ a ∧ a ≤ 0)) := by
      have h0 := ops_cls ⟨n, HNL.out⟩ (by simp; omega)
      have h1 : (opsL[n]'HNL.out).2.1 = 0 := h0
      have h2 := HDN.out
      rw [h1] at h2
      exact h2
    clear HDN e0 e1 e2 e3 e28 e29 e4 e5 e20 e21 e22 e25 e23 e24 e34
    by_cases h1 : a = 0
    · subst h1
      have HD : Hid (D = true) := HDK.out.trans (by decide)
      clear HDK
      go_wp2
      go_ret
      rw [HD.out]
      exact ⟨rfl, HB4.out⟩
    · have hb1 : (a == 0) = false := by rw [beq_eq_false_iff_ne]; exact h1
      have HD : Hid (D = false) := HDK.out.trans (decide_eq_false (show ¬ ((0 : Int) ≤ a ∧ a ≤ 0) by omega))
      clear HDK h1
      go_wp2
      go_ret
      rw [HD.out]
      exact ⟨rfl, HB4.out⟩
  · have HD : Hid (D = false) := HDE.out.trans (insR_no ho)
    have hq : (s == []) = true := by rw [HS.out, nmR_no ho]; rfl
    clear ho
    go_wp2
    go_ret
    rw [HD.out]
    exact ⟨rfl, HB4.out⟩
end Go.Proofs.YtechkkphbajmoaaGreatDoor
/- code: the document's own words: what an instruction takes and puts. -/
namespace Go.Proofs.YtechkkphbajmoaaGreatDoor
open Go.RowKit Go.Shelf

theorem ops_def : ∀ n : Fin opsL.length, n.1 ∉ [0, 20, 1, 2, 3, 4, 33, 5, 6, 21, 12, 13, 28, 30, 31, 22, 23, 34, 24, 25, 27, 29] → (opsL[n]).2 = (0, 2, 1) := by decide +kernel

set_option maxRecDepth 100000 in
set_option maxHeartbeats 8000000 in
theorem rfMoves (S : Nat → Prop) (c : Cd) (bs bh bu : Option Addr) (ns cs nh ch nu cu : Nat) (m : Int) (x : In7) (w : World) (hsh : shapesIn S w (.slice bh nh ch) c.shapes) (hun : unitsIn S w (.slice bu nu cu) c.units) (hok : InsOk c x) :
    Calls Tryz.prog 71 #[cdV (.slice bs ns cs) (.slice bh nh ch) (.slice bu nu cu) m, inV x] w fun e w' => e = .returned (.tuple #[.int .i64 (effR c x).1, .int .i64 (effR c x).2]) ∧ Below w.heap.size w w' := by
  obtain ⟨op, a⟩ := x
  obtain ⟨n, r, he, hr, h6, h7⟩ := hok
  simp only at he h6 h7
  have hn : n < opsL.length := (List.getElem?_eq_some_iff.1 hr).1
  have HNL : Hid (n < opsL.length) := hn
  obtain ⟨w2, hw2, hb2, HZ2, h0, h1⟩ := box2 w (.cells #[.slice bs ns cs, .slice bh nh ch, .slice bu nu cu, .int .i64 m] 26) (.cells #[.int .i64 op, .int .i64 a] 62)
  have HW2 : Hid (w2 = (w.alloc (.cells #[.slice bs ns cs, .slice bh nh ch, .slice bu nu cu, .int .i64 m] 26)).alloc (.cells #[.int .i64 op, .int .i64 a] 62)) := hw2
  have HB2 : Hid (Below w.heap.size w w2) := hb2
  have HF : Hid (∀ W, Below w2.heap.size w2 W → (W.cell? ⟨w.heap.size, 0, none⟩ = some (.slice bs ns cs) ∧ W.cell? ⟨w.heap.size, 1, none⟩ = some (.slice bh nh ch) ∧ W.cell? ⟨w.heap.size, 2, none⟩ = some (.slice bu nu cu) ∧ W.cell? ⟨w.heap.size, 3, none⟩ = some (.int .i64 m)) ∧ W.cell? ⟨w.heap.size + 1, 0, none⟩ = some (.int .i64 op) ∧ W.cell? ⟨w.heap.size + 1, 1, none⟩ = some (.int .i64 a)) := fun W hW => by
    have hz := HZ2.out
    exact ⟨bcells4 ((hW.block w.heap.size (by omega)).trans h0), bcells2 ((hW.block (w.heap.size + 1) (by omega)).trans h1)⟩
  obtain ⟨E, hE⟩ : ∃ E, E = effR c ⟨op, a⟩ := ⟨_, rfl⟩
  rw [← hE]
  have HEE : Hid (E = effR c ⟨n, a⟩) := by rw [hE, he]; exact rfl
  obtain ⟨s, hs⟩ : ∃ s, s = nmR op := ⟨_, rfl⟩
  have HSN : Hid (s = (opsL[n]'HNL.out).1) := by
    show _ = _
    rw [hs, he]; exact nmR_at hn
  have cN := rfNm op w2
  rw [← hs] at cN
  have HR : Hid (opsL[n]? = some r) := hr
  have HSZ : Hid (w.heap.size + 1 < w2.heap.size) := by have hz := HZ2.out; show _ < _; omega
  clear hw2 hb2 h0 h1 HZ2 hE hs hn hr he
  go_enter Tryz.func71, Tryz.ntmps71
  go_wp2_with fail
  rw [← HW2.out]
  refine cN.mono ?_
  clear cN
  rintro e w4 ⟨rfl, hb4⟩
  have HB4 : Hid (Below w.heap.size w w4) := HB2.out.trans (hb4.mono HB2.out.size)
  have HSZ4 : Hid (w.heap.size + 1 < w4.heap.size) := Nat.lt_of_lt_of_le HSZ.out hb4.size
  obtain ⟨⟨c0, c1, c2, c3⟩, i0, i1⟩ := HF.out w4 hb4
  clear hb4
  by_cases e0 : n = 0
  · subst e0
    have q0 : (s == [109, 97, 114, 107]) = true := by rw [HSN.out]; rfl
    have HE : Hid (E = (0, 0)) := HEE.out.trans rfl
    clear HEE h6 h7 hsh hun
    go_wp2
    go_ret2
    rw [HE.out]
    exact ⟨rfl, HB4.out⟩
  by_cases e20 : n = 20
  · subst e20
    have q0 : (s == [109, 97, 114, 107]) = false := by rw [HSN.out]; exact nm_ne HNL.out (k := 0) (by decide) (by decide)
    have q20 : (s == [106, 117, 109, 112]) = true := by rw [HSN.out]; rfl
    have HE : Hid (E = (0, 0)) := HEE.out.trans rfl
    clear HEE h6 h7 hsh hun
    go_wp2
    go_ret2
    rw [HE.out]
    exact ⟨rfl, HB4.out⟩
  by_cases e1 : n = 1
  · subst e1
    have q0 : (s == [109, 97, 114, 107]) = false := by rw [HSN.out]; exact nm_ne HNL.out (k := 0) (by decide) (by decide)
    have q20 : (s == [106, 117, 109, 112]) = false := by rw [HSN.out]; exact nm_ne HNL.out (k := 20) (by decide) (by decide)
    have q1 : (s == [105, 110, 116]) = true := by rw [HSN.out]; rfl
    have HE : Hid (E = (0, 1)) := HEE.out.trans rfl
    clear HEE h6 h7 hsh hun
    go_wp2
    go_ret2
    rw [HE.out]
    exact ⟨rfl, HB4.out⟩
  by_cases e2 : n = 2
  · subst e2
    have q0 : (s == [109, 97, 114, 107]) = false := by rw [HSN.out]; exact nm_ne HNL.out (k := 0) (by decide) (by decide)
    have q20 : (s == [106, 117, 109, 112]) = false := by rw [HSN.out]; exact nm_ne HNL.out (k := 20) (by decide) (by decide)
    have q1 : (s == [105, 110, 116]) = false := by rw [HSN.out]; exact nm_ne HNL.out (k := 1) (by decide) (by decide)
    have q2 : (s == [98, 111, 111, 108]) = true := by rw [HSN.out]; rfl
    have HE : Hid (E = (0, 1)) := HEE.out.trans rfl
    clear HEE h6 h7 hsh hun
    go_wp2
    go_ret2
    rw [HE.out]
    exact ⟨rfl, HB4.out⟩
  by_cases e3 : n = 3
  · subst e3
    have q0 : (s == [109, 97, 114, 107]) = false := by rw [HSN.out]; exact nm_ne HNL.out (k := 0) (by decide) (by decide)
    have q20 : (s == [106, 117, 109, 112]) = false := by rw [HSN.out]; exact nm_ne HNL.out (k := 20) (by decide) (by decide)
    have q1 : (s == [105, 110, 116]) = false := by rw [HSN.out]; exact nm_ne HNL.out (k := 1) (by decide) (by decide)
    have q2 : (s == [98, 111, 111, 108]) = false := by rw [HSN.out]; exact nm_ne HNL.out (k := 2) (by decide) (by decide)
    have q3 : (s == [115, 116, 114]) = true := by rw [HSN.out]; rfl
    have HE : Hid (E = (0, 1)) := HEE.out.trans rfl
    clear HEE h6 h7 hsh hun
    go_wp2
    go_ret2
    rw [HE.out]
    exact ⟨rfl, HB4.out⟩
  by_cases e4 : n = 4
  · subst e4
    have q0 : (s == [109, 97, 114, 107]) = false := by rw [HSN.out]; exact nm_ne HNL.out (k := 0) (by decide) (by decide)
    have q20 : (s == [106, 117, 109, 112]) = false := by rw [HSN.out]; exact nm_ne HNL.out (k := 20) (by decide) (by decide)
    have q1 : (s == [105, 110, 116]) = false := by rw [HSN.out]; exact nm_ne HNL.out (k := 1) (by decide) (by decide)
    have q2 : (s == [98, 111, 111, 108]) = false := by rw [HSN.out]; exact nm_ne HNL.out (k := 2) (by decide) (by decide)
    have q3 : (s == [115, 116, 114]) = false := by rw [HSN.out]; exact nm_ne HNL.out (k := 3) (by decide) (by decide)
    have q4 : (s == [108, 111, 97, 100]) = true := by rw [HSN.out]; rfl
    have HE : Hid (E = (0, 1)) := HEE.out.trans rfl
    clear HEE h6 h7 hsh hun
    go_wp2
    go_ret2
    rw [HE.out]
    exact ⟨rfl, HB4.out⟩
  by_cases e33 : n = 33
  · subst e33
    have q0 : (s == [109, 97, 114, 107]) = false := by rw [HSN.out]; exact nm_ne HNL.out (k := 0) (by decide) (by decide)
    have q20 : (s == [106, 117, 109, 112]) = false := by rw [HSN.out]; exact nm_ne HNL.out (k := 20) (by decide) (by decide)
    have q1 : (s == [105, 110, 116]) = false := by rw [HSN.out]; exact nm_ne HNL.out (k := 1) (by decide) (by decide)
    have q2 : (s == [98, 111, 111, 108]) = false := by rw [HSN.out]; exact nm_ne HNL.out (k := 2) (by decide) (by decide)
    have q3 : (s == [115, 116, 114]) = false := by rw [HSN.out]; exact nm_ne HNL.out (k := 3) (by decide) (by decide)
    have q4 : (s == [108, 111, 97, 100]) = false := by rw [HSN.out]; exact nm_ne HNL.out (k := 4) (by decide) (by decide)
    have q33 : (s == [105, 110, 112, 117, 116]) = true := by rw [HSN.out]; rfl
    have HE : Hid (E = (0, 1)) := HEE.out.trans rfl
    clear HEE h6 h7 hsh hun
    go_wp2
    go_ret2
    rw [HE.out]
    exact ⟨rfl, HB4.out⟩
  by_cases e5 : n = 5
  · subst e5
    have q0 : (s == [109, 97, 114, 107]) = false := by rw [HSN.out]; exact nm_ne HNL.out (k := 0) (by decide) (by decide)
    have q20 : (s == [106, 117, 109, 112]) = false := by rw [HSN.out]; exact nm_ne HNL.out (k := 20) (by decide) (by decide)
    have q1 : (s == [105, 110, 116]) = false := by rw [HSN.out]; exact nm_ne HNL.out (k := 1) (by decide) (by decide)
    have q2 : (s == [98, 111, 111, 108]) = false := by rw [HSN.out]; exact nm_ne HNL.out (k := 2) (by decide) (by decide)
    have q3 : (s == [115, 116, 114]) = false := by rw [HSN.out]; exact nm_ne HNL.out (k := 3) (by decide) (by decide)
    have q4 : (s == [108, 111, 97, 100]) = false := by rw [HSN.out]; exact nm_ne HNL.out (k := 4) (by decide) (by decide)
    have q33 : (s == [105, 110, 112, 117, 116]) = false := by rw [HSN.out]; exact nm_ne HNL.out (k := 33) (by decide) (by decide)
    have q5 : (s == [115, 116, 111, 114, 101]) = true := by rw [HSN.out]; rfl
    have HE : Hid (E = (1, 0)) := HEE.out.trans rfl
    clear HEE h6 h7 hsh hun
    go_wp2
    go_ret2
    rw [HE.out]
    exact ⟨rfl, HB4.out⟩
  by_cases e6 : n = 6
  · subst e6
    have q0 : (s == [109, 97, 114, 107]) = false := by rw [HSN.out]; exact nm_ne HNL.out (k := 0) (by decide) (by decide)
    have q20 : (s == [106, 117, 109, 112]) = false := by rw [HSN.out]; exact nm_ne HNL.out (k := 20) (by decide) (by decide)
    have q1 : (s == [105, 110, 116]) = false := by rw [HSN.out]; exact nm_ne HNL.out (k := 1) (by decide) (by decide)
    have q2 : (s == [98, 111, 111, 108]) = false := by rw [HSN.out]; exact nm_ne HNL.out (k := 2) (by decide) (by decide)
    have q3 : (s == [115, 116, 114]) = false := by rw [HSN.out]; exact nm_ne HNL.out (k := 3) (by decide) (by decide)
    have q4 : (s == [108, 111, 97, 100]) = false := by rw [HSN.out]; exact nm_ne HNL.out (k := 4) (by decide) (by decide)
    have q33 : (s == [105, 110, 112, 117, 116]) = false := by rw [HSN.out]; exact nm_ne HNL.out (k := 33) (by decide) (by decide)
    have q5 : (s == [115, 116, 111, 114, 101]) = false := by rw [HSN.out]; exact nm_ne HNL.out (k := 5) (by decide) (by decide)
    have q6 : (s == [112, 111, 112]) = true := by rw [HSN.out]; rfl
    have HE : Hid (E = (1, 0)) := HEE.out.trans rfl
    clear HEE h6 h7 hsh hun
    go_wp2
    go_ret2
    rw [HE.out]
    exact ⟨rfl, HB4.out⟩
  by_cases e21 : n = 21
  · subst e21
    have q0 : (s == [109, 97, 114, 107]) = false := by rw [HSN.out]; exact nm_ne HNL.out (k := 0) (by decide) (by decide)
    have q20 : (s == [106, 117, 109, 112]) = false := by rw [HSN.out]; exact nm_ne HNL.out (k := 20) (by decide) (by decide)
    have q1 : (s == [105, 110, 116]) = false := by rw [HSN.out]; exact nm_ne HNL.out (k := 1) (by decide) (by decide)
    have q2 : (s == [98, 111, 111, 108]) = false := by rw [HSN.out]; exact nm_ne HNL.out (k := 2) (by decide) (by decide)
    have q3 : (s == [115, 116, 114]) = false := by rw [HSN.out]; exact nm_ne HNL.out (k := 3) (by decide) (by decide)
    have q4 : (s == [108, 111, 97, 100]) = false := by rw [HSN.out]; exact nm_ne HNL.out (k := 4) (by decide) (by decide)
    have q33 : (s == [105, 110, 112, 117, 116]) = false := by rw [HSN.out]; exact nm_ne HNL.out (k := 33) (by decide) (by decide)
    have q5 : (s == [115, 116, 111, 114, 101]) = false := by rw [HSN.out]; exact nm_ne HNL.out (k := 5) (by decide) (by decide)
    have q6 : (s == [112, 111, 112]) = false := by rw [HSN.out]; exact nm_ne HNL.out (k := 6) (by decide) (by decide)
    have q21 : (s == [117, 110, 108, 101, 115, 115]) = true := by rw [HSN.out]; rfl
    have HE : Hid (E = (1, 0)) := HEE.out.trans rfl
    clear HEE h6 h7 hsh hun
    go_wp2
    go_ret2
    rw [HE.out]
    exact ⟨rfl, HB4.out⟩
  by_cases e12 : n = 12
  · subst e12
    have q0 : (s == [109, 97, 114, 107]) = false := by rw [HSN.out]; exact nm_ne HNL.out (k := 0) (by decide) (by decide)
    have q20 : (s == [106, 117, 109, 112]) = false := by rw [HSN.out]; exact nm_ne HNL.out (k := 20) (by decide) (by decide)
    have q1 : (s == [105, 110, 116]) = false := by rw [HSN.out]; exact nm_ne HNL.out (k := 1) (by decide) (by decide)
    have q2 : (s == [98, 111, 111, 108]) = false := by rw [HSN.out]; exact nm_ne HNL.out (k := 2) (by decide) (by decide)
    have q3 : (s == [115, 116, 114]) = false := by rw [HSN.out]; exact nm_ne HNL.out (k := 3) (by decide) (by decide)
    have q4 : (s == [108, 111, 97, 100]) = false := by rw [HSN.out]; exact nm_ne HNL.out (k := 4) (by decide) (by decide)
    have q33 : (s == [105, 110, 112, 117, 116]) = false := by rw [HSN.out]; exact nm_ne HNL.out (k := 33) (by decide) (by decide)
    have q5 : (s == [115, 116, 111, 114, 101]) = false := by rw [HSN.out]; exact nm_ne HNL.out (k := 5) (by decide) (by decide)
    have q6 : (s == [112, 111, 112]) = false := by rw [HSN.out]; exact nm_ne HNL.out (k := 6) (by decide) (by decide)
    have q21 : (s == [117, 110, 108, 101, 115, 115]) = false := by rw [HSN.out]; exact nm_ne HNL.out (k := 21) (by decide) (by decide)
    have q12 : (s == [110, 101, 103]) = true := by rw [HSN.out]; rfl
    have HE : Hid (E = (1, 1)) := HEE.out.trans rfl
    clear HEE h6 h7 hsh hun
    go_wp2
    go_ret2
    rw [HE.out]
    exact ⟨rfl, HB4.out⟩
  by_cases e13 : n = 13
  · subst e13
    have q0 : (s == [109, 97, 114, 107]) = false := by rw [HSN.out]; exact nm_ne HNL.out (k := 0) (by decide) (by decide)
    have q20 : (s == [106, 117, 109, 112]) = false := by rw [HSN.out]; exact nm_ne HNL.out (k := 20) (by decide) (by decide)
    have q1 : (s == [105, 110, 116]) = false := by rw [HSN.out]; exact nm_ne HNL.out (k := 1) (by decide) (by decide)
    have q2 : (s == [98, 111, 111, 108]) = false := by rw [HSN.out]; exact nm_ne HNL.out (k := 2) (by decide) (by decide)
    have q3 : (s == [115, 116, 114]) = false := by rw [HSN.out]; exact nm_ne HNL.out (k := 3) (by decide) (by decide)
    have q4 : (s == [108, 111, 97, 100]) = false := by rw [HSN.out]; exact nm_ne HNL.out (k := 4) (by decide) (by decide)
    have q33 : (s == [105, 110, 112, 117, 116]) = false := by rw [HSN.out]; exact nm_ne HNL.out (k := 33) (by decide) (by decide)
    have q5 : (s == [115, 116, 111, 114, 101]) = false := by rw [HSN.out]; exact nm_ne HNL.out (k := 5) (by decide) (by decide)
    have q6 : (s == [112, 111, 112]) = false := by rw [HSN.out]; exact nm_ne HNL.out (k := 6) (by decide) (by decide)
    have q21 : (s == [117, 110, 108, 101, 115, 115]) = false := by rw [HSN.out]; exact nm_ne HNL.out (k := 21) (by decide) (by decide)
    have q12 : (s == [110, 101, 103]) = false := by rw [HSN.out]; exact nm_ne HNL.out (k := 12) (by decide) (by decide)
    have q13 : (s == [110, 111, 116]) = true := by rw [HSN.out]; rfl
    have HE : Hid (E = (1, 1)) := HEE.out.trans rfl
    clear HEE h6 h7 hsh hun
    go_wp2
    go_ret2
    rw [HE.out]
    exact ⟨rfl, HB4.out⟩
  by_cases e28 : n = 28
  · subst e28
    have q0 : (s == [109, 97, 114, 107]) = false := by rw [HSN.out]; exact nm_ne HNL.out (k := 0) (by decide) (by decide)
    have q20 : (s == [106, 117, 109, 112]) = false := by rw [HSN.out]; exact nm_ne HNL.out (k := 20) (by decide) (by decide)
    have q1 : (s == [105, 110, 116]) = false := by rw [HSN.out]; exact nm_ne HNL.out (k := 1) (by decide) (by decide)
    have q2 : (s == [98, 111, 111, 108]) = false := by rw [HSN.out]; exact nm_ne HNL.out (k := 2) (by decide) (by decide)
    have q3 : (s == [115, 116, 114]) = false := by rw [HSN.out]; exact nm_ne HNL.out (k := 3) (by decide) (by decide)
    have q4 : (s == [108, 111, 97, 100]) = false := by rw [HSN.out]; exact nm_ne HNL.out (k := 4) (by decide) (by decide)
    have q33 : (s == [105, 110, 112, 117, 116]) = false := by rw [HSN.out]; exact nm_ne HNL.out (k := 33) (by decide) (by decide)
    have q5 : (s == [115, 116, 111, 114, 101]) = false := by rw [HSN.out]; exact nm_ne HNL.out (k := 5) (by decide) (by decide)
    have q6 : (s == [112, 111, 112]) = false := by rw [HSN.out]; exact nm_ne HNL.out (k := 6) (by decide) (by decide)
    have q21 : (s == [117, 110, 108, 101, 115, 115]) = false := by rw [HSN.out]; exact nm_ne HNL.out (k := 21) (by decide) (by decide)
    have q12 : (s == [110, 101, 103]) = false := by rw [HSN.out]; exact nm_ne HNL.out (k := 12) (by decide) (by decide)
    have q13 : (s == [110, 111, 116]) = false := by rw [HSN.out]; exact nm_ne HNL.out (k := 13) (by decide) (by decide)
    have q28 : (s == [102, 105, 101, 108, 100]) = true := by rw [HSN.out]; rfl
    have HE : Hid (E = (1, 1)) := HEE.out.trans rfl
    clear HEE h6 h7 hsh hun
    go_wp2
    go_ret2
    rw [HE.out]
    exact ⟨rfl, HB4.out⟩
  by_cases e30 : n = 30
  · subst e30
    have q0 : (s == [109, 97, 114, 107]) = false := by rw [HSN.out]; exact nm_ne HNL.out (k := 0) (by decide) (by decide)
    have q20 : (s == [106, 117, 109, 112]) = false := by rw [HSN.out]; exact nm_ne HNL.out (k := 20) (by decide) (by decide)
    have q1 : (s == [105, 110, 116]) = false := by rw [HSN.out]; exact nm_ne HNL.out (k := 1) (by decide) (by decide)
    have q2 : (s == [98, 111, 111, 108]) = false := by rw [HSN.out]; exact nm_ne HNL.out (k := 2) (by decide) (by decide)
    have q3 : (s == [115, 116, 114]) = false := by rw [HSN.out]; exact nm_ne HNL.out (k := 3) (by decide) (by decide)
    have q4 : (s == [108, 111, 97, 100]) = false := by rw [HSN.out]; exact nm_ne HNL.out (k := 4) (by decide) (by decide)
    have q33 : (s == [105, 110, 112, 117, 116]) = false := by rw [HSN.out]; exact nm_ne HNL.out (k := 33) (by decide) (by decide)
    have q5 : (s == [115, 116, 111, 114, 101]) = false := by rw [HSN.out]; exact nm_ne HNL.out (k := 5) (by decide) (by decide)
    have q6 : (s == [112, 111, 112]) = false := by rw [HSN.out]; exact nm_ne HNL.out (k := 6) (by decide) (by decide)
    have q21 : (s == [117, 110, 108, 101, 115, 115]) = false := by rw [HSN.out]; exact nm_ne HNL.out (k := 21) (by decide) (by decide)
    have q12 : (s == [110, 101, 103]) = false := by rw [HSN.out]; exact nm_ne HNL.out (k := 12) (by decide) (by decide)
    have q13 : (s == [110, 111, 116]) = false := by rw [HSN.out]; exact nm_ne HNL.out (k := 13) (by decide) (by decide)
    have q28 : (s == [102, 105, 101, 108, 100]) = false := by rw [HSN.out]; exact nm_ne HNL.out (k := 28) (by decide) (by decide)
    have q30 : (s == [108, 101, 110]) = true := by rw [HSN.out]; rfl
    have HE : Hid (E = (1, 1)) := HEE.out.trans rfl
    clear HEE h6 h7 hsh hun
    go_wp2
    go_ret2
    rw [HE.out]
    exact ⟨rfl, HB4.out⟩
  by_cases e31 : n = 31
  · subst e31
    have q0 : (s == [109, 97, 114, 107]) = false := by rw [HSN.out]; exact nm_ne HNL.out (k := 0) (by decide) (by decide)
    have q20 : (s == [106, 117, 109, 112]) = false := by rw [HSN.out]; exact nm_ne HNL.out (k := 20) (by decide) (by decide)
    have q1 : (s == [105, 110, 116]) = false := by rw [HSN.out]; exact nm_ne HNL.out (k := 1) (by decide) (by decide)
    have q2 : (s == [98, 111, 111, 108]) = false := by rw [HSN.out]; exact nm_ne HNL.out (k := 2) (by decide) (by decide)
    have q3 : (s == [115, 116, 114]) = false := by rw [HSN.out]; exact nm_ne HNL.out (k := 3) (by decide) (by decide)
    have q4 : (s == [108, 111, 97, 100]) = false := by rw [HSN.out]; exact nm_ne HNL.out (k := 4) (by decide) (by decide)
    have q33 : (s == [105, 110, 112, 117, 116]) = false := by rw [HSN.out]; exact nm_ne HNL.out (k := 33) (by decide) (by decide)
    have q5 : (s == [115, 116, 111, 114, 101]) = false := by rw [HSN.out]; exact nm_ne HNL.out (k := 5) (by decide) (by decide)
    have q6 : (s == [112, 111, 112]) = false := by rw [HSN.out]; exact nm_ne HNL.out (k := 6) (by decide) (by decide)
    have q21 : (s == [117, 110, 108, 101, 115, 115]) = false := by rw [HSN.out]; exact nm_ne HNL.out (k := 21) (by decide) (by decide)
    have q12 : (s == [110, 101, 103]) = false := by rw [HSN.out]; exact nm_ne HNL.out (k := 12) (by decide) (by decide)
    have q13 : (s == [110, 111, 116]) = false := by rw [HSN.out]; exact nm_ne HNL.out (k := 13) (by decide) (by decide)
    have q28 : (s == [102, 105, 101, 108, 100]) = false := by rw [HSN.out]; exact nm_ne HNL.out (k := 28) (by decide) (by decide)
    have q30 : (s == [108, 101, 110]) = false := by rw [HSN.out]; exact nm_ne HNL.out (k := 30) (by decide) (by decide)
    have q31 : (s == [115, 104, 111, 119]) = true := by rw [HSN.out]; rfl
    have HE : Hid (E = (1, 1)) := HEE.out.trans rfl
    clear HEE h6 h7 hsh hun
    go_wp2
    go_ret2
    rw [HE.out]
    exact ⟨rfl, HB4.out⟩
  by_cases e22 : n = 22
  · subst e22
    have q0 : (s == [109, 97, 114, 107]) = false := by rw [HSN.out]; exact nm_ne HNL.out (k := 0) (by decide) (by decide)
    have q20 : (s == [106, 117, 109, 112]) = false := by rw [HSN.out]; exact nm_ne HNL.out (k := 20) (by decide) (by decide)
    have q1 : (s == [105, 110, 116]) = false := by rw [HSN.out]; exact nm_ne HNL.out (k := 1) (by decide) (by decide)
    have q2 : (s == [98, 111, 111, 108]) = false := by rw [HSN.out]; exact nm_ne HNL.out (k := 2) (by decide) (by decide)
    have q3 : (s == [115, 116, 114]) = false := by rw [HSN.out]; exact nm_ne HNL.out (k := 3) (by decide) (by decide)
    have q4 : (s == [108, 111, 97, 100]) = false := by rw [HSN.out]; exact nm_ne HNL.out (k := 4) (by decide) (by decide)
    have q33 : (s == [105, 110, 112, 117, 116]) = false := by rw [HSN.out]; exact nm_ne HNL.out (k := 33) (by decide) (by decide)
    have q5 : (s == [115, 116, 111, 114, 101]) = false := by rw [HSN.out]; exact nm_ne HNL.out (k := 5) (by decide) (by decide)
    have q6 : (s == [112, 111, 112]) = false := by rw [HSN.out]; exact nm_ne HNL.out (k := 6) (by decide) (by decide)
    have q21 : (s == [117, 110, 108, 101, 115, 115]) = false := by rw [HSN.out]; exact nm_ne HNL.out (k := 21) (by decide) (by decide)
    have q12 : (s == [110, 101, 103]) = false := by rw [HSN.out]; exact nm_ne HNL.out (k := 12) (by decide) (by decide)
    have q13 : (s == [110, 111, 116]) = false := by rw [HSN.out]; exact nm_ne HNL.out (k := 13) (by decide) (by decide)
    have q28 : (s == [102, 105, 101, 108, 100]) = false := by rw [HSN.out]; exact nm_ne HNL.out (k := 28) (by decide) (by decide)
    have q30 : (s == [108, 101, 110]) = false := by rw [HSN.out]; exact nm_ne HNL.out (k := 30) (by decide) (by decide)
    have q31 : (s == [115, 104, 111, 119]) = false := by rw [HSN.out]; exact nm_ne HNL.out (k := 31) (by decide) (by decide)
    have q22 : (s == [99, 97, 108, 108]) = true := by rw [HSN.out]; rfl
    have hr6 : r.2.1 = 6 := by have h9 := HR.out; cases h9; rfl
    obtain ⟨ha0, ha1⟩ := h6 hr6
    obtain ⟨i, rfl⟩ : ∃ i : Nat, a = i := ⟨a.toNat, by omega⟩
    have hi : i < c.units.length := by omega
    have HEC : Hid (E = (c.units[i].params, oneR c.units[i].result)) := by
      show _ = _
      rw [HEE.out, effR_of (n := 22) rfl, if_pos rfl, Int.toNat_natCast, List.getElem?_eq_getElem hi]
    obtain ⟨base, cap, hv, hc1, -, hat⟩ := hun.at
    cases hv
    obtain ⟨b, off, rfl, -, hbl, hc⟩ := hat i hi
    obtain ⟨f0, f1, f2, f3, f4, -, -⟩ := hc
    obtain ⟨pr, hpr⟩ : ∃ p, p = c.units[i].params := ⟨_, rfl⟩
    obtain ⟨rs, hrs⟩ : ∃ p, p = c.units[i].result := ⟨_, rfl⟩
    rw [← hpr] at f1 HEC
    rw [← hrs] at f4 HEC
    have hcc : ∀ q, w4.cell? ⟨b, q, none⟩ = w.cell? ⟨b, q, none⟩ := fun q => below_cell HB4.out hbl
    rw [← hcc] at f1 f4
    have hbl4 : b < w4.heap.size := Nat.lt_of_lt_of_le hbl HB4.out.size
    have hsz := HSZ4.out
    have hcap3 : (i : Int) < c.units.length := by omega
    have x0 := cls_cell (n := w4.heap.size) c2 (by simp only; omega)
    have x1 := cls_cell (n := w4.heap.size) i1 (by simp only; omega)
    have x2 := cls_cell (n := w4.heap.size) f1 (by simp only; omega)
    have x3 := cls_cell (n := w4.heap.size) f4 (by simp only; omega)
    obtain ⟨R, hR⟩ : ∃ R, R = oneR rs := ⟨_, rfl⟩
    rw [← hR] at HEC
    have HC : Hid (∀ W, Below w4.heap.size w4 W → Calls Tryz.prog 119 #[.bool rs] W fun e w' => e = .returned (.int .i64 R) ∧ Below w4.heap.size w4 w') := fun W hW => by
      rw [hR]
      exact (rfOne rs W).mono fun e w' ⟨he, hb⟩ => ⟨he, hW.trans (hb.mono hW.size)⟩
    clear hsh hun h6 h7 hat hpr hrs hR hcc f0 f1 f2 f3 f4 hc1 hi ha0 ha1 HEE c0 c1 c2 c3 i0 i1 hr6 hsz
    go_upto_region 22 with fail
    refine wp_region_cls (n := w4.heap.size) (w0 := w4) (Below.refl _ _) (by kernel_rfl) (by kernel_rfl) ?_
    iterate 14 (go_big_quiet_step (fail))
    go_big_quiet_step (exact cls_calls HC.out _)
    iterate 2 (go_big_quiet_step (fail))
    refine wpQuiet_nil ?_
    rintro _ ⟨cc, rfl⟩
    obtain ⟨w5, hb5⟩ := cc
    dsimp only
    have HB5 : Hid (Below w.heap.size w w5) := HB4.out.trans (hb5.mono HB4.out.size)
    clear hb5 x0 x1 x2 x3
    go_wp2
    go_ret2
    rw [HEC.out]
    exact ⟨rfl, HB5.out⟩
  by_cases e23 : n = 23
  · subst e23
    have q0 : (s == [109, 97, 114, 107]) = false := by rw [HSN.out]; exact nm_ne HNL.out (k := 0) (by decide) (by decide)
    have q20 : (s == [106, 117, 109, 112]) = false := by rw [HSN.out]; exact nm_ne HNL.out (k := 20) (by decide) (by decide)
    have q1 : (s == [105, 110, 116]) = false := by rw [HSN.out]; exact nm_ne HNL.out (k := 1) (by decide) (by decide)
    have q2 : (s == [98, 111, 111, 108]) = false := by rw [HSN.out]; exact nm_ne HNL.out (k := 2) (by decide) (by decide)
    have q3 : (s == [115, 116, 114]) = false := by rw [HSN.out]; exact nm_ne HNL.out (k := 3) (by decide) (by decide)
    have q4 : (s == [108, 111, 97, 100]) = false := by rw [HSN.out]; exact nm_ne HNL.out (k := 4) (by decide) (by decide)
    have q33 : (s == [105, 110, 112, 117, 116]) = false := by rw [HSN.out]; exact nm_ne HNL.out (k := 33) (by decide) (by decide)
    have q5 : (s == [115, 116, 111, 114, 101]) = false := by rw [HSN.out]; exact nm_ne HNL.out (k := 5) (by decide) (by decide)
    have q6 : (s == [112, 111, 112]) = false := by rw [HSN.out]; exact nm_ne HNL.out (k := 6) (by decide) (by decide)
    have q21 : (s == [117, 110, 108, 101, 115, 115]) = false := by rw [HSN.out]; exact nm_ne HNL.out (k := 21) (by decide) (by decide)
    have q12 : (s == [110, 101, 103]) = false := by rw [HSN.out]; exact nm_ne HNL.out (k := 12) (by decide) (by decide)
    have q13 : (s == [110, 111, 116]) = false := by rw [HSN.out]; exact nm_ne HNL.out (k := 13) (by decide) (by decide)
    have q28 : (s == [102, 105, 101, 108, 100]) = false := by rw [HSN.out]; exact nm_ne HNL.out (k := 28) (by decide) (by decide)
    have q30 : (s == [108, 101, 110]) = false := by rw [HSN.out]; exact nm_ne HNL.out (k := 30) (by decide) (by decide)
    have q31 : (s == [115, 104, 111, 119]) = false := by rw [HSN.out]; exact nm_ne HNL.out (k := 31) (by decide) (by decide)
    have q22 : (s == [99, 97, 108, 108]) = false := by rw [HSN.out]; exact nm_ne HNL.out (k := 22) (by decide) (by decide)
    have q23 : (s == [114, 101, 116, 117, 114, 110]) = true := by rw [HSN.out]; rfl
    have HE : Hid (E = (a, 0)) := HEE.out.trans rfl
    clear HEE h6 h7 hsh hun
    go_wp2
    go_ret2
    rw [HE.out]
    exact ⟨rfl, HB4.out⟩
  by_cases e34 : n = 34
  · subst e34
    have q0 : (s == [109, 97, 114, 107]) = false := by rw [HSN.out]; exact nm_ne HNL.out (k := 0) (by decide) (by decide)
    have q20 : (s == [106, 117, 109, 112]) = false := by rw [HSN.out]; exact nm_ne HNL.out (k := 20) (by decide) (by decide)
    have q1 : (s == [105, 110, 116]) = false := by rw [HSN.out]; exact nm_ne HNL.out (k := 1) (by decide) (by decide)
    have q2 : (s == [98, 111, 111, 108]) = false := by rw [HSN.out]; exact nm_ne HNL.out (k := 2) (by decide) (by decide)
    have q3 : (s == [115, 116, 114]) = false := by rw [HSN.out]; exact nm_ne HNL.out (k := 3) (by decide) (by decide)
    have q4 : (s == [108, 111, 97, 100]) = false := by rw [HSN.out]; exact nm_ne HNL.out (k := 4) (by decide) (by decide)
    have q33 : (s == [105, 110, 112, 117, 116]) = false := by rw [HSN.out]; exact nm_ne HNL.out (k := 33) (by decide) (by decide)
    have q5 : (s == [115, 116, 111, 114, 101]) = false := by rw [HSN.out]; exact nm_ne HNL.out (k := 5) (by decide) (by decide)
    have q6 : (s == [112, 111, 112]) = false := by rw [HSN.out]; exact nm_ne HNL.out (k := 6) (by decide) (by decide)
    have q21 : (s == [117, 110, 108, 101, 115, 115]) = false := by rw [HSN.out]; exact nm_ne HNL.out (k := 21) (by decide) (by decide)
    have q12 : (s == [110, 101, 103]) = false := by rw [HSN.out]; exact nm_ne HNL.out (k := 12) (by decide) (by decide)
    have q13 : (s == [110, 111, 116]) = false := by rw [HSN.out]; exact nm_ne HNL.out (k := 13) (by decide) (by decide)
    have q28 : (s == [102, 105, 101, 108, 100]) = false := by rw [HSN.out]; exact nm_ne HNL.out (k := 28) (by decide) (by decide)
    have q30 : (s == [108, 101, 110]) = false := by rw [HSN.out]; exact nm_ne HNL.out (k := 30) (by decide) (by decide)
    have q31 : (s == [115, 104, 111, 119]) = false := by rw [HSN.out]; exact nm_ne HNL.out (k := 31) (by decide) (by decide)
    have q22 : (s == [99, 97, 108, 108]) = false := by rw [HSN.out]; exact nm_ne HNL.out (k := 22) (by decide) (by decide)
    have q23 : (s == [114, 101, 116, 117, 114, 110]) = false := by rw [HSN.out]; exact nm_ne HNL.out (k := 23) (by decide) (by decide)
    have q34 : (s == [112, 114, 105, 110, 116]) = true := by rw [HSN.out]; rfl
    have HE : Hid (E = (a, 0)) := HEE.out.trans rfl
    clear HEE h6 h7 hsh hun
    go_wp2
    go_ret2
    rw [HE.out]
    exact ⟨rfl, HB4.out⟩
  by_cases e24 : n = 24
  · subst e24
    have q0 : (s == [109, 97, 114, 107]) = false := by rw [HSN.out]; exact nm_ne HNL.out (k := 0) (by decide) (by decide)
    have q20 : (s == [106, 117, 109, 112]) = false := by rw [HSN.out]; exact nm_ne HNL.out (k := 20) (by decide) (by decide)
    have q1 : (s == [105, 110, 116]) = false := by rw [HSN.out]; exact nm_ne HNL.out (k := 1) (by decide) (by decide)
    have q2 : (s == [98, 111, 111, 108]) = false := by rw [HSN.out]; exact nm_ne HNL.out (k := 2) (by decide) (by decide)
    have q3 : (s == [115, 116, 114]) = false := by rw [HSN.out]; exact nm_ne HNL.out (k := 3) (by decide) (by decide)
    have q4 : (s == [108, 111, 97, 100]) = false := by rw [HSN.out]; exact nm_ne HNL.out (k := 4) (by decide) (by decide)
    have q33 : (s == [105, 110, 112, 117, 116]) = false := by rw [HSN.out]; exact nm_ne HNL.out (k := 33) (by decide) (by decide)
    have q5 : (s == [115, 116, 111, 114, 101]) = false := by rw [HSN.out]; exact nm_ne HNL.out (k := 5) (by decide) (by decide)
    have q6 : (s == [112, 111, 112]) = false := by rw [HSN.out]; exact nm_ne HNL.out (k := 6) (by decide) (by decide)
    have q21 : (s == [117, 110, 108, 101, 115, 115]) = false := by rw [HSN.out]; exact nm_ne HNL.out (k := 21) (by decide) (by decide)
    have q12 : (s == [110, 101, 103]) = false := by rw [HSN.out]; exact nm_ne HNL.out (k := 12) (by decide) (by decide)
    have q13 : (s == [110, 111, 116]) = false := by rw [HSN.out]; exact nm_ne HNL.out (k := 13) (by decide) (by decide)
    have q28 : (s == [102, 105, 101, 108, 100]) = false := by rw [HSN.out]; exact nm_ne HNL.out (k := 28) (by decide) (by decide)
    have q30 : (s == [108, 101, 110]) = false := by rw [HSN.out]; exact nm_ne HNL.out (k := 30) (by decide) (by decide)
    have q31 : (s == [115, 104, 111, 119]) = false := by rw [HSN.out]; exact nm_ne HNL.out (k := 31) (by decide) (by decide)
    have q22 : (s == [99, 97, 108, 108]) = false := by rw [HSN.out]; exact nm_ne HNL.out (k := 22) (by decide) (by decide)
    have q23 : (s == [114, 101, 116, 117, 114, 110]) = false := by rw [HSN.out]; exact nm_ne HNL.out (k := 23) (by decide) (by decide)
    have q34 : (s == [112, 114, 105, 110, 116]) = false := by rw [HSN.out]; exact nm_ne HNL.out (k := 34) (by decide) (by decide)
    have q24 : (s == [97, 114, 114, 97, 121]) = true := by rw [HSN.out]; rfl
    have HE : Hid (E = (a, 1)) := HEE.out.trans rfl
    clear HEE h6 h7 hsh hun
    go_wp2
    go_ret2
    rw [HE.out]
    exact ⟨rfl, HB4.out⟩
  by_cases e25 : n = 25
  · subst e25
    have q0 : (s == [109, 97, 114, 107]) = false := by rw [HSN.out]; exact nm_ne HNL.out (k := 0) (by decide) (by decide)
    have q20 : (s == [106, 117, 109, 112]) = false := by rw [HSN.out]; exact nm_ne HNL.out (k := 20) (by decide) (by decide)
    have q1 : (s == [105, 110, 116]) = false := by rw [HSN.out]; exact nm_ne HNL.out (k := 1) (by decide) (by decide)
    have q2 : (s == [98, 111, 111, 108]) = false := by rw [HSN.out]; exact nm_ne HNL.out (k := 2) (by decide) (by decide)
    have q3 : (s == [115, 116, 114]) = false := by rw [HSN.out]; exact nm_ne HNL.out (k := 3) (by decide) (by decide)
    have q4 : (s == [108, 111, 97, 100]) = false := by rw [HSN.out]; exact nm_ne HNL.out (k := 4) (by decide) (by decide)
    have q33 : (s == [105, 110, 112, 117, 116]) = false := by rw [HSN.out]; exact nm_ne HNL.out (k := 33) (by decide) (by decide)
    have q5 : (s == [115, 116, 111, 114, 101]) = false := by rw [HSN.out]; exact nm_ne HNL.out (k := 5) (by decide) (by decide)
    have q6 : (s == [112, 111, 112]) = false := by rw [HSN.out]; exact nm_ne HNL.out (k := 6) (by decide) (by decide)
    have q21 : (s == [117, 110, 108, 101, 115, 115]) = false := by rw [HSN.out]; exact nm_ne HNL.out (k := 21) (by decide) (by decide)
    have q12 : (s == [110, 101, 103]) = false := by rw [HSN.out]; exact nm_ne HNL.out (k := 12) (by decide) (by decide)
    have q13 : (s == [110, 111, 116]) = false := by rw [HSN.out]; exact nm_ne HNL.out (k := 13) (by decide) (by decide)
    have q28 : (s == [102, 105, 101, 108, 100]) = false := by rw [HSN.out]; exact nm_ne HNL.out (k := 28) (by decide) (by decide)
    have q30 : (s == [108, 101, 110]) = false := by rw [HSN.out]; exact nm_ne HNL.out (k := 30) (by decide) (by decide)
    have q31 : (s == [115, 104, 111, 119]) = false := by rw [HSN.out]; exact nm_ne HNL.out (k := 31) (by decide) (by decide)
    have q22 : (s == [99, 97, 108, 108]) = false := by rw [HSN.out]; exact nm_ne HNL.out (k := 22) (by decide) (by decide)
    have q23 : (s == [114, 101, 116, 117, 114, 110]) = false := by rw [HSN.out]; exact nm_ne HNL.out (k := 23) (by decide) (by decide)
    have q34 : (s == [112, 114, 105, 110, 116]) = false := by rw [HSN.out]; exact nm_ne HNL.out (k := 34) (by decide) (by decide)
    have q24 : (s == [97, 114, 114, 97, 121]) = false := by rw [HSN.out]; exact nm_ne HNL.out (k := 24) (by decide) (by decide)
    have q25 : (s == [110, 101, 119]) = true := by rw [HSN.out]; rfl
    have hr7 : r.2.1 = 7 := by have h9 := HR.out; cases h9; rfl
    obtain ⟨ha0, ha1⟩ := h7 hr7
    obtain ⟨i, rfl⟩ : ∃ i : Nat, a = i := ⟨a.toNat, by omega⟩
    have hi : i < c.shapes.length := by omega
    have HEC : Hid (E = ((c.shapes[i].fields.length : Int), 1)) := by
      show _ = _
      rw [HEE.out, effR_of (n := 25) rfl, if_neg (by decide), if_pos rfl, Int.toNat_natCast, List.getElem?_eq_getElem hi]
    obtain ⟨base, cap, hv, hc1, -, hat⟩ := hsh.at
    cases hv
    obtain ⟨b, off, rfl, -, hbl, hc⟩ := hat i hi
    obtain ⟨f0, vf, f1, hf⟩ := hc
    obtain ⟨bf, cf, rfl, -⟩ := hf.at
    obtain ⟨nf, hnf⟩ : ∃ n, n = c.shapes[i].fields.length := ⟨_, rfl⟩
    rw [← hnf] at f1 HEC
    have hcc : ∀ q, w4.cell? ⟨b, q, none⟩ = w.cell? ⟨b, q, none⟩ := fun q => below_cell HB4.out hbl
    rw [← hcc] at f1
    have hcap3 : (i : Int) < c.shapes.length := by omega
    clear hsh hun h6 h7 hat hf hnf hcc hc1 hi ha0 ha1 HEE f0 hr7
    go_wp2
    go_ret2
    rw [HEC.out]
    exact ⟨rfl, HB4.out⟩
  by_cases e27 : n = 27
  · subst e27
    have q0 : (s == [109, 97, 114, 107]) = false := by rw [HSN.out]; exact nm_ne HNL.out (k := 0) (by decide) (by decide)
    have q20 : (s == [106, 117, 109, 112]) = false := by rw [HSN.out]; exact nm_ne HNL.out (k := 20) (by decide) (by decide)
    have q1 : (s == [105, 110, 116]) = false := by rw [HSN.out]; exact nm_ne HNL.out (k := 1) (by decide) (by decide)
    have q2 : (s == [98, 111, 111, 108]) = false := by rw [HSN.out]; exact nm_ne HNL.out (k := 2) (by decide) (by decide)
    have q3 : (s == [115, 116, 114]) = false := by rw [HSN.out]; exact nm_ne HNL.out (k := 3) (by decide) (by decide)
    have q4 : (s == [108, 111, 97, 100]) = false := by rw [HSN.out]; exact nm_ne HNL.out (k := 4) (by decide) (by decide)
    have q33 : (s == [105, 110, 112, 117, 116]) = false := by rw [HSN.out]; exact nm_ne HNL.out (k := 33) (by decide) (by decide)
    have q5 : (s == [115, 116, 111, 114, 101]) = false := by rw [HSN.out]; exact nm_ne HNL.out (k := 5) (by decide) (by decide)
    have q6 : (s == [112, 111, 112]) = false := by rw [HSN.out]; exact nm_ne HNL.out (k := 6) (by decide) (by decide)
    have q21 : (s == [117, 110, 108, 101, 115, 115]) = false := by rw [HSN.out]; exact nm_ne HNL.out (k := 21) (by decide) (by decide)
    have q12 : (s == [110, 101, 103]) = false := by rw [HSN.out]; exact nm_ne HNL.out (k := 12) (by decide) (by decide)
    have q13 : (s == [110, 111, 116]) = false := by rw [HSN.out]; exact nm_ne HNL.out (k := 13) (by decide) (by decide)
    have q28 : (s == [102, 105, 101, 108, 100]) = false := by rw [HSN.out]; exact nm_ne HNL.out (k := 28) (by decide) (by decide)
    have q30 : (s == [108, 101, 110]) = false := by rw [HSN.out]; exact nm_ne HNL.out (k := 30) (by decide) (by decide)
    have q31 : (s == [115, 104, 111, 119]) = false := by rw [HSN.out]; exact nm_ne HNL.out (k := 31) (by decide) (by decide)
    have q22 : (s == [99, 97, 108, 108]) = false := by rw [HSN.out]; exact nm_ne HNL.out (k := 22) (by decide) (by decide)
    have q23 : (s == [114, 101, 116, 117, 114, 110]) = false := by rw [HSN.out]; exact nm_ne HNL.out (k := 23) (by decide) (by decide)
    have q34 : (s == [112, 114, 105, 110, 116]) = false := by rw [HSN.out]; exact nm_ne HNL.out (k := 34) (by decide) (by decide)
    have q24 : (s == [97, 114, 114, 97, 121]) = false := by rw [HSN.out]; exact nm_ne HNL.out (k := 24) (by decide) (by decide)
    have q25 : (s == [110, 101, 119]) = false := by rw [HSN.out]; exact nm_ne HNL.out (k := 25) (by decide) (by decide)
    have q27 : (s == [115, 101, 116, 105, 110, 100, 101, 120]) = true := by rw [HSN.out]; rfl
    have HE : Hid (E = (3, 0)) := HEE.out.trans rfl
    clear HEE h6 h7 hsh hun
    go_wp2
    go_ret2
    rw [HE.out]
    exact ⟨rfl, HB4.out⟩
  by_cases e29 : n = 29
  · subst e29
    have q0 : (s == [109, 97, 114, 107]) = false := by rw [HSN.out]; exact nm_ne HNL.out (k := 0) (by decide) (by decide)
    have q20 : (s == [106, 117, 109, 112]) = false := by rw [HSN.out]; exact nm_ne HNL.out (k := 20) (by decide) (by decide)
    have q1 : (s == [105, 110, 116]) = false := by rw [HSN.out]; exact nm_ne HNL.out (k := 1) (by decide) (by decide)
    have q2 : (s == [98, 111, 111, 108]) = false := by rw [HSN.out]; exact nm_ne HNL.out (k := 2) (by decide) (by decide)
    have q3 : (s == [115, 116, 114]) = false := by rw [HSN.out]; exact nm_ne HNL.out (k := 3) (by decide) (by decide)
    have q4 : (s == [108, 111, 97, 100]) = false := by rw [HSN.out]; exact nm_ne HNL.out (k := 4) (by decide) (by decide)
    have q33 : (s == [105, 110, 112, 117, 116]) = false := by rw [HSN.out]; exact nm_ne HNL.out (k := 33) (by decide) (by decide)
    have q5 : (s == [115, 116, 111, 114, 101]) = false := by rw [HSN.out]; exact nm_ne HNL.out (k := 5) (by decide) (by decide)
    have q6 : (s == [112, 111, 112]) = false := by rw [HSN.out]; exact nm_ne HNL.out (k := 6) (by decide) (by decide)
    have q21 : (s == [117, 110, 108, 101, 115, 115]) = false := by rw [HSN.out]; exact nm_ne HNL.out (k := 21) (by decide) (by decide)
    have q12 : (s == [110, 101, 103]) = false := by rw [HSN.out]; exact nm_ne HNL.out (k := 12) (by decide) (by decide)
    have q13 : (s == [110, 111, 116]) = false := by rw [HSN.out]; exact nm_ne HNL.out (k := 13) (by decide) (by decide)
    have q28 : (s == [102, 105, 101, 108, 100]) = false := by rw [HSN.out]; exact nm_ne HNL.out (k := 28) (by decide) (by decide)
    have q30 : (s == [108, 101, 110]) = false := by rw [HSN.out]; exact nm_ne HNL.out (k := 30) (by decide) (by decide)
    have q31 : (s == [115, 104, 111, 119]) = false := by rw [HSN.out]; exact nm_ne HNL.out (k := 31) (by decide) (by decide)
    have q22 : (s == [99, 97, 108, 108]) = false := by rw [HSN.out]; exact nm_ne HNL.out (k := 22) (by decide) (by decide)
    have q23 : (s == [114, 101, 116, 117, 114, 110]) = false := by rw [HSN.out]; exact nm_ne HNL.out (k := 23) (by decide) (by decide)
    have q34 : (s == [112, 114, 105, 110, 116]) = false := by rw [HSN.out]; exact nm_ne HNL.out (k := 34) (by decide) (by decide)
    have q24 : (s == [97, 114, 114, 97, 121]) = false := by rw [HSN.out]; exact nm_ne HNL.out (k := 24) (by decide) (by decide)
    have q25 : (s == [110, 101, 119]) = false := by rw [HSN.out]; exact nm_ne HNL.out (k := 25) (by decide) (by decide)
    have q27 : (s == [115, 101, 116, 105, 110, 100, 101, 120]) = false := by rw [HSN.out]; exact nm_ne HNL.out (k := 27) (by decide) (by decide)
    have q29 : (s == [115, 101, 116, 102, 105, 101, 108, 100]) = true := by rw [HSN.out]; rfl
    have HE : Hid (E = (2, 0)) := HEE.out.trans rfl
    clear HEE h6 h7 hsh hun
    go_wp2
    go_ret2
    rw [HE.out]
    exact ⟨rfl, HB4.out⟩
  have q0 : (s == [109, 97, 114, 107]) = false := by rw [HSN.out]; exact nm_ne HNL.out (k := 0) (by decide) e0
  have q20 : (s == [106, 117, 109, 112]) = false := by rw [HSN.out]; exact nm_ne HNL.out (k := 20) (by decide) e20
  have q1 : (s == [105, 110, 116]) = false := by rw [HSN.out]; exact nm_ne HNL.out (k := 1) (by decide) e1
  have q2 : (s == [98, 111, 111, 108]) = false := by rw [HSN.out]; exact nm_ne HNL.out (k := 2) (by decide) e2
  have q3 : (s == [115, 116, 114]) = false := by rw [HSN.out]; exact nm_ne HNL.out (k := 3) (by decide) e3
  have q4 : (s == [108, 111, 97, 100]) = false := by rw [HSN.out]; exact nm_ne HNL.out (k := 4) (by decide) e4
  have q33 : (s == [105, 110, 112, 117, 116]) = false := by rw [HSN.out]; exact nm_ne HNL.out (k := 33) (by decide) e33
  have q5 : (s == [115, 116, 111, 114, 101]) = false := by rw [HSN.out]; exact nm_ne HNL.out (k := 5) (by decide) e5
  have q6 : (s == [112, 111, 112]) = false := by rw [HSN.out]; exact nm_ne HNL.out (k := 6) (by decide) e6
  have q21 : (s == [117, 110, 108, 101, 115, 115]) = false := by rw [HSN.out]; exact nm_ne HNL.out (k := 21) (by decide) e21
  have q12 : (s == [110, 101, 103]) = false := by rw [HSN.out]; exact nm_ne HNL.out (k := 12) (by decide) e12
  have q13 : (s == [110, 111, 116]) = false := by rw [HSN.out]; exact nm_ne HNL.out (k := 13) (by decide) e13
  have q28 : (s == [102, 105, 101, 108, 100]) = false := by rw [HSN.out]; exact nm_ne HNL.out (k := 28) (by decide) e28
  have q30 : (s == [108, 101, 110]) = false := by rw [HSN.out]; exact nm_ne HNL.out (k := 30) (by decide) e30
  have q31 : (s == [115, 104, 111, 119]) = false := by rw [HSN.out]; exact nm_ne HNL.out (k := 31) (by decide) e31
  have q22 : (s == [99, 97, 108, 108]) = false := by rw [HSN.out]; exact nm_ne HNL.out (k := 22) (by decide) e22
  have q23 : (s == [114, 101, 116, 117, 114, 110]) = false := by rw [HSN.out]; exact nm_ne HNL.out (k := 23) (by decide) e23
  have q34 : (s == [112, 114, 105, 110, 116]) = false := by rw [HSN.out]; exact nm_ne HNL.out (k := 34) (by decide) e34
  have q24 : (s == [97, 114, 114, 97, 121]) = false := by rw [HSN.out]; exact nm_ne HNL.out (k := 24) (by decide) e24
  have q25 : (s == [110, 101, 119]) = false := by rw [HSN.out]; exact nm_ne HNL.out (k := 25) (by decide) e25
  have q27 : (s == [115, 101, 116, 105, 110, 100, 101, 120]) = false := by rw [HSN.out]; exact nm_ne HNL.out (k := 27) (by decide) e27
  have q29 : (s == [115, 101, 116, 102, 105, 101, 108, 100]) = false := by rw [HSN.out]; exact nm_ne HNL.out (k := 29) (by decide) e29
  have HE : Hid (E = (2, 1)) := by
    have h0 := ops_def ⟨n, HNL.out⟩ (by simp; omega)
    have h1 : opsL[n]? = some ((opsL[n]'HNL.out).1, 0, 2, 1) := by
      rw [List.getElem?_eq_getElem HNL.out]
      have h2 : (opsL[n]'HNL.out).2 = (0, 2, 1) := h0
      rw [← h2]
    show _ = _
    rw [HEE.out, effR_of h1]
    rfl
  clear HEE h6 h7 hsh hun e0 e20 e1 e2 e3 e4 e33 e5 e6 e21 e12 e13 e28 e30 e31 e22 e23 e34 e24 e25 e27 e29
  go_wp2
  go_ret2
  rw [HE.out]
  exact ⟨rfl, HB4.out⟩
end Go.Proofs.YtechkkphbajmoaaGreatDoor
/- code: the document's own words: what comes behind an instruction. -/
namespace Go.Proofs.YtechkkphbajmoaaGreatDoor
open Go.RowKit Go.Shelf

set_option maxRecDepth 100000 in
set_option maxHeartbeats 4000000 in
theorem rfBehind (i : Nat) (x : In7) (w : World) (hi : i ≤ 1048576) (hop : 0 ≤ x.op ∧ x.op < 35) (ha : x.op = 20 ∨ x.op = 21 → 0 ≤ x.a) :
    Calls Tryz.prog 72 #[inV x, .int .i64 i] w fun e w' => RetNats w.heap.size e w' (behindR i x) ∧ Below w.heap.size w w' := by
  obtain ⟨op, a⟩ := x
  obtain ⟨L, hL⟩ : ∃ L, L = behindR i ⟨op, a⟩ := ⟨_, rfl⟩
  rw [← hL]
  have HL : Hid (L = behindR i ⟨op, a⟩) := hL
  have hiI : (i : Int) ≤ 1048576 := by omega
  have hi0 : (0 : Int) ≤ i := by omega
  simp only at ha hop
  obtain ⟨n, hn0⟩ : ∃ n : Nat, op = n := ⟨op.toNat, by omega⟩
  have hn : n < opsL.length := by show n < 35; omega
  have HNL : Hid (n < opsL.length) := hn
  have HN : Hid (op = n) := hn0
  obtain ⟨s, hs⟩ : ∃ s, s = nmR op := ⟨_, rfl⟩
  have HSN : Hid (s = (opsL[n]'HNL.out).1) := by
    show _ = _
    rw [hs, hn0]; exact nmR_at hn
  obtain ⟨w2, hw2, hb2, HZ2, h0⟩ := box1 w (.cells #[.int .i64 op, .int .i64 a] 62)
  have HW2 : Hid (w2 = w.alloc (.cells #[.int .i64 op, .int .i64 a] 62)) := hw2
  have HB2 : Hid (Below w.heap.size w w2) := hb2
  have HF : Hid (∀ W, Below w2.heap.size w2 W → W.cell? ⟨w.heap.size, 0, none⟩ = some (.int .i64 op) ∧ W.cell? ⟨w.heap.size, 1, none⟩ = some (.int .i64 a)) := fun W hW => by
    have hz := HZ2.out
    exact bcells2 ((hW.block w.heap.size (by omega)).trans h0)
  have cN := rfNm op w2
  rw [← hs] at cN
  have HA : Hid (op = 20 ∨ op = 21 → 0 ≤ a) := ha
  clear hw2 hb2 h0 HZ2 hs hn hn0 ha hop hL
  go_enter Tryz.func72, Tryz.ntmps72
  go_wp2_with fail
  rw [← HW2.out]
  refine cN.mono ?_
  clear cN
  rintro e w4 ⟨rfl, hb4⟩
  have HB4 : Hid (Below w.heap.size w w4) := HB2.out.trans (hb4.mono HB2.out.size)
  obtain ⟨i0, i1⟩ := HF.out w4 hb4
  clear hb4
  by_cases e20 : n = 20
  · subst e20
    have q20 : (s == [106, 117, 109, 112]) = true := by rw [HSN.out]; rfl
    obtain ⟨k, rfl⟩ : ∃ k : Nat, a = k := ⟨a.toNat, by have := HA.out (.inl HN.out); omega⟩
    have HLL : Hid (L = [k]) := by
      show _ = _
      rw [HL.out, HN.out]; simp [behindR]
    obtain ⟨w5, hw5, hb5, -, h5⟩ := box1 w4 (.cells #[.int .i64 k] 3)
    have HB : Hid (Below w.heap.size w (w4.alloc (.cells #[.int .i64 k] 3))) := hw5 ▸ HB4.out.trans (hb5.mono HB4.out.size)
    have HR : Hid (rowIn (fun b => w.heap.size ≤ b) (w4.alloc (.cells #[.int .i64 k] 3)) (.slice (some ⟨w4.heap.size, 0, none⟩) 1 1) 1 natE [k]) := hw5 ▸ nats_one h5 HB4.out.size
    clear hw5 hb5 h5
    go_wp2
    go_ret
    rw [HLL.out]
    exact ⟨⟨_, rfl, HR.out⟩, HB.out⟩
  have q20 : (s == [106, 117, 109, 112]) = false := by rw [HSN.out]; exact nm_ne HNL.out (k := 20) (by decide) e20
  by_cases e21 : n = 21
  · subst e21
    have q21 : (s == [117, 110, 108, 101, 115, 115]) = true := by rw [HSN.out]; rfl
    obtain ⟨k, rfl⟩ : ∃ k : Nat, a = k := ⟨a.toNat, by have := HA.out (.inr HN.out); omega⟩
    have HLL : Hid (L = [i + 1, k]) := by
      show _ = _
      rw [HL.out, HN.out]; simp [behindR]
    obtain ⟨w5, hw5, hb5, -, h5⟩ := box1 w4 (.cells #[.int .i64 ((i + 1 : Nat) : Int), .int .i64 k] 3)
    have HB : Hid (Below w.heap.size w (w4.alloc (.cells #[.int .i64 ((i : Int) + 1), .int .i64 k] 3))) := by
      have := hw5 ▸ HB4.out.trans (hb5.mono HB4.out.size)
      rw [Int.natCast_add] at this
      exact this
    have HR : Hid (rowIn (fun b => w.heap.size ≤ b) (w4.alloc (.cells #[.int .i64 ((i : Int) + 1), .int .i64 k] 3)) (.slice (some ⟨w4.heap.size, 0, none⟩) 2 2) 1 natE [i + 1, k]) := by
      have := hw5 ▸ nats_two h5 (M := w.heap.size) HB4.out.size
      rw [Int.natCast_add] at this
      exact this
    clear hw5 hb5 h5
    go_wp2
    go_ret
    rw [HLL.out]
    exact ⟨⟨_, rfl, HR.out⟩, HB.out⟩
  have q21 : (s == [117, 110, 108, 101, 115, 115]) = false := by rw [HSN.out]; exact nm_ne HNL.out (k := 21) (by decide) e21
  by_cases e23 : n = 23
  · subst e23
    have q23 : (s == [114, 101, 116, 117, 114, 110]) = true := by rw [HSN.out]; rfl
    have HLL : Hid (L = []) := by
      show _ = _
      rw [HL.out, HN.out]; simp [behindR]
    go_wp2
    go_ret
    rw [HLL.out]
    exact ⟨⟨_, rfl, none, 0, rfl, Nat.le_refl _, by decide, .inl rfl⟩, HB4.out⟩
  have q23 : (s == [114, 101, 116, 117, 114, 110]) = false := by rw [HSN.out]; exact nm_ne HNL.out (k := 23) (by decide) e23
  have HLL : Hid (L = [i + 1]) := by
    show _ = _
    rw [HL.out, HN.out]
    have o20 : ¬ ((n : Int) = 20) := by omega
    have o21 : ¬ ((n : Int) = 21) := by omega
    have o23 : ¬ ((n : Int) = 23) := by omega
    simp [behindR, o20, o21, o23]
  obtain ⟨w5, hw5, hb5, -, h5⟩ := box1 w4 (.cells #[.int .i64 ((i + 1 : Nat) : Int)] 3)
  have HB : Hid (Below w.heap.size w (w4.alloc (.cells #[.int .i64 ((i : Int) + 1)] 3))) := by
    have := hw5 ▸ HB4.out.trans (hb5.mono HB4.out.size)
    rw [Int.natCast_add] at this
    exact this
  have HR : Hid (rowIn (fun b => w.heap.size ≤ b) (w4.alloc (.cells #[.int .i64 ((i : Int) + 1)] 3)) (.slice (some ⟨w4.heap.size, 0, none⟩) 1 1) 1 natE [i + 1]) := by
    have := hw5 ▸ nats_one h5 (M := w.heap.size) HB4.out.size
    rw [Int.natCast_add] at this
    exact this
  clear hw5 hb5 h5 e20 e21 e23
  go_wp2
  go_ret
  rw [HLL.out]
  exact ⟨⟨_, rfl, HR.out⟩, HB.out⟩
end Go.Proofs.YtechkkphbajmoaaGreatDoor
