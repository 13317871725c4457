/- code: the laws' example, and whether a code has few parts. -/
import Derived.Test.YtechkkphbajmoaaGreatDoorCRefPut
import Derived.BigQuiet
namespace Go.Proofs.YtechkkphbajmoaaGreatDoor
open Go.RowKit Go.Shelf

/-- The example: its instructions, its unit and its answer. -/
def ExAt (N : Nat) (e : Ending) (w' : World) : Prop :=
  e = .returned (cdV (.slice none 0 0) (.slice none 0 0) (.slice (some ⟨N + 2, 0, none⟩) 1 1) 0) ∧
    w'.heap[N + 1]? = some (.cells #[.int .i64 0, .int .i64 1, .int .i64 1, .int .i64 2, .int .i64 34, .int .i64 1, .int .i64 23, .int .i64 0] 62 (0, 0)) ∧
    w'.heap[N + 2]? = some (.cells #[.string (strB [109, 97, 105, 110]), .int .i64 0, .int .i64 0, .int .i64 1, .bool false, .slice (some ⟨N + 1, 0, none⟩) 4 4, .slice none 0 0] 58 (0, 0))

set_option maxRecDepth 100000 in
set_option maxHeartbeats 4000000 in
theorem exam_any (w : World) : Calls Tryz.prog 21 #[] w fun e w' => ExAt w.heap.size e w' ∧ Below w.heap.size w w' := by
  go_enter Tryz.func21, Tryz.ntmps21
  go_wp2
  obtain ⟨w3, hw3, hb3, -, h0, h1, h2⟩ := box3 w (.cells #[.slice none 0 0, .slice none 0 0, .slice (some ⟨w.heap.size + 1 + 1, 0, none⟩) 1 1, .int .i64 0] 26) (.cells #[.int .i64 0, .int .i64 1, .int .i64 1, .int .i64 2, .int .i64 34, .int .i64 1, .int .i64 23, .int .i64 0] 62) (.cells #[.string (strB [109, 97, 105, 110]), .int .i64 0, .int .i64 0, .int .i64 1, .bool false, .slice (some ⟨w.heap.size + 1, 0, none⟩) 4 4, .slice none 0 0] 58)
  rw [show (strB [109, 97, 105, 110] : ByteArray) = { data := #[109, 97, 105, 110] } from rfl] at hw3 h2
  rw [← hw3]
  obtain ⟨z0, z1, z2, z3⟩ := bcells4 h0
  refine bodyPost_ret (v := cdV (.slice none 0 0) (.slice none 0 0) (.slice (some ⟨w.heap.size + 1 + 1, 0, none⟩) 1 1) 0) (by simp [results, Tryz.results21, go_sem, z0, z1, z2, z3]) rfl ⟨⟨rfl, h1, h2⟩, hb3⟩

/-- An answer was told. -/
def Told (e : Ending) : Prop := ∃ b : Bool, e = .returned (.bool b)

set_option maxRecDepth 100000 in
set_option maxHeartbeats 4000000 in
/-- Whether a code has few parts: an answer, and nothing else. -/
theorem light_any (S : Nat → Prop) (c : Cd) (bs bh bu : Option Addr) (ns cs nh ch nu cu : Nat) (w : World) (hin : CodeIn S w c (.slice bs ns cs) (.slice bh nh ch) (.slice bu nu cu)) (hns : ns ≤ 1048576) (hnh : nh ≤ 1048576) (hnu : nu ≤ 1048576) (hun : ∀ u ∈ c.units, u.ins.length ≤ 1048576 ∧ u.vars.length ≤ 1048576) :
    Calls Tryz.prog 6 #[cdV (.slice bs ns cs) (.slice bh nh ch) (.slice bu nu cu) c.main] w fun e w' => Told e ∧ Below w.heap.size w w' := by
  obtain ⟨m, hm⟩ : ∃ m, m = c.main := ⟨_, rfl⟩
  rw [← hm]
  obtain ⟨w1, hw1, hb1, HZ1, h1⟩ := box1 w (.cells #[.slice bs ns cs, .slice bh nh ch, .slice bu nu cu, .int .i64 m] 26)
  have HW1 : Hid (w1 = w.alloc (.cells #[.slice bs ns cs, .slice bh nh ch, .slice bu nu cu, .int .i64 m] 26)) := hw1
  have HB1 : Hid (Below w.heap.size w w1) := hb1
  obtain ⟨f0, f1, f2, f3⟩ := bcells4 h1
  obtain ⟨n, hn, HUN⟩ : ∃ n, n = c.units.length ∧ Hid (∀ i (hi : i < c.units.length), ∃ b o, bu = some ⟨b, o, none⟩ ∧ S b ∧ b < w.heap.size ∧ unE S w b (o + i * 7) c.units[i]) := by obtain ⟨b, c1, e, _, _, h⟩ := hin.units.at; cases e; exact ⟨_, rfl, h⟩
  have hnn : nu = n := by obtain ⟨b, c, e, -⟩ := hin.units.at; cases e; exact hn.symm
  subst hnn
  have HN : Hid (nu = c.units.length) := hn
  have hs1 : (ns : Int) + nh + nu ≤ 3145728 := by omega
  have hs0 : (0 : Int) ≤ (ns : Int) + nh := by omega
  have hs2 : (0 : Int) ≤ (ns : Int) + nh + nu := by omega
  have hs3 : (ns : Int) + nh ≤ 2097152 := by omega
  have hnuI : (nu : Int) ≤ 1048576 := by omega
  have HU : Hid (∀ u ∈ c.units, u.ins.length ≤ 1048576 ∧ u.vars.length ≤ 1048576) := hun
  have HF : Hid (∀ W, Below w1.heap.size w1 W → W.cell? ⟨w.heap.size, 2, none⟩ = some (.slice bu nu cu)) := fun W hW => (bcells4 ((hW.block w.heap.size (heap_lt h1)).trans h1)).2.2.1
  have hq := HB1.out.size
  clear hw1 hb1 h1 hin hm HZ1 hn hns hnh hnu hun
  go_enter Tryz.func6, Tryz.ntmps6
  go_wp2_with fail
  rw [← HW1.out]
  obtain ⟨A, hA⟩ : ∃ A : Int, A = (ns : Int) + nh + nu := ⟨_, rfl⟩
  rw [← hA] at hs1 hs2 ⊢
  clear hA hs0 hs3 f0 f1 f2 f3 HW1
  go_loopw [3, 4] (fun vn vi wr => ∃ (i : Nat) (n : Int), i ≤ nu ∧ vi = .int .i64 (i : Int) ∧ vn = .int .i64 n ∧ 0 ≤ n ∧ n ≤ 4194304 ∧ Below w1.heap.size w1 wr) (fun _ vi _ => nu - (intOf vi).toNat)
  case atStart => exact ⟨0, A, Nat.zero_le _, rfl, rfl, hs2, by omega, Below.refl _ _⟩
  case round =>
    obtain ⟨i, n, hi, rfl, rfl, hn0, hn1, hbr⟩ := hrel
    have HB : Hid (Below w1.heap.size w1 wr) := hbr
    have HBw : Hid (Below w.heap.size w wr) := HB1.out.trans (hbr.mono HB1.out.size)
    have f2 := HF.out wr hbr
    clear hbr
    by_cases hlt : i < nu
    · have hi2 : (i : Int) < nu := by omega
      by_cases hn3 : n < 3000
      · have hil : i < c.units.length := by have := HN.out; omega
        obtain ⟨b, o, rfl, -, hbl, hun⟩ := HUN.out i hil
        obtain ⟨u, hu⟩ : ∃ u, u = c.units[i] := ⟨_, rfl⟩
        rw [← hu] at hun
        have hus := HU.out u (by rw [hu]; exact List.getElem_mem hil)
        obtain ⟨-, -, -, -, -, ⟨vi, e5, hii⟩, vv, e6, hvv⟩ := hun
        obtain ⟨bi, ci, rfl, -, -, -⟩ := hii.at
        obtain ⟨bv, cv, rfl, -, -, -⟩ := hvv.at
        replace e5 := (below_cell HBw.out hbl).trans e5
        replace e6 := (below_cell HBw.out hbl).trans e6
        obtain ⟨ni, hni⟩ : ∃ n, n = u.ins.length := ⟨_, rfl⟩
        obtain ⟨nv, hnv⟩ : ∃ n, n = u.vars.length := ⟨_, rfl⟩
        rw [← hni] at e5 hus
        rw [← hnv] at e6 hus
        have q1 : n + (ni : Int) ≤ 2000000 := by omega
        have q2 : n + (ni : Int) + nv ≤ 4000000 := by omega
        have q3 : 0 ≤ n + (ni : Int) := by omega
        have q4 : 0 ≤ n + (ni : Int) + nv := by omega
        clear hii hvv hni hnv hus hu
        go_upto_region 5 with fail
        go_quiet (fail)
        go_wp2
        exact ⟨⟨i + 1, n + ni + nv, by omega, by go_num, by go_num, q4, by omega, ⟨HB.out.os, HB.out.tape, HB.out.output, HB.out.size, HB.out.block⟩⟩, by simp [intOf]; omega⟩
      · go_wp2
        go_ret
        exact ⟨⟨_, rfl⟩, HBw.out⟩
    · obtain rfl : i = nu := by omega
      have hi2 : ¬ (i : Int) < i := by omega
      by_cases hn3 : n < 3000
      · go_wp2
        go_ret
        exact ⟨⟨_, rfl⟩, HBw.out⟩
      · go_wp2
        go_ret
        exact ⟨⟨_, rfl⟩, HBw.out⟩
end Go.Proofs.YtechkkphbajmoaaGreatDoor
