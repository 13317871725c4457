/- snap: the laws' look whether a state has few parts. -/
import Derived.Test.YtbdgniiafdjmiaaGreatDoorPModel
import Derived.BigQuiet
namespace Go.Proofs.YtbdgniiafdjmiaaGreatDoor
open Go.RowKit Go.Shelf

/-- An answer was told. -/
def Told10 (e : Ending) : Prop := ∃ b : Bool, e = .returned (.bool b)

set_option maxRecDepth 100000 in
set_option maxHeartbeats 4000000 in
/-- Whether a state has few parts: an answer, and nothing else. -/
theorem light10_any (S : Nat → Prop) (s : Sn) (bc bh : Option Addr) (nc cc nh ch : Nat) (w : World) (hin : SnIn S w s (.slice bc nc cc) (.slice bh nh ch)) (hsm : SmallS s) :
    Calls Tryz.prog 8 #[snV s (.slice bc nc cc) (.slice bh nh ch)] w fun e w' => Told10 e ∧ Below w.heap.size w w' := by
  obtain ⟨w1, hw1, hb1, HZ1, h1⟩ := box1 w (.cells #[.int .i64 s.pos, .int .i64 s.st, .int .i64 s.ft, .slice bc nc cc, .slice bh nh ch, .string (strB s.out), .int .i64 s.rd] 27)
  have HW1 : Hid (w1 = w.alloc (.cells #[.int .i64 s.pos, .int .i64 s.st, .int .i64 s.ft, .slice bc nc cc, .slice bh nh ch, .string (strB s.out), .int .i64 s.rd] 27)) := hw1
  have HB1 : Hid (Below w.heap.size w w1) := hb1
  obtain ⟨-, -, -, f3, f4, -, -⟩ := cells7 h1
  have HF : Hid (∀ W, Below w1.heap.size w1 W → W.cell? ⟨w.heap.size, 3, none⟩ = some (.slice bc nc cc) ∧ W.cell? ⟨w.heap.size, 4, none⟩ = some (.slice bh nh ch)) := fun W hW => by
    obtain ⟨-, -, -, g3, g4, -, -⟩ := cells7 ((hW.block w.heap.size (heap_lt h1)).trans h1)
    exact ⟨g3, g4⟩
  obtain ⟨n, hn, HCA⟩ : ∃ n, n = s.calls.length ∧ Hid (∀ i (hi : i < s.calls.length), ∃ b o, bc = some ⟨b, o, none⟩ ∧ S b ∧ b < w.heap.size ∧ calE S w b (o + i * 5) s.calls[i]) := by obtain ⟨b, c1, e, _, _, h⟩ := hin.calls.at; cases e; exact ⟨_, rfl, h⟩
  have hnn : nc = n := by obtain ⟨b, c, e, -⟩ := hin.calls.at; cases e; exact hn.symm
  subst hnn
  obtain ⟨m, hm, HOB⟩ : ∃ n, n = s.heap.length ∧ Hid (∀ i (hi : i < s.heap.length), ∃ b o, bh = some ⟨b, o, none⟩ ∧ S b ∧ b < w.heap.size ∧ objE S w b (o + i * 2) s.heap[i]) := by obtain ⟨b, c1, e, _, _, h⟩ := hin.heap.at; cases e; exact ⟨_, rfl, h⟩
  have hmm : nh = m := by obtain ⟨b, c, e, -⟩ := hin.heap.at; cases e; exact hm.symm
  subst hmm
  have HN : Hid (nc = s.calls.length) := hn
  have HM : Hid (nh = s.heap.length) := hm
  have l1 := hsm.calls.2
  have l2 := hsm.heap.2
  have hs2 : (0 : Int) ≤ (nc : Int) + nh := by omega
  have hs3 : (nc : Int) + nh ≤ 2097152 := by omega
  have HUC : Hid (∀ c ∈ s.calls, c.slots.length ≤ 1048576 ∧ c.stack.length ≤ 1048576) := fun c hc => ⟨(hsm.calls.1 c hc).2.1.2, (hsm.calls.1 c hc).2.2.2⟩
  have HUO : Hid (∀ o ∈ s.heap, o.2.length ≤ 1048576) := fun o ho => (hsm.heap.1 o ho).2.2
  have hci : (nc : Int) ≤ 1048576 := by omega
  have hhi : (nh : Int) ≤ 1048576 := by omega
  clear hw1 hb1 h1 hin HZ1 hn hm hsm l1 l2
  go_enter Tryz.func8, Tryz.ntmps8
  go_wp2_with fail
  rw [← HW1.out]
  obtain ⟨A, hA⟩ : ∃ A : Int, A = (nc : Int) + nh := ⟨_, rfl⟩
  rw [← hA] at hs2 hs3 ⊢
  clear hA f3 f4 HW1
  go_loopw [3, 4] (fun vn vi wr => ∃ (i : Nat) (n : Int), i ≤ nc ∧ vi = .int .i64 (i : Int) ∧ vn = .int .i64 n ∧ 0 ≤ n ∧ n ≤ 4194304 ∧ Below w1.heap.size w1 wr) (fun _ vi _ => nc - (intOf vi).toNat)
  case atStart => exact ⟨0, A, Nat.zero_le _, rfl, rfl, hs2, by omega, Below.refl _ _⟩
  case round =>
    obtain ⟨i, n, hi, rfl, rfl, hn0, hn1, hbr⟩ := hrel
    have HB : Hid (Below w1.heap.size w1 wr) := hbr
    have HBw : Hid (Below w.heap.size w wr) := HB1.out.trans (hbr.mono HB1.out.size)
    obtain ⟨f3, f4⟩ := HF.out wr hbr
    clear hbr
    by_cases hgo : i < nc ∧ n < 5000
    · obtain ⟨hlt, hn3⟩ := hgo
      have hi2 : (i : Int) < nc := by omega
      have hil : i < s.calls.length := by have := HN.out; omega
      obtain ⟨b, o, rfl, -, hbl, hun⟩ := HCA.out i hil
      obtain ⟨u, hu⟩ : ∃ u, u = s.calls[i] := ⟨_, rfl⟩
      rw [← hu] at hun
      have hus := HUC.out u (by rw [hu]; exact List.getElem_mem hil)
      obtain ⟨-, -, -, ⟨vi, e3, hii⟩, vv, e4, hvv⟩ := hun
      obtain ⟨bi, ci, rfl, -, -, -⟩ := hii.at
      obtain ⟨bv, cv, rfl, -, -, -⟩ := hvv.at
      replace e3 := (below_cell HBw.out hbl).trans e3
      replace e4 := (below_cell HBw.out hbl).trans e4
      obtain ⟨ni, hni⟩ : ∃ n, n = u.slots.length := ⟨_, rfl⟩
      obtain ⟨nv, hnv⟩ : ∃ n, n = u.stack.length := ⟨_, rfl⟩
      rw [← hni] at e3 hus
      rw [← hnv] at e4 hus
      have q1 : n + (ni : Int) ≤ 2000000 := by omega
      have q2 : n + (ni : Int) + nv ≤ 4000000 := by omega
      have q3 : 0 ≤ n + (ni : Int) := by omega
      have q4 : 0 ≤ n + (ni : Int) + nv := by omega
      clear hii hvv hni hnv hus hu
      go_upto_region 5 with fail
      go_quiet (fail)
      go_wp2
      exact ⟨⟨i + 1, n + ni + nv, by omega, by go_num, by go_num, q4, by omega, ⟨HB.out.os, HB.out.tape, HB.out.output, HB.out.size, HB.out.block⟩⟩, by simp [intOf]; omega⟩
    · have HEX : Hid (0 ≤ n ∧ n ≤ 4194304) := ⟨hn0, hn1⟩
      by_cases hlt : i < nc
      · have hi2 : (i : Int) < nc := by omega
        have hn3 : ¬ n < 5000 := by omega
        clear hgo hn0 hn1
        go_wp2
        go_loopw [3, 5] (fun vn vi wr => ∃ (i : Nat) (n : Int), i ≤ nh ∧ vi = .int .i64 (i : Int) ∧ vn = .int .i64 n ∧ 0 ≤ n ∧ n ≤ 8388608 ∧ Below w1.heap.size w1 wr) (fun _ vi _ => nh - (intOf vi).toNat)
        case atStart => exact ⟨0, n, Nat.zero_le _, rfl, rfl, HEX.out.1, by have := HEX.out.2; omega, HB.out⟩
        case round =>
          obtain ⟨j, m, hj, rfl, rfl, hm0, hm1, hbr⟩ := hrel
          have HBr : Hid (Below w1.heap.size w1 wr) := hbr
          have HBw2 : Hid (Below w.heap.size w wr) := HB1.out.trans (hbr.mono HB1.out.size)
          obtain ⟨f3, f4⟩ := HF.out wr hbr
          clear hbr
          by_cases hlt2 : j < nh
          · have hj2 : (j : Int) < nh := by omega
            by_cases hm3 : m < 5000
            · have hjl : j < s.heap.length := by have := HM.out; omega
              obtain ⟨b, o, rfl, -, hbl, hun⟩ := HOB.out j hjl
              obtain ⟨u, hu⟩ : ∃ u, u = s.heap[j] := ⟨_, rfl⟩
              rw [← hu] at hun
              have hus := HUO.out u (by rw [hu]; exact List.getElem_mem hjl)
              obtain ⟨-, vi, e1, hii⟩ := hun
              obtain ⟨bi, ci, rfl, -, -, -⟩ := hii.at
              replace e1 := (below_cell HBw2.out hbl).trans e1
              obtain ⟨ni, hni⟩ : ∃ n, n = u.2.length := ⟨_, rfl⟩
              rw [← hni] at e1 hus
              have q1 : m + (ni : Int) ≤ 2000000 := by omega
              have q3 : 0 ≤ m + (ni : Int) := by omega
              clear hii hni hus hu
              go_wp2
              exact ⟨⟨j + 1, m + ni, by omega, by go_num, by go_num, q3, by omega, HBr.out⟩, by simp [intOf]; omega⟩
            · go_wp2
              go_ret
              exact ⟨⟨_, rfl⟩, HBw2.out⟩
          · obtain rfl : j = nh := by omega
            have hj2 : ¬ (j : Int) < j := by omega
            by_cases hm3 : m < 5000
            · go_wp2
              go_ret
              exact ⟨⟨_, rfl⟩, HBw2.out⟩
            · go_wp2
              go_ret
              exact ⟨⟨_, rfl⟩, HBw2.out⟩
      · obtain rfl : i = nc := by omega
        have hi2 : ¬ (i : Int) < i := by omega
        clear hgo hn0 hn1
        go_wp2
        go_loopw [3, 5] (fun vn vi wr => ∃ (i : Nat) (n : Int), i ≤ nh ∧ vi = .int .i64 (i : Int) ∧ vn = .int .i64 n ∧ 0 ≤ n ∧ n ≤ 8388608 ∧ Below w1.heap.size w1 wr) (fun _ vi _ => nh - (intOf vi).toNat)
        case atStart => exact ⟨0, n, Nat.zero_le _, rfl, rfl, HEX.out.1, by have := HEX.out.2; omega, HB.out⟩
        case round =>
          obtain ⟨j, m, hj, rfl, rfl, hm0, hm1, hbr⟩ := hrel
          have HBr : Hid (Below w1.heap.size w1 wr) := hbr
          have HBw2 : Hid (Below w.heap.size w wr) := HB1.out.trans (hbr.mono HB1.out.size)
          obtain ⟨f3, f4⟩ := HF.out wr hbr
          clear hbr
          by_cases hlt2 : j < nh
          · have hj2 : (j : Int) < nh := by omega
            by_cases hm3 : m < 5000
            · have hjl : j < s.heap.length := by have := HM.out; omega
              obtain ⟨b, o, rfl, -, hbl, hun⟩ := HOB.out j hjl
              obtain ⟨u, hu⟩ : ∃ u, u = s.heap[j] := ⟨_, rfl⟩
              rw [← hu] at hun
              have hus := HUO.out u (by rw [hu]; exact List.getElem_mem hjl)
              obtain ⟨-, vi, e1, hii⟩ := hun
              obtain ⟨bi, ci, rfl, -, -, -⟩ := hii.at
              replace e1 := (below_cell HBw2.out hbl).trans e1
              obtain ⟨ni, hni⟩ : ∃ n, n = u.2.length := ⟨_, rfl⟩
              rw [← hni] at e1 hus
              have q1 : m + (ni : Int) ≤ 2000000 := by omega
              have q3 : 0 ≤ m + (ni : Int) := by omega
              clear hii hni hus hu
              go_wp2
              exact ⟨⟨j + 1, m + ni, by omega, by go_num, by go_num, q3, by omega, HBr.out⟩, by simp [intOf]; omega⟩
            · go_wp2
              go_ret
              exact ⟨⟨_, rfl⟩, HBw2.out⟩
          · obtain rfl : j = nh := by omega
            have hj2 : ¬ (j : Int) < j := by omega
            by_cases hm3 : m < 5000
            · go_wp2
              go_ret
              exact ⟨⟨_, rfl⟩, HBw2.out⟩
            · go_wp2
              go_ret
              exact ⟨⟨_, rfl⟩, HBw2.out⟩
end Go.Proofs.YtbdgniiafdjmiaaGreatDoor
