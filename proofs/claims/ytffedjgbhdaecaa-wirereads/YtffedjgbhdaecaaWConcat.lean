/- slices.Grow of nothing and slices.Concat, at bytes. -/
import Derived.Test.YtffedjgbhdaecaaWClone
import Derived.Lib.AppendZerosOnto
namespace Go.Proofs.Ytffedjgbhdaecaa
open Go.RowKit

set_option maxHeartbeats 1000000 in
set_option maxRecDepth 100000 in
theorem grow_zero (w : World) :
    Calls Try.prog 57 #[.slice none 0 0, .int .i64 0] w fun e w' => ∃ v, e = .returned v ∧ w'.ownsRow w.heap.size 5 1 v 0 [] ∧ Below w.heap.size w w' := by
  go_enter Try.func57, Try.ntmps57
  go_wp2
  go_ret
  exact ⟨_, rfl, World.ownsRow_nil _ _ _ _, Below.refl _ _⟩

set_option maxHeartbeats 1000000 in
set_option maxRecDepth 100000 in
theorem grow_pos (n : Nat) (h0 : 0 < n) (hb : n ≤ 140737488355328) (w : World) :
    Calls Try.prog 57 #[.slice none 0 0, .int .i64 n] w fun e w' => ∃ v, e = .returned v ∧ w'.ownsRow w.heap.size 5 1 v 0 [] ∧ Below w.heap.size w w' := by
  obtain ⟨i0, hi, hz0, hz1, hz2⟩ := info_parts info_u8
  have hold : (Builtin.firstCells i0.size 0 (.slice none 0 0)).run Try.prog w.drew = .ok ([] : List Value).toArray w.drew := run_firstCells_none w.drew i0.size 0 0 0
  have hrz : ∀ ty, (Builtin.append_ #[22, 3] ty #[.slice none 0 0, .int .i64 (n : Int)]).run Try.prog w =
      .ok (.slice (some ⟨w.heap.size, 0, none⟩) n (grownCap w n 0 5)) (w.drew.alloc (.cells (([] : List Value).toArray ++ Builtin.zeroCells (Value.int .u8 0).cells n ++ Builtin.zeroCells (Value.int .u8 0).cells (grownCap w n 0 5 - n)) 5)) := fun ty => by
    have h := Lib.run_append_grow_zeros w 22 3 ty 5 i0 (.int .u8 0) .i64 .i64 Try.underlying22 Try.underlying3 hi hz0 none 0 0 [] hold n h0 (by omega) (by omega) (by omega) (by rw [hz2]; omega) (by rw [hz2]; exact growslice_fits (by omega) (by omega))
    simpa using h
  have hGn : n ≤ grownCap w n 0 5 := grownCap_ge w _ _ _
  have hG63 : grownCap w n 0 5 ≤ maxLen := grownCap_le_maxLen w n 0 5 (by unfold maxLen; omega)
  obtain ⟨G, hG⟩ : ∃ G, G = grownCap w n 0 5 := ⟨_, rfl⟩
  rw [← hG] at hrz hGn hG63
  have hsz : (([] : List Value).toArray ++ Builtin.zeroCells (Value.int .u8 0).cells n ++ Builtin.zeroCells (Value.int .u8 0).cells (G - n)).size = G * 1 := by
    simp only [Array.size_append, size_zeroCells]
    show 0 + n * 1 + (G - n) * 1 = G * 1
    omega
  obtain ⟨cur, hcur⟩ : ∃ cur, cur = ([] : List Value).toArray ++ Builtin.zeroCells (Value.int .u8 0).cells n ++ Builtin.zeroCells (Value.int .u8 0).cells (G - n) := ⟨_, rfl⟩
  rw [← hcur] at hrz hsz
  clear hcur hG hold
  have hm := hG63
  unfold maxLen at hm
  have hown : (w.drew.alloc (.cells cur 5)).ownsRow w.heap.size 5 1 (.slice (some ⟨w.heap.size, 0, none⟩) 0 G) 0 [] := World.ownsRow_made w.drew cur G (Nat.le_refl _) hG63 hsz
  have hbel : Below w.heap.size w (w.drew.alloc (.cells cur 5)) := (Below.refl _ _).drew.alloc (Nat.le_refl _) _
  have HO : Hid ((w.drew.alloc (.cells cur 5)).ownsRow w.heap.size 5 1 (.slice (some ⟨w.heap.size, 0, none⟩) 0 G) 0 []) := hown
  clear hown hsz
  go_enter Try.func57, Try.ntmps57
  go_wp2_with (at_builtin; refine Lib.wpList_append_run _ rfl _ _ _ _ rfl _ _ rfl rfl _ _ (hrz _) ?_)
  all_goals go_ret
  all_goals exact ⟨_, rfl, HO.out, hbel⟩

set_option maxRecDepth 100000 in
theorem grow_any (n : Nat) (hb : n ≤ 140737488355328) (w : World) :
    Calls Try.prog 57 #[.slice none 0 0, .int .i64 n] w fun e w' => ∃ v, e = .returned v ∧ w'.ownsRow w.heap.size 5 1 v 0 [] ∧ Below w.heap.size w w' := by
  rcases Nat.eq_zero_or_pos n with rfl | h
  · exact grow_zero w
  · exact grow_pos n h hb w

/-- The bytes of the first k parts. -/
def catB (ps : List (Value × List UInt8)) (k : Nat) : List UInt8 := ((ps.take k).map (fun p => p.2)).flatten

theorem catB_zero (ps : List (Value × List UInt8)) : catB ps 0 = [] := by simp [catB]
theorem catB_succ (ps : List (Value × List UInt8)) (k : Nat) (h : k < ps.length) : catB ps (k + 1) = catB ps k ++ (ps[k]).2 := by
  unfold catB
  rw [List.take_succ_eq_append_getElem h, List.map_append, List.flatten_append, List.map_singleton, List.flatten_singleton]
theorem catB_le (ps : List (Value × List UInt8)) (k : Nat) : (catB ps k).length ≤ (catB ps ps.length).length := by
  have h : catB ps ps.length = catB ps k ++ ((ps.drop k).map (fun p => p.2)).flatten := by
    unfold catB
    rw [List.take_length]
    rw [← List.flatten_append, ← List.map_append, List.take_append_drop]
  rw [h, List.length_append]; omega

set_option maxHeartbeats 2000000 in
set_option maxRecDepth 100000 in
theorem concat_any (g c : Nat) (ps : List (Value × List UInt8)) (w : World)
    (hcell : ∀ j p, ps[j]? = some p → w.cell? ⟨g, j, none⟩ = some p.1) (hby : ∀ p ∈ ps, bytesAt w p.1 p.2)
    (hm : ps.length ≤ 1000) (hb : (catB ps ps.length).length ≤ 140737488355328) :
    Calls Try.prog 41 #[.slice (some ⟨g, 0, none⟩) ps.length c] w fun e w' => ∃ v, e = .returned v ∧
      w'.ownsRow w.heap.size 5 1 v (catB ps ps.length).length (Lib.byteCells (catB ps ps.length)) ∧ Below w.heap.size w w' := by
  obtain ⟨i0, hi, hz0, hz1, hz2⟩ := info_parts info_u8
  obtain ⟨m, hml⟩ : ∃ m, m = ps.length := ⟨_, rfl⟩
  have HM : Hid (m = ps.length) := hml
  rw [← hml] at hm hb ⊢
  have hle := fun k => catB_le ps k
  rw [← hml] at hle
  clear hml
  go_enter Try.func41, Try.ntmps41
  go_wp2
  go_loop [3, 11] (fun t i => ∃ k : Nat, k ≤ m ∧ i = .int .i64 k ∧ t = .int .i64 (catB ps k).length) (fun _ i => m - (intOf i).toNat)
  case atStart => exact ⟨0, Nat.zero_le _, rfl, by rw [catB_zero]; rfl⟩
  case round =>
    obtain ⟨k, hk, rfl, rfl⟩ := hrel
    by_cases hlt : k < m
    · have hkl : k < ps.length := by rw [← HM.out]; exact hlt
      have hc1 := hcell k ps[k] (List.getElem?_eq_getElem hkl)
      obtain ⟨base, cap, hv, hn, h1, h2, hc⟩ := hby ps[k] (List.getElem_mem hkl)
      rw [hv] at hc1
      have hs := catB_succ ps k hkl
      have hl1 := hle k
      have hl2 := hle (k + 1)
      rw [hs, List.length_append] at hl2
      have HS : Hid (catB ps (k + 1) = catB ps k ++ (ps[k]).2) := hs
      clear hs hv hn hc hcell hby
      obtain ⟨q, hq⟩ : ∃ q, q = (ps[k]).2.length := ⟨_, rfl⟩
      obtain ⟨q0, hq0⟩ : ∃ q0, q0 = (catB ps k).length := ⟨_, rfl⟩
      rw [← hq] at hc1 hl2 h1
      rw [← hq0] at hl1 hl2 ⊢
      have HQ : Hid (q = (ps[k]).2.length) := hq
      have HQ0 : Hid (q0 = (catB ps k).length) := hq0
      clear hq hq0 hle
      have hb' := hb
      go_wp2
      go_round
      case rel => exact ⟨k + 1, by omega, by go_num, by rw [HS.out, List.length_append, ← HQ.out, ← HQ0.out]; go_num⟩
      case measure => simp [intOf]; omega
    · obtain rfl : k = m := by omega
      clear hlt hk
      go_wp2_with (go_at_call 57; refine (grow_any _ hb _).mono ?_; rintro e w1 ⟨v1, rfl, hown0, hb0⟩)
      go_loopw [6, 27] (fun vb i wr => ∃ j : Nat, j ≤ k ∧ i = .int .i64 j ∧ wr.ownsRow w.heap.size 5 1 vb (catB ps j).length (Lib.byteCells (catB ps j)) ∧ Below w.heap.size w wr) (fun _ i _ => k - (intOf i).toNat)
      case atStart => exact ⟨0, Nat.zero_le _, rfl, by rw [catB_zero]; exact hown0, hb0⟩
      case round =>
        obtain ⟨j, hj, rfl, hown, hnx⟩ := hrel
        have hnz := hnx.size
        by_cases hlt : j < k
        · have hjl : j < ps.length := by rw [← HM.out]; exact hlt
          have hc1 := hcell j ps[j] (List.getElem?_eq_getElem hjl)
          obtain ⟨base, cap, hv, hn, h1, h2, hc⟩ := hby ps[j] (List.getElem_mem hjl)
          rw [hv] at hc1
          have hc1b := World.block_lt_of_cell? w _ hc1
          have hc2 : wr.cell? ⟨g, j, none⟩ = some (.slice base (ps[j]).2.length cap) := (hnx.cell hc1b).trans hc1
          have hs := catB_succ ps j hjl
          have hl1 := hle j
          have hl2 := hle (j + 1)
          rw [hs, List.length_append] at hl2
          have HS : Hid (catB ps (j + 1) = catB ps j ++ (ps[j]).2) := hs
          clear hs hv hcell hby hc1 hle hb0 hown0
          obtain ⟨bs, hbs⟩ : ∃ bs, bs = (ps[j]).2 := ⟨_, rfl⟩
          rw [← hbs] at HS hl2 hc2 h1 hn hc
          clear hbs
          cases base with
          | none =>
            obtain ⟨rfl, rfl⟩ := hn rfl
            clear hn hc h1 h2
            go_wp2_with (at_builtin; refine wpList_append_own_none rfl _ _ 22 rfl w.heap.size 5 i0 1 Try.underlying22 hi _ _ _ rfl hown rfl ?_)
            go_roundw
            case rel => exact ⟨j + 1, by omega, by go_num, by rw [HS.out, List.append_nil]; exact hown, hnx⟩
            case measure => simp [intOf]; omega
          | some a =>
            have hc' : ∀ i u, (Lib.byteCells bs)[i]? = some u → wr.cell? (a.add i) = some u := fun i u hi' => by
              have h := hc a rfl i u hi'
              rw [hnx.cell (World.block_lt_of_cell? w _ h)]
              exact h
            have HC : Hid (∀ i u, (Lib.byteCells bs)[i]? = some u → wr.cell? (a.add i) = some u) := hc'
            clear hc' hc hn
            go_wp2_with (at_builtin; refine wpList_append_own _ rfl _ _ 22 rfl w.heap.size 5 i0 (.int .u8 0) 1 1 Try.underlying22 hi hz0 hz1 hz2 rfl (by decide) _ _ _ rfl hown a bs.length cap (Lib.byteCells bs) rfl ?c0 ?c1 ?c2 ?c3 ?c4 ?c5 ?_)
            case c0 => rw [Lib.byteCells_length]
            case c1 => exact HC.out
            case c2 => exact bytes_one bs
            case c3 => unfold maxLen; omega
            case c4 => omega
            intro v' w2 hown' hgrow _
            have hnx1 : Below w.heap.size w w2 := hnx.grown hgrow (by omega) (fun q hq => (hown.lt q hq).1)
            go_wp2
            go_roundw
            case rel => exact ⟨j + 1, by omega, by go_num, by rw [HS.out, List.length_append, Lib.byteCells_append]; exact hown', hnx1⟩
            case measure => simp [intOf]; omega
        · obtain rfl : j = k := by omega
          go_wp2
          go_ret
          exact ⟨_, rfl, hown, hnx⟩
end Go.Proofs.Ytffedjgbhdaecaa
