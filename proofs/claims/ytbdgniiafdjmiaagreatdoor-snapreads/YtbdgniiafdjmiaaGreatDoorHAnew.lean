/- heap: New; values made anew. -/
import Derived.Test.YtbdgniiafdjmiaaGreatDoorHMake
namespace Go.Proofs.YtbdgniiafdjmiaaGreatDoor
open Go.RowKit Go.Shelf

theorem setCellH_block {w : World} {N j : Nat} {c : Array Value} {ty : TypeId} {fr : Nat × Nat} (v : Value) (h : w.heap[N]? = some (.cells c ty fr)) : (w.setCell ⟨N, j, none⟩ v).heap[N]? = some (.cells (c.setIfInBounds j v) ty fr) := by
  unfold World.setCell
  simp [Array.getElem?_modify, h]
theorem cellsH3 {w : World} {N : Nat} {x0 x1 x2 : Value} {ty : TypeId} (h : w.heap[N]? = some (.cells #[x0, x1, x2] ty (0, 0))) :
    w.cell? ⟨N, 0, none⟩ = some x0 ∧ w.cell? ⟨N, 1, none⟩ = some x1 ∧ w.cell? ⟨N, 2, none⟩ = some x2 ∧ ∀ j, w.frozen? ⟨N, j, none⟩ = false := by
  refine ⟨?_, ?_, ?_, fun j => ?_⟩
  · simp only [World.cell?, h]; rfl
  · simp only [World.cell?, h]; rfl
  · simp only [World.cell?, h]; rfl
  · simp only [World.frozen?, h]; simp
theorem cellsH2 {w : World} {N : Nat} {x0 x1 : Value} {ty : TypeId} (h : w.heap[N]? = some (.cells #[x0, x1] ty (0, 0))) :
    w.cell? ⟨N, 0, none⟩ = some x0 ∧ w.cell? ⟨N, 1, none⟩ = some x1 ∧ ∀ j, w.frozen? ⟨N, j, none⟩ = false := by
  refine ⟨?_, ?_, fun j => ?_⟩
  · simp only [World.cell?, h]; rfl
  · simp only [World.cell?, h]; rfl
  · simp only [World.frozen?, h]; simp

set_option maxRecDepth 100000 in
set_option maxHeartbeats 2000000 in
theorem anew_any (v : Vl) (w : World) (hv : v.s.length ≤ 1048576) :
    Calls Tryz.prog 123 #[vlV v] w fun e w' => e = .returned (vlV v) ∧ Below w.heap.size w w' := by
  obtain ⟨k, m, s⟩ := v
  simp only at hv
  obtain ⟨w2, hw2⟩ : ∃ w2, w2 = (w.alloc (.cells #[.int .i64 k, .int .i64 m, .string (strB s)] 54)).alloc (.cells #[.int .i64 0, .int .i64 0, .string ⟨#[]⟩] 54) := ⟨_, rfl⟩
  have hb2 : Below w.heap.size w w2 := by rw [hw2]; exact ((Below.refl _ w).alloc (Nat.le_refl _) _).alloc (by simp) _
  have hz2 : w2.heap.size = w.heap.size + 2 := by rw [hw2]; simp
  have b0 : w2.heap[w.heap.size]? = some (.cells #[.int .i64 k, .int .i64 m, .string (strB s)] 54 (0, 0)) := by rw [hw2, Below.heap_alloc _ _ _ (by simp)]; exact World.alloc_heap_new _ _
  have b1 : w2.heap[w.heap.size + 1]? = some (.cells #[.int .i64 0, .int .i64 0, .string ⟨#[]⟩] 54 (0, 0)) := by
    rw [hw2]
    have := World.alloc_heap_new (w.alloc (.cells #[.int .i64 k, .int .i64 m, .string (strB s)] 54)) (.cells #[.int .i64 0, .int .i64 0, .string ⟨#[]⟩] 54)
    simpa using this
  have c := clone_str s w2 (by omega)
  have HB2 : Hid (Below w.heap.size w w2) := hb2
  rw [hw2] at c
  clear hb2
  go_enter Tryz.func123, Tryz.ntmps123
  go_wp2_with fail
  refine c.mono ?_
  clear c
  rw [← hw2]
  rintro e w3 ⟨rfl, hb3⟩
  have d0 := (hb3.block w.heap.size (by omega)).trans b0
  have d1 := (hb3.block (w.heap.size + 1) (by omega)).trans b1
  have HB3 : Hid (Below w.heap.size w w3) := HB2.out.trans (hb3.mono (by omega))
  obtain ⟨w4, hw4⟩ : ∃ w4, w4 = w3.setCell ⟨w.heap.size, 2, none⟩ (.string (strB s)) := ⟨_, rfl⟩
  have e0 : w4.heap[w.heap.size]? = some (.cells #[.int .i64 k, .int .i64 m, .string (strB s)] 54 (0, 0)) := by rw [hw4]; exact setCellH_block _ d0
  have e1 : w4.heap[w.heap.size + 1]? = some (.cells #[.int .i64 0, .int .i64 0, .string ⟨#[]⟩] 54 (0, 0)) := by rw [hw4, Below.heap_setCell _ _ _ _ (by simp)]; exact d1
  have HB4 : Hid (Below w.heap.size w w4) := show Below _ _ _ by rw [hw4]; exact HB3.out.setCell (by simp) _
  have z3 := setCellH_block (j := 2) (.string (strB s)) (setCellH_block (j := 1) (.int .i64 m) (setCellH_block (j := 0) (.int .i64 k) e1))
  obtain ⟨z0, z1, z2, -⟩ := cellsH3 (x0 := .int .i64 k) (x1 := .int .i64 m) (x2 := .string (strB s)) z3
  have HB5 : Hid (Below w.heap.size w (((w4.setCell ⟨w.heap.size + 1, 0, none⟩ (.int .i64 k)).setCell ⟨w.heap.size + 1, 1, none⟩ (.int .i64 m)).setCell ⟨w.heap.size + 1, 2, none⟩ (.string (strB s)))) := ((HB4.out.setCell (by simp) _).setCell (by simp) _).setCell (by simp) _
  obtain ⟨-, -, r2, rf⟩ := cellsH3 d0
  obtain ⟨q0, q1, q2, -⟩ := cellsH3 e0
  obtain ⟨p0, p1, p2, pf⟩ := cellsH3 e1
  have rf2 := rf 2
  have hw4' := hw4.symm
  clear hb3 hw2 d0 d1 e0 e1 b0 b1 z3 hw4 rf
  go_wp2
  exact bodyPost_ret (v := .agg #[.int .i64 k, .int .i64 m, .string (strB s)]) (by simp [results, Tryz.results123, go_sem, z0, z1, z2]) rfl ⟨rfl, HB5.out⟩

theorem append_vals_none {l : List Vl} {w : World} {B e n : Nat} {v : Value} (h : w.ownsRow B e 3 v n (vlC l)) : n = l.length := by have := h.1; rw [vlC_len] at this; omega

set_option maxRecDepth 100000 in
set_option maxHeartbeats 4000000 in
theorem allAnew_any (S : Nat → Prop) (l : List Vl) (vl : Value) (w : World) (hv : valsIn S w vl l) (hs : ∀ v ∈ l, smallV v) (hl : l.length ≤ 1048576) :
    Calls Tryz.prog 119 #[vl] w fun e w' => ∃ g cap, e = .returned (.slice (some ⟨g, 0, none⟩) l.length cap) ∧ w'.ownsRow w.heap.size 54 3 (.slice (some ⟨g, 0, none⟩) l.length cap) l.length (vlC l) ∧ Below w.heap.size w w' := by
  obtain ⟨i0, hi0, hz0, hz1, hz2⟩ := info_parts info_val
  have HS : Hid (∀ v ∈ l, smallV v) := hs
  obtain ⟨base, cap, rfl, hc1, hc2, hat⟩ := hv.at
  have HAT : Hid (∀ i (hi : i < l.length), ∃ b o, base = some ⟨b, o, none⟩ ∧ S b ∧ b < w.heap.size ∧ w.cell? ⟨b, o + i * 3, none⟩ = some (.int .i64 (l[i]).k) ∧ w.cell? ⟨b, o + i * 3 + 1, none⟩ = some (.int .i64 (l[i]).n) ∧ w.cell? ⟨b, o + i * 3 + 2, none⟩ = some (.string (strB (l[i]).s))) := hat
  obtain ⟨w1, hmk, hown1, hg1⟩ := run_make_own (P := Tryz.prog) w w.heap.size 47 54 i0 _ 3 Tryz.underlying47 hi0 hz0 hz1 .i64 .i64 l.length (by rw [hz2]; omega) (by unfold maxLen; omega) (Nat.le_refl _)
  have HO1 : Hid (w1.ownsRow w.heap.size 54 3 (.slice (some ⟨w.heap.size, 0, none⟩) 0 l.length) 0 []) := hown1
  have HB1 : Hid (Below w.heap.size w w1) := (Below.refl _ w).grown hg1 (Nat.le_refl _) (fun k h => by cases h)
  clear hs hv hat hown1 hg1
  go_enter Tryz.func119, Tryz.ntmps119
  go_wp2
  go_loopw [3, 11] (fun vb vi wr => ∃ (i g cp : Nat), i ≤ l.length ∧ vi = .int .i64 i ∧ vb = .slice (some ⟨g, 0, none⟩) i cp ∧ wr.ownsRow w.heap.size 54 3 vb i (vlC (l.take i)) ∧ Below w.heap.size w wr) (fun _ vi _ => l.length - (intOf vi).toNat)
  case atStart => exact ⟨0, _, _, Nat.zero_le _, rfl, rfl, HO1.out, HB1.out⟩
  case round =>
    obtain ⟨i, g, cp, hi, rfl, rfl, hown, hbw⟩ := hrel
    have HO : Hid (wr.ownsRow w.heap.size 54 3 (.slice (some ⟨g, 0, none⟩) i cp) i (vlC (l.take i))) := hown
    have HB : Hid (Below w.heap.size w wr) := hbw
    have hszw := hbw.size
    clear hown hbw hmk
    by_cases hlt : i < l.length
    · obtain ⟨b, o, rfl, -, hbl, q0, q1, q2⟩ := HAT.out i hlt
      have hi2 : (i : Int) < l.length := by omega
      have r0 := (below_cell HB.out hbl).trans q0
      have r1 := (below_cell HB.out hbl).trans q1
      have r2 := (below_cell HB.out hbl).trans q2
      obtain ⟨x, hx⟩ : ∃ x, x = l[i] := ⟨_, rfl⟩
      have hxs := HS.out l[i] (List.getElem_mem hlt)
      have HX : Hid (vlC (l.take (i + 1)) = vlC (l.take i) ++ vlL x) := show _ = _ by rw [List.take_succ_eq_append_getElem hlt, vlC_app, vlC_one, hx]
      rw [← hx] at r0 r1 r2 hxs
      obtain ⟨w2, hw2⟩ : ∃ w2, w2 = wr.alloc (.cells #[.int .i64 x.k, .int .i64 x.n, .string (strB x.s)] 54) := ⟨_, rfl⟩
      have hb2 : Below w.heap.size w w2 := by rw [hw2]; exact HB.out.alloc hszw _
      have hzw2 : w2.heap.size = wr.heap.size + 1 := by rw [hw2]; simp
      have HO2 : Hid (w2.ownsRow w.heap.size 54 3 (.slice (some ⟨g, 0, none⟩) i cp) i (vlC (l.take i))) := show World.ownsRow _ _ _ _ _ _ _ by rw [hw2]; exact HO.out.alloc _
      have c := anew_any x w2 hxs.2
      have HB2 : Hid (Below w.heap.size w w2) := hb2
      rw [hw2] at c
      clear hb2 q0 q1 q2 hx hxs HB HO
      go_wp2_with fail
      refine c.mono ?_
      clear c
      rw [← hw2]
      rintro e w3 ⟨rfl, hb3⟩
      have HB3 : Hid (Below w.heap.size w w3) := HB2.out.trans (hb3.mono (by omega))
      have HO3 : Hid (w3.ownsRow w.heap.size 54 3 (.slice (some ⟨g, 0, none⟩) i cp) i (vlC (l.take i))) := own_blocks HO2.out fun k _ hk => hb3.block k hk
      have hs3 := HB3.out.size
      clear hb3 hw2 HO2
      go_wp2_with (at_builtin; refine wpList_append_own_at _ rfl _ _ 47 rfl w.heap.size 54 i0 _ 3 32 Tryz.underlying47 hi0 hz0 hz1 hz2 rfl (by decide) _ _ _ rfl (HO3.out.alloc _) ⟨w3.heap.size, 0, none⟩ 1 1 [.int .i64 x.k, .int .i64 x.n, .string (strB x.s)] rfl rfl (cells_new _ _ _) (by simp [Value.oneCell']) (by unfold maxLen; omega) (by omega) (by simp; omega) ?_; intro v' w5 hown' hgrow _ hat)
      obtain ⟨g5, cap5, rfl⟩ : ∃ g5 cap5, v' = .slice (some ⟨g5, 0, none⟩) (i + 1) cap5 := by
        rcases hown'.2 with ⟨_, h0⟩ | ⟨g', cap', _, h1, _⟩
        · omega
        · exact ⟨g', cap', h1⟩
      have HB5 : Hid (Below w.heap.size w w5) := (HB3.out.alloc (by omega) _).grown hgrow (by simp; omega) (fun q hq => (HO3.out.lt q hq).1)
      refine ⟨⟨i + 1, g5, cap5, by omega, by go_num, rfl, by rw [HX.out]; exact hown', HB5.out⟩, by simp [intOf]; omega⟩
    · obtain rfl : i = l.length := by omega
      have hi2 : ¬ (l.length : Int) < l.length := by omega
      go_wp2
      go_ret
      refine ⟨g, cp, rfl, ?_, HB.out⟩
      have := HO.out
      rwa [List.take_length] at this
end Go.Proofs.YtbdgniiafdjmiaaGreatDoor
