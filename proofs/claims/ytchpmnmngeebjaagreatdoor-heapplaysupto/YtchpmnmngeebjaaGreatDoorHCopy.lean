/- heap: Copy; slices.Clone of the objects and of the cells. -/
import Derived.Test.YtchpmnmngeebjaaGreatDoorHAdd
import Derived.Test.YtchpmnmngeebjaaGreatDoorHAsk
import Derived.Test.YtchpmnmngeebjaaGreatDoorXLives
namespace Go.Proofs.YtchpmnmngeebjaaGreatDoor
open Go.RowKit Go.Shelf

/-- A row's cells, also of none. -/
theorem row_any {w : World} {B e sz n : Nat} {v : Value} {xs : List Value} (h : w.ownsRow B e sz v n xs) : (v = .slice none 0 0 ∧ n = 0 ∧ xs = []) ∨ ∃ g cap, v = .slice (some ⟨g, 0, none⟩) n cap ∧ ∀ j u, xs[j]? = some u → w.cell? ⟨g, j, none⟩ = some u := by
  obtain ⟨hl, ⟨rfl, rfl⟩ | ⟨g, cap, cur, rfl, hg, hh, hc, -, -, hx⟩⟩ := h
  · left
    refine ⟨rfl, rfl, ?_⟩
    simpa using hl
  · refine .inr ⟨g, cap, rfl, fun j u hj => ?_⟩
    rw [cell_of_row _ _ _ _ _ _ hh]
    rw [← hx, List.getElem?_take] at hj
    split at hj
    · rw [Array.getElem?_toList] at hj; exact hj
    · cases hj

theorem obj_one : ∀ (a : Nat) (os : List Ob), ∀ u ∈ objC a os, u.oneCell' = true
  | _, [], _, h => by cases h
  | a, o :: os, u, h => by
    simp only [objC, List.mem_cons] at h
    rcases h with rfl | rfl | rfl | h
    · rfl
    · rfl
    · rfl
    · exact obj_one _ os u h

set_option maxHeartbeats 1000000 in
set_option maxRecDepth 100000 in
theorem cloneO_any (v : Value) (n : Nat) (xs : List Value) (w : World) (h : w.ownsRow 0 79 3 v n xs) (h1 : ∀ u ∈ xs, u.oneCell' = true) (hn : n ≤ 4096) :
    Calls Tryz.prog 48 #[v] w fun e w' => ∃ v', e = .returned v' ∧ w'.ownsRow w.heap.size 79 3 v' n xs ∧ Below w.heap.size w w' := by
  obtain ⟨i0, hi, hz0, hz1, hz2⟩ := info_parts info_obj
  have hxl : xs.length = n * 3 := h.1
  rcases row_any h with ⟨rfl, rfl, rfl⟩ | ⟨g, cap, rfl, hc⟩
  · have heq := fun (wx : World) => Lib.run_eql_slice_nil (P := Tryz.prog) wx 43 79 none 0 0 0 0 Tryz.underlying43
    clear h h1 hxl
    go_enter Tryz.func48, Tryz.ntmps48
    go_wp2
    go_ret
    exact ⟨_, rfl, World.ownsRow_nil _ _ _ _, Below.refl _ _⟩
  · have heq := fun (wx : World) => Lib.run_eql_slice_nil (P := Tryz.prog) wx 43 79 (some ⟨g, 0, none⟩) n cap 0 0 Tryz.underlying43
    clear h
    have hl0 : (w.alloc (.cells #[] 79)).ownsRow w.heap.size 79 3 (.slice (some ⟨w.heap.size, 0, none⟩) 0 0) 0 [] := World.ownsRow_made w #[] 0 (Nat.le_refl _) (Nat.zero_le _) rfl
    go_enter Tryz.func48, Tryz.ntmps48
    go_wp2_with (at_builtin; refine wpList_append_own_at _ rfl _ _ 43 rfl w.heap.size 79 i0 _ 3 32 Tryz.underlying43 hi hz0 hz1 hz2 rfl (by decide) _ _ _ rfl hl0 ⟨g, 0, none⟩ n cap xs rfl hxl ?c1 h1 ?c3 ?c4 ?c5 ?_)
    case c1 => intro j u hj; rw [add_plain, Nat.zero_add]; exact Lib.cell?_alloc_some _ (hc j u hj)
    case c3 => unfold maxLen; omega
    case c4 => omega
    case c5 => simp
    intro v' w1 hown' hgrow _ _
    go_wp2
    go_ret
    refine ⟨v', rfl, by simpa using hown', ?_⟩
    exact ((Below.refl _ _).alloc (Nat.le_refl _) _).grown hgrow (by simp) (fun k hk => (hl0.lt k hk).1)

set_option maxHeartbeats 1000000 in
set_option maxRecDepth 100000 in
theorem cloneV_any (v : Value) (n : Nat) (xs : List Value) (w : World) (h : w.ownsRow 0 25 3 v n xs) (h1 : ∀ u ∈ xs, u.oneCell' = true) (hn : n ≤ 4096) :
    Calls Tryz.prog 49 #[v] w fun e w' => ∃ v', e = .returned v' ∧ w'.ownsRow w.heap.size 25 3 v' n xs ∧ Below w.heap.size w w' := by
  obtain ⟨i0, hi, hz0, hz1, hz2⟩ := info_parts info_val
  have hxl : xs.length = n * 3 := h.1
  rcases row_any h with ⟨rfl, rfl, rfl⟩ | ⟨g, cap, rfl, hc⟩
  · have heq := fun (wx : World) => Lib.run_eql_slice_nil (P := Tryz.prog) wx 33 25 none 0 0 0 0 Tryz.underlying33
    clear h h1 hxl
    go_enter Tryz.func49, Tryz.ntmps49
    go_wp2
    go_ret
    exact ⟨_, rfl, World.ownsRow_nil _ _ _ _, Below.refl _ _⟩
  · have heq := fun (wx : World) => Lib.run_eql_slice_nil (P := Tryz.prog) wx 33 25 (some ⟨g, 0, none⟩) n cap 0 0 Tryz.underlying33
    clear h
    have hl0 : (w.alloc (.cells #[] 25)).ownsRow w.heap.size 25 3 (.slice (some ⟨w.heap.size, 0, none⟩) 0 0) 0 [] := World.ownsRow_made w #[] 0 (Nat.le_refl _) (Nat.zero_le _) rfl
    go_enter Tryz.func49, Tryz.ntmps49
    go_wp2_with (at_builtin; refine wpList_append_own_at _ rfl _ _ 33 rfl w.heap.size 25 i0 _ 3 32 Tryz.underlying33 hi hz0 hz1 hz2 rfl (by decide) _ _ _ rfl hl0 ⟨g, 0, none⟩ n cap xs rfl hxl ?c1 h1 ?c3 ?c4 ?c5 ?_)
    case c1 => intro j u hj; rw [add_plain, Nat.zero_add]; exact Lib.cell?_alloc_some _ (hc j u hj)
    case c3 => unfold maxLen; omega
    case c4 => omega
    case c5 => simp
    intro v' w1 hown' hgrow _ _
    go_wp2
    go_ret
    refine ⟨v', rfl, by simpa using hown', ?_⟩
    exact ((Below.refl _ _).alloc (Nat.le_refl _) _).grown hgrow (by simp) (fun k hk => (hl0.lt k hk).1)

theorem own_base0 {w : World} {B C e sz n : Nat} {v : Value} {xs : List Value} (h : w.ownsRow B e sz v n xs) (hC : C ≤ B) : w.ownsRow C e sz v n xs := by
  refine ⟨h.1, ?_⟩
  rcases h.2 with h1 | ⟨g', c', cur, q1, q2, q3⟩
  · exact .inl h1
  · exact .inr ⟨g', c', cur, q1, by omega, q3⟩

theorem copy_mk {S : Nat → Prop} {w w1 w3 : World} {most : Nat} {os : List Ob} {h : Nat} {vo vc vo' vc' : Value} (H : HpIn S w most os h vo vc) (hb1 : Below w.heap.size w w1) (hz : w1.heap.size = w.heap.size + 1)
    (hbk : w1.heap[w.heap.size]? = some (.cells #[.bool true, .int .i64 (most : Int), vo, vc] 45 (0, 0))) (hb3 : Below w1.heap.size w1 w3)
    (hO : w3.ownsRow w1.heap.size 79 3 vo' os.length (objC 0 os)) (hC : w3.ownsRow w1.heap.size 25 3 vc' (allV os).length (vlC (allV os))) :
    HpIn (fun k => w.heap.size ≤ k) ((w3.setCell ⟨w.heap.size, 2, none⟩ vo').setCell ⟨w.heap.size, 3, none⟩ vc') most os w.heap.size vo' vc' ∧ Below w.heap.size w ((w3.setCell ⟨w.heap.size, 2, none⟩ vo').setCell ⟨w.heap.size, 3, none⟩ vc') := by
  have b3 := (hb3.block w.heap.size (by omega)).trans hbk
  have b4 : (w3.setCell ⟨w.heap.size, 2, none⟩ vo').heap[w.heap.size]? = some (.cells #[.bool true, .int .i64 (most : Int), vo', vc] 45 (0, 0)) := setCellH_block _ b3
  have b5 : ((w3.setCell ⟨w.heap.size, 2, none⟩ vo').setCell ⟨w.heap.size, 3, none⟩ vc').heap[w.heap.size]? = some (.cells #[.bool true, .int .i64 (most : Int), vo', vc'] 45 (0, 0)) := setCellH_block _ b4
  have hk : ∀ k, k ≠ w.heap.size → ((w3.setCell ⟨w.heap.size, 2, none⟩ vo').setCell ⟨w.heap.size, 3, none⟩ vc').heap[k]? = w3.heap[k]? := fun k hk => (Below.heap_setCell _ _ _ _ hk).trans (Below.heap_setCell _ _ _ _ hk)
  refine ⟨⟨b5, own_blocks (own_base0 hO (Nat.zero_le _)) fun k e _ => hk k ?_, own_blocks (own_base0 hC (Nat.zero_le _)) fun k e _ => hk k ?_, Nat.le_refl _, fun k e => ?_, fun k e => ?_, H.ok, H.use, H.may⟩, ?_⟩
  · have := (hO.lt k e).1; omega
  · have := (hC.lt k e).1; omega
  · have := (hO.lt k e).1; show w.heap.size ≤ k; omega
  · have := (hC.lt k e).1; show w.heap.size ≤ k; omega
  · have hb : Below w.heap.size w w3 := hb1.trans (hb3.mono (by omega))
    exact ⟨hb.os, hb.tape, hb.output, by have := hb.size; simpa using this, fun k hlt => (hk k (by omega)).trans (hb.block k hlt)⟩

set_option maxRecDepth 100000 in
set_option maxHeartbeats 4000000 in
theorem copy_any {S : Nat → Prop} {most : Nat} {os : List Ob} {h : Nat} {vo vc : Value} (w : World) (H : HpIn S w most os h vo vc) :
    Calls Tryz.prog 25 #[.pointer (some ⟨h, 0, none⟩)] w fun e w' => ∃ vo' vc', e = .returned (.pointer (some ⟨w.heap.size, 0, none⟩)) ∧ HpIn (fun k => w.heap.size ≤ k) w' most os w.heap.size vo' vc' ∧ Below w.heap.size w w' := by
  have ci := isThere_any w H
  have huse := H.use
  have hmay := H.may
  have hlt := H.lt
  obtain ⟨ob, oc, hvo, ho1, ho2⟩ := own_val H.objs
  obtain ⟨cb, cc, hvc, hc1, hc2⟩ := own_val H.cells
  subst hvo hvc
  obtain ⟨c0, c1, c2, c3, -⟩ := cells4 H.blk
  obtain ⟨w1, hw1⟩ : ∃ w1, w1 = w.alloc (.cells #[.bool true, .int .i64 (most : Int), .slice ob os.length oc, .slice cb (allV os).length cc] 45) := ⟨_, rfl⟩
  have hb1 : Below w.heap.size w w1 := by rw [hw1]; exact (Below.refl _ w).alloc (Nat.le_refl _) _
  have hz1' : w1.heap.size = w.heap.size + 1 := by rw [hw1]; simp
  have hblk1 : w1.heap[w.heap.size]? = some (.cells #[.bool true, .int .i64 (most : Int), .slice ob os.length oc, .slice cb (allV os).length cc] 45 (0, 0)) := by rw [hw1]; exact World.alloc_heap_new _ _
  have H1 : HpIn S w1 most os h (.slice ob os.length oc) (.slice cb (allV os).length cc) := H.below hb1
  obtain ⟨-, -, d2, d3, -⟩ := cells4 H1.blk
  have hBd : Below w1.heap.size w1 w1.drew := (Below.refl _ _).drew
  have co : ∀ W, Below w1.heap.size w1 W → Calls Tryz.prog 48 #[.slice ob os.length oc] W fun e w2 => ∃ b2 p2, e = .returned (.slice b2 os.length p2) ∧ w2.cell? ⟨h, 2, none⟩ = some (.slice ob os.length oc) ∧ w2.cell? ⟨h, 3, none⟩ = some (.slice cb (allV os).length cc) ∧ Hid (w2.ownsRow w1.heap.size 79 3 (.slice b2 os.length p2) os.length (objC 0 os)) ∧ Hid (Below w1.heap.size w1 w2) := fun W hW => by
    refine (cloneO_any _ _ _ W (H1.below hW).objs (obj_one 0 os) (by omega)).mono ?_
    rintro e w2 ⟨v2, rfl, ho, hb⟩
    have hb2 : Below w1.heap.size w1 w2 := hW.trans (hb.mono hW.size)
    obtain ⟨b2, p2, rfl, -, -⟩ := own_val ho
    have hsW := hW.size
    refine ⟨b2, p2, rfl, (below_cell hb2 (by omega)).trans d2, (below_cell hb2 (by omega)).trans d3, ?_, hb2⟩
    refine ⟨ho.1, ?_⟩
    rcases ho.2 with h1 | ⟨g', c', cur, q1, q2, q3⟩
    · exact .inl h1
    · exact .inr ⟨g', c', cur, q1, by omega, q3⟩
  have cv : ∀ W b2 p2, W.ownsRow w1.heap.size 79 3 (.slice b2 os.length p2) os.length (objC 0 os) → Below w1.heap.size w1 W → Calls Tryz.prog 49 #[.slice cb (allV os).length cc] W fun e w3 => ∃ b3 p3, e = .returned (.slice b3 (allV os).length p3) ∧ w3.cell? ⟨w.heap.size, 2, none⟩ = some (.slice ob os.length oc) ∧ w3.cell? ⟨w.heap.size, 3, none⟩ = some (.slice cb (allV os).length cc) ∧ (∀ j, w3.frozen? ⟨w.heap.size, j, none⟩ = false) ∧
      Hid (w3.ownsRow w1.heap.size 79 3 (.slice b2 os.length p2) os.length (objC 0 os)) ∧ Hid (w3.ownsRow w1.heap.size 25 3 (.slice b3 (allV os).length p3) (allV os).length (vlC (allV os))) ∧ Hid (Below w1.heap.size w1 w3) := fun W b2 p2 hO hW => by
    refine (cloneV_any _ _ _ W (H1.below hW).cells (vl_one _) (by omega)).mono ?_
    rintro e w3 ⟨v3, rfl, ho, hb⟩
    have hb3 : Below w1.heap.size w1 w3 := hW.trans (hb.mono hW.size)
    obtain ⟨b3, p3, rfl, -, -⟩ := own_val ho
    have hsW := hW.size
    obtain ⟨-, -, g2, g3, gf⟩ := cells4 ((hb3.block w.heap.size (by omega)).trans hblk1)
    refine ⟨b3, p3, rfl, g2, g3, gf, own_blocks hO fun k _ hk => hb.block k hk, ?_, hb3⟩
    refine ⟨ho.1, ?_⟩
    rcases ho.2 with h1 | ⟨g', c', cur, q1, q2, q3⟩
    · exact .inl h1
    · exact .inr ⟨g', c', cur, q1, by omega, q3⟩
  have HH : Hid (HpIn S w most os h (.slice ob os.length oc) (.slice cb (allV os).length cc)) := H
  have HB1 : Hid (Below w.heap.size w w1) := hb1
  have HBK : Hid (w1.heap[w.heap.size]? = some (.cells #[.bool true, .int .i64 (most : Int), .slice ob os.length oc, .slice cb (allV os).length cc] 45 (0, 0))) := hblk1
  have hw1' := hw1.symm
  obtain ⟨M, hM⟩ : ∃ M, M = w.heap.size := ⟨_, rfl⟩
  have HZ1 : Hid (w1.heap.size = w.heap.size + 1) := hz1'
  clear H H1 hb1 hblk1 hw1 hz1' hM
  go_enter Tryz.func25, Tryz.ntmps25
  go_wp2_with fail
  refine ci.mono ?_
  clear ci
  rintro e wi ⟨rfl, rfl⟩
  go_wp2_with fail
  go_region_with (first
    | (go_at_call 48; refine (co _ hBd).mono ?_; rintro e w2 ⟨b2, p2, rfl, t2, t3, HO2, HB2⟩)
    | (go_at_call 49; refine (cv _ b2 p2 HO2.out HB2.out).mono ?_; rintro e w3 ⟨b3, p3, rfl, s2, s3, sf, HO3, HC3, HB3⟩; have sf2 := sf 2; have sf3 := sf 3))
  all_goals
    have HM := copy_mk HH.out HB1.out HZ1.out HBK.out HB3.out HO3.out HC3.out
    go_wp2
    go_ret
    exact ⟨_, _, rfl, HM.1, HM.2⟩
end Go.Proofs.YtchpmnmngeebjaaGreatDoor
