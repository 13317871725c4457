/- heap: All. -/
import Derived.Test.YtchpmnmngeebjaaGreatDoorHShow2
namespace Go.Proofs.YtchpmnmngeebjaaGreatDoor
open Go.RowKit Go.Shelf

set_option maxRecDepth 100000 in
theorem info_Obj : (Tryz.prog.info? 71).map (fun i => (i.zero, i.size, i.bytes)) = some (some (.agg #[.string ⟨#[]⟩, .slice none 0 0]), 2, 40) := by kernel_rfl

/-- Objects' cells: a tag, and a row of values. -/
def obsC : List Ob → List Value → List Value
  | o :: os, v :: vs => .string (strB o.1) :: v :: obsC os vs
  | _, _ => []
theorem obsC_len : ∀ (os : List Ob) (vs : List Value), vs.length = os.length → (obsC os vs).length = os.length * 2
  | [], [], _ => rfl
  | o :: os, v :: vs, h => by simp only [obsC, List.length_cons, obsC_len os vs (by simpa using h)]; omega
  | [], _ :: _, h => by simp at h
  | _ :: _, [], h => by simp at h
theorem obsC_snoc : ∀ (os : List Ob) (vs : List Value) (o : Ob) (v : Value), vs.length = os.length → obsC (os ++ [o]) (vs ++ [v]) = obsC os vs ++ [.string (strB o.1), v]
  | [], [], o, v, _ => rfl
  | p :: os, u :: vs, o, v, h => by rw [List.cons_append, List.cons_append, obsC, obsC, obsC_snoc os vs o v (by simpa using h)]; rfl
  | [], _ :: _, _, _, h => by simp at h
  | _ :: _, [], _, _, h => by simp at h
theorem obsC_at : ∀ (os : List Ob) (vs : List Value) (_ : vs.length = os.length) (j : Nat) (hj : j < os.length), (obsC os vs)[j * 2]? = some (.string (strB (os[j]).1)) ∧ (obsC os vs)[j * 2 + 1]? = vs[j]?
  | [], _, _, _, h => by cases h
  | _ :: _, [], h, _, _ => by simp at h
  | o :: os, v :: vs, _, 0, _ => ⟨rfl, rfl⟩
  | o :: os, v :: vs, h, j + 1, hj => by
    have ih := obsC_at os vs (by simpa using h) j (by simpa using hj)
    rw [obsC, show (j + 1) * 2 = j * 2 + 2 by omega, show j * 2 + 2 + 1 = (j * 2 + 1) + 2 by omega]
    simp only [List.getElem?_cons_succ, List.getElem_cons_succ]
    exact ih

/-- A row of objects of its own, each with a row of values of its own. -/
structure ObsOwn (B : Nat) (w : World) (os : List Ob) (v : Value) (vs : List Value) : Prop where
  len : vs.length = os.length
  row : w.ownsRow B 71 2 v os.length (obsC os vs)
  kids : ∀ j (hj : j < os.length), ∃ u, vs[j]? = some u ∧ w.ownsRow B 25 3 u (os[j]).2.length (vlC (os[j]).2)

/-- .. in rows that are not told. -/
def ObsAt (B : Nat) (w : World) (os : List Ob) (v : Value) : Prop := ∃ vs, ObsOwn B w os v vs

theorem ObsOwn.kept {B : Nat} {w w' : World} {os : List Ob} {v : Value} {vs : List Value} (h : ObsOwn B w os v vs) (hb : ∀ k, B ≤ k → k < w.heap.size → w'.heap[k]? = w.heap[k]?) : ObsOwn B w' os v vs where
  len := h.len
  row := own_blocks h.row fun k hk hlt => hb k (h.row.lt k hk).1 hlt
  kids := fun j hj => by
    obtain ⟨u, hu, ho⟩ := h.kids j hj
    exact ⟨u, hu, own_blocks ho fun k hk hlt => hb k (ho.lt k hk).1 hlt⟩

theorem ObsOwn.snoc {B : Nat} {w w' : World} {os : List Ob} {v v' : Value} {vs : List Value} (h : ObsOwn B w os v vs) {o : Ob} {u : Value} {ob : Obj} (hu : w.ownsRow B 25 3 u o.2.length (vlC o.2))
    (ho : w'.ownsRow B 71 2 v' (os.length + 1) (obsC os vs ++ [.string (strB o.1), u])) (hg : (w.alloc ob).grownBy w' v.ownBlock) : ObsOwn B w' (os ++ [o]) v' (vs ++ [u]) := by
  have hkeep : ∀ u n l, w.ownsRow B 25 3 u n l → w'.ownsRow B 25 3 u n l := fun u n l h9 => own_blocks h9 fun k hk hlt => by
    rw [hg.block k (by simp; omega) (fun e => ?_), Below.heap_alloc _ _ _ hlt]
    obtain ⟨cur, hc⟩ := own_type h.row e.symm
    obtain ⟨cur', hc'⟩ := own_type h9 hk
    rw [hc] at hc'
    simp at hc'
  refine ⟨by simp [h.len], ?_, fun j hj => ?_⟩
  · rw [List.length_append, List.length_singleton, obsC_snoc _ _ _ _ h.len]; exact ho
  · rw [List.length_append, List.length_singleton] at hj
    rcases Nat.lt_or_ge j os.length with hlt | hge
    · obtain ⟨q, hq, hqo⟩ := h.kids j hlt
      refine ⟨q, by rw [List.getElem?_append_left (by rw [h.len]; exact hlt)]; exact hq, ?_⟩
      rw [List.getElem_append_left hlt]
      exact hkeep _ _ _ hqo
    · obtain rfl : j = os.length := by omega
      refine ⟨u, by rw [← h.len]; simp, ?_⟩
      rw [List.getElem_append_right (Nat.le_refl _)]
      simp only [Nat.sub_self, List.getElem_cons_zero]
      exact hkeep _ _ _ hu

/-- The slice value v reads in the world w as these objects; all lies in blocks of S. -/
def objsIn (S : Nat → Prop) (w : World) (v : Value) (os : List Ob) : Prop :=
  ∃ base cap, v = .slice base os.length cap ∧ os.length ≤ cap ∧ cap ≤ maxLen ∧
    (os = [] ∨ ∃ b o, base = some ⟨b, o, none⟩ ∧ S b ∧ b < w.heap.size ∧ ∀ j (hj : j < os.length), ∃ u, w.cell? ⟨b, o + j * 2, none⟩ = some (.string (strB (os[j]).1)) ∧ w.cell? ⟨b, o + j * 2 + 1, none⟩ = some u ∧ valsIn S w u (os[j]).2)
theorem objsIn.kept {S : Nat → Prop} {w w' : World} {v : Value} {os : List Ob} (h : objsIn S w v os) (hs : w.heap.size ≤ w'.heap.size) (hb : ∀ k, S k → k < w.heap.size → w'.heap[k]? = w.heap[k]?) : objsIn S w' v os := by
  obtain ⟨base, cap, hv, h1, h2, h3⟩ := h
  refine ⟨base, cap, hv, h1, h2, ?_⟩
  rcases h3 with h3 | ⟨b, o, e, hS, hlt, hc⟩
  · exact .inl h3
  · refine .inr ⟨b, o, e, hS, Nat.lt_of_lt_of_le hlt hs, fun j hj => ?_⟩
    obtain ⟨u, c0, c1, hv⟩ := hc j hj
    exact ⟨u, (World.cell?_of_block (hb b hS hlt)).trans c0, (World.cell?_of_block (hb b hS hlt)).trans c1, hv.kept hs hb⟩
theorem objsIn.wide {S S' : Nat → Prop} {w : World} {v : Value} {os : List Ob} (h : objsIn S w v os) (hS : ∀ k, k < w.heap.size → S k → S' k) : objsIn S' w v os := by
  obtain ⟨base, cap, hv, h1, h2, h3⟩ := h
  refine ⟨base, cap, hv, h1, h2, ?_⟩
  rcases h3 with h3 | ⟨b, o, e, hs, hlt, hc⟩
  · exact .inl h3
  · refine .inr ⟨b, o, e, hS b hlt hs, hlt, fun j hj => ?_⟩
    obtain ⟨u, c0, c1, hv⟩ := hc j hj
    exact ⟨u, c0, c1, hv.low.wide fun k hk => hS k hk.2 hk.1⟩
theorem ObsOwn.read {B : Nat} {w : World} {os : List Ob} {v : Value} {vs : List Value} (h : ObsOwn B w os v vs) : objsIn (fun k => B ≤ k) w v os := by
  rcases h.row.2 with ⟨hv, h0⟩ | ⟨g, cap, cur, hv, hg, hh, h1, h2, _, _⟩
  · exact ⟨none, 0, by rw [hv, h0], by omega, Nat.zero_le _, .inl (List.length_eq_zero_iff.1 h0)⟩
  · refine ⟨_, cap, hv, h1, h2, .inr ⟨g, 0, rfl, hg, (Array.getElem?_eq_some_iff.1 hh).1, fun j hj => ?_⟩⟩
    obtain ⟨u, hu, ho⟩ := h.kids j hj
    obtain ⟨a0, a1⟩ := obsC_at os vs h.len j hj
    have key : ∀ q z, (obsC os vs)[q]? = some z → w.cell? ⟨g, 0 + q, none⟩ = some z := fun q z hq => by
      have := h.row.cells (g := g) (by rw [hv]; rfl) q z hq
      by_cases h0 : q = 0
      · subst h0; simpa [Addr.add] using this
      · simpa [Addr.add, h0] using this
    exact ⟨u, key _ _ a0, by have := key _ _ (a1.trans hu); rwa [← Nat.add_assoc] at this, (valsIn_own ho).wide fun k hk => hk.1⟩

set_option maxRecDepth 100000 in
set_option maxHeartbeats 4000000 in
theorem hall_any {S : Nat → Prop} {most : Nat} {os : List Ob} {h : Nat} {vo vc : Value} (w : World) (H : HpIn S w most os h vo vc) :
    Calls Tryz.prog 13 #[.pointer (some ⟨h, 0, none⟩)] w fun e w' => ∃ v, e = .returned v ∧ ObsAt w.heap.size w' os v ∧ Below w.heap.size w w' := by
  obtain ⟨i0, hi0, hz0, hz1, hz2⟩ := info_parts info_Obj
  have ci := isThere_any w H
  have huse := H.use
  have hmay := H.may
  obtain ⟨-, -, c2, -, -⟩ := cells4 H.blk
  obtain ⟨ob, oc, hvo, ho1, ho2⟩ := own_val H.objs
  subst hvo
  have HH : Hid (HpIn S w most os h (.slice ob os.length oc) vc) := H
  clear H
  go_enter Tryz.func13, Tryz.ntmps13
  go_wp2_with fail
  refine ci.mono ?_
  clear ci
  rintro e w1 ⟨rfl, rfl⟩
  go_wp2
  go_loopw [3, 14] (fun vb vi wr => ∃ (i : Nat) (vs : List Value), i ≤ os.length ∧ vi = .int .i64 i ∧ ObsOwn w.heap.size wr (os.take i) vb vs ∧ Below w.heap.size w wr) (fun _ vi _ => os.length - (intOf vi).toNat)
  case atStart => exact ⟨0, [], Nat.zero_le _, rfl, ⟨rfl, World.ownsRow_nil _ _ _ _, fun j hj => by simp at hj⟩, Below.refl _ _⟩
  case round =>
    obtain ⟨i, vs, hi, rfl, hO, hbw⟩ := hrel
    have HO : Hid (ObsOwn w.heap.size wr (os.take i) u3 vs) := hO
    have HB : Hid (Below w.heap.size w wr) := hbw
    have hsw := hbw.size
    clear hO hbw
    by_cases hlt : i < os.length
    · have hi2 : (i : Int) < os.length := by omega
      obtain ⟨g, oc', hvo, -, hg, hoc, hcell⟩ := row_cells HH.out.objs (by omega)
      simp only [Value.slice.injEq] at hvo
      obtain ⟨rfl, -, rfl⟩ := hvo
      obtain ⟨a0, a1, a2⟩ := objC_at 0 os i hlt
      have e0 := (below_cell HB.out hg).trans (hcell _ _ a0)
      have g1 := (below_cell HB.out hg).trans (hcell _ _ a1)
      have g2 := (below_cell HB.out hg).trans (hcell _ _ a2)
      rw [Nat.zero_add] at g1 g2
      have hsm := (HH.out.ok _ (List.getElem_mem hlt)).2
      obtain ⟨hcut, -⟩ := allV_cut os i hlt
      have hln : (os[i]).2.length ≤ 1048576 := by omega
      have hlm : (os[i]).2.length ≤ maxLen := by unfold maxLen; omega
      have htl : (os[i]).1.length ≤ 1048576 := hsm.1
      obtain ⟨fo, hfo⟩ : ∃ fo, fo = foundO os i hlt := ⟨_, rfl⟩
      have cc : ∀ W, Below wr.heap.size wr W → Calls Tryz.prog 37 #[.pointer (some ⟨h, 0, none⟩), foundO os i hlt] W fun e w3 => ∃ base, e = .returned (.slice base (os[i]).2.length (os[i]).2.length) ∧ Hid (valsIn S w3 (.slice base (os[i]).2.length (os[i]).2.length) (os[i]).2) ∧ Hid (Below wr.heap.size wr w3) := fun W hW => by
        have hbW : Below w.heap.size w W := HB.out.trans (hW.mono hsw)
        refine (cellsOf_any i hlt W (HH.out.below hbW)).mono ?_
        rintro e w3 ⟨base, rfl, hb3, hbase⟩
        refine ⟨base, rfl, ?_, hW.trans (hb3.mono hW.size)⟩
        have := cells_vals ((HH.out.below hbW).below hb3) i hlt hbase (os[i]).2.length (Nat.le_refl _) hlm
        rwa [List.take_of_length_le (Nat.le_refl _)] at this
      have ca : ∀ W base, valsIn S W (.slice base (os[i]).2.length (os[i]).2.length) (os[i]).2 → Below wr.heap.size wr W → Calls Tryz.prog 36 #[.slice base (os[i]).2.length (os[i]).2.length] W fun e w4 => ∃ g4 cap4, e = .returned (.slice (some ⟨g4, 0, none⟩) (os[i]).2.length cap4) ∧ Hid (w4.ownsRow w.heap.size 25 3 (.slice (some ⟨g4, 0, none⟩) (os[i]).2.length cap4) (os[i]).2.length (vlC (os[i]).2)) ∧ Hid (Below wr.heap.size wr w4) := fun W base hv hW => by
        refine (allAnew_any S (os[i]).2 _ W hv hsm.2 hln).mono ?_
        rintro e w4 ⟨g4, cap4, rfl, ho, hb⟩
        have hsW := hW.size
        refine ⟨g4, cap4, rfl, ?_, hW.trans (hb.mono hsW)⟩
        refine ⟨ho.1, ?_⟩
        rcases ho.2 with h1 | ⟨g', c', cur, q1, q2, q3⟩
        · exact .inl h1
        · exact .inr ⟨g', c', cur, q1, by omega, q3⟩
      have ct : ∀ W, Below wr.heap.size wr W → Calls Tryz.prog 35 #[.string (strB (os[i]).1)] W fun e w2 => e = .returned (.string (strB (os[i]).1)) ∧ Hid (Below wr.heap.size wr w2) := fun W hW => (clone_str (os[i]).1 W (by omega)).mono fun e w2 ⟨he, hb⟩ => ⟨he, hW.trans (hb.mono hW.size)⟩
      have HTK : Hid (os.take (i + 1) = os.take i ++ [os[i]]) := List.take_succ_eq_append_getElem hlt
      have HTL : Hid ((os.take i).length = i) := by show _ = _; rw [List.length_take]; omega
      obtain ⟨tg, htg⟩ : ∃ tg, tg = (os[i]).1 := ⟨_, rfl⟩
      obtain ⟨cs, hcs⟩ : ∃ cs, cs = (os[i]).2 := ⟨_, rfl⟩
      obtain ⟨fr, up, hfo⟩ : ∃ fr up : Int, foundO os i hlt = .agg #[.string (strB tg), .int .i64 fr, .int .i64 up] ∧ wr.cell? ⟨g, i * 3 + 1, none⟩ = some (.int .i64 fr) ∧ wr.cell? ⟨g, i * 3 + 2, none⟩ = some (.int .i64 up) := ⟨_, _, by rw [htg], g1, g2⟩
      obtain ⟨hfo, e1, e2⟩ := hfo
      clear g1 g2
      rw [hfo] at cc
      have HOI : Hid (os[i] = (tg, cs)) := by show _ = _; rw [htg, hcs]
      simp only [← hcs] at cc ca hln hlm
      rw [← htg] at ct e0 htl
      clear hfo htg hcs hsm a0 a1 a2 hcell hcut
      obtain ⟨w2, hw2⟩ : ∃ w2, w2 = wr.alloc (.cells #[.string (strB tg), .int .i64 fr, .int .i64 up] 79) := ⟨_, rfl⟩
      have hs2 : w2.heap.size = wr.heap.size + 1 := by rw [hw2]; simp
      have hr2 : Below wr.heap.size wr w2 := by rw [hw2]; exact (Below.refl _ _).alloc (Nat.le_refl _) _
      have hbx : w2.heap[wr.heap.size]? = some (.cells #[.string (strB tg), .int .i64 fr, .int .i64 up] 79 (0, 0)) := by rw [hw2]; exact World.alloc_heap_new _ _
      obtain ⟨p0, p1, p2, -⟩ := cellsH3 hbx
      have ct' : ∀ W, Below w2.heap.size w2 W → Calls Tryz.prog 35 #[.string (strB tg)] W fun e w3 => e = .returned (.string (strB tg)) ∧ w3.cell? ⟨wr.heap.size, 0, none⟩ = some (.string (strB tg)) ∧ w3.cell? ⟨wr.heap.size, 1, none⟩ = some (.int .i64 fr) ∧ w3.cell? ⟨wr.heap.size, 2, none⟩ = some (.int .i64 up) ∧ Hid (Below wr.heap.size wr w3) := fun W hW => (clone_str tg W (by omega)).mono fun e w3 ⟨he, hb⟩ => by
        have h23 : Below w2.heap.size w2 w3 := hW.trans (hb.mono hW.size)
        obtain ⟨q0, q1, q2, -⟩ := cellsH3 ((h23.block _ (by omega)).trans hbx)
        exact ⟨he, q0, q1, q2, hr2.trans (h23.mono (by omega))⟩
      have hBd : Below w2.heap.size w2 w2.drew := (Below.refl _ _).drew
      have hw2' := hw2.symm
      obtain ⟨n, hn⟩ : ∃ n, n = cs.length := ⟨_, rfl⟩
      simp only [← hn] at cc ca hln hlm
      have HNC : Hid (n = cs.length) := hn
      clear hw2 hbx hr2 ct hn
      go_wp2_with fail
      go_region_law (first
        | (refine step_append_at (.tmp 18) (.tmp 27) 28 rfl (by rfl) w.heap.size 71 i0 _ 2 40 Tryz.underlying28 hi0 hz0 hz1 hz2 rfl (by decide) _ i _ rfl (HR5.out.alloc _) ⟨w5.heap.size, 0, none⟩ 1 1 [.string (strB tg), .slice (some ⟨g5, 0, none⟩) n cap5] rfl rfl (cells_new _ _ _) (by simp [Value.oneCell']) (by unfold maxLen; omega) (by omega) (by have := HB5.out.size; simp; omega) ?_
           intro v6 w6 hown6 hg6 hat6
           have HO6 : Hid (ObsOwn w.heap.size w6 (os.take (i + 1)) v6 (vs ++ [.slice (some ⟨g5, 0, none⟩) n cap5])) := (by show ObsOwn _ _ _ _ _; rw [HTK.out, HOI.out]; exact HOB5.out.snoc (o := (tg, cs)) HO5.out (by rw [HTL.out]; exact hown6) hg6)
           have HB6 : Hid (Below w.heap.size w w6) := (by have hB5 : Below w.heap.size w w5 := HB.out.trans (HB5.out.mono hsw); exact (hB5.alloc hB5.size _).grown hg6 (by have := hB5.size; simp; omega) (fun q hq => (HOB5.out.row.lt q hq).1))
           clear hown6 hg6 hat6)
        | (go_simp
           go_at_call 36
           refine (ca _ base HV4.out HB4.out).mono ?_
           rintro e w5 ⟨g5, cap5, rfl, HO5', HB5⟩
           have HO5 : Hid (w5.ownsRow w.heap.size 25 3 (.slice (some ⟨g5, 0, none⟩) n cap5) cs.length (vlC cs)) := (by show World.ownsRow _ _ _ _ _ _ _; rw [← HNC.out]; exact HO5'.out)
           have HOB5 : Hid (ObsOwn w.heap.size w5 (os.take i) u3 vs) := HO.out.kept (fun q _ hq => HB5.out.block q hq)
           have HR5 : Hid (w5.ownsRow w.heap.size 71 2 u3 i (obsC (os.take i) vs)) := (by have := HOB5.out.row; rw [HTL.out] at this; exact this))
        | (go_simp
           go_at_call 37
           refine (cc _ HB3.out).mono ?_
           rintro e w4 ⟨base, rfl, HV4, HB4⟩)
        | (go_simp
           go_at_call 35
           refine (ct' _ hBd).mono ?_
           rintro e w3 ⟨rfl, t0, t1, t2, HB3⟩))
      all_goals
        go_wp2
        exact ⟨⟨i + 1, _, by omega, by go_num, HO6.out, HB6.out⟩, by simp [intOf]; omega⟩
    · obtain rfl : i = os.length := by omega
      have hi2 : ¬ (os.length : Int) < os.length := by omega
      have HOL : Hid (ObsOwn w.heap.size wr os u3 vs) := by
        have := HO.out
        rwa [List.take_length] at this
      go_wp2
      go_ret
      exact ⟨u3, rfl, ⟨vs, HOL.out⟩, HB.out⟩
end Go.Proofs.YtchpmnmngeebjaaGreatDoor
