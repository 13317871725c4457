/- Objects that came in, in a row. -/
import Derived.Test.YtchpmnmngeebjaaDoorHActIn
import Derived.Test.YtchpmnmngeebjaaDoorHRefs
namespace Go.Proofs.YtchpmnmngeebjaaDoor
open Go.ChangeShapes Go.WideShapes Go.ChangeAt Go.RowKit

set_option maxRecDepth 100000 in
theorem obj_fields : ∃ f0 f1 : Field, Tryd.prog.underlying 47 = some (.struct #[f0, f1]) ∧ (f0.type = 9 ∧ f1.type = 45) ∧ (f0.offset = 0 ∧ f1.offset = 1) :=
  ⟨_, _, Tryd.underlying47, ⟨rfl, rfl⟩, ⟨rfl, rfl⟩⟩
set_option maxRecDepth 100000 in
theorem cells_objH : Tryd.prog.cellsOf 47 = 2 := by kernel_rfl

set_option maxRecDepth 100000 in
/-- The cells of an object that can be read. -/
theorem obj_open {H : Type} {enc : TypeId × Value → H} {w : World} {fuel : Nat} {hd : Bool} {cs : List Value} {x : DataW H × List MemPlace}
    (h : DataW.trod enc Tryd.prog w 0 (fun _ => true) hd fuel 47 cs = some x) :
    ∃ (o : Ob) (u : Value), cs.length = 2 ∧ cs[0]? = some (.string (strB o.1)) ∧ cs[1]? = some u ∧ ValsRead w u o.2 x.1 ∧ o.1.length ≤ Rows.uptoBulk x.1 := by
  obtain ⟨f0, f1, hu, ⟨t0, t1⟩, ⟨o0, o1⟩⟩ := obj_fields
  obtain ⟨xs, m, -, rfl, hlc, hl, hel⟩ := DataW.trod_struct hu h
  have h0 := hel 0 f0 rfl
  have h1 := hel 1 f1 rfl
  rw [t0, o0, cells_str] at h0
  rw [t1, o1, cells_vals1] at h1
  rw [cells_objH] at hlc
  match xs, hl with
  | [x0, x1], _ =>
    simp only [List.getElem?_cons_zero, List.getElem?_cons_succ] at h0 h1
    obtain ⟨s, a0, b0, -⟩ := DataW.trod_string Tryd.underlying9 h0
    obtain ⟨u, hu2⟩ : ∃ u, (cs.drop 1).take 1 = [u] := by
      match hd9 : (cs.drop 1).take 1, (show ((cs.drop 1).take 1).length = 1 by rw [List.length_take, List.length_drop]; omega) with
      | [u], _ => exact ⟨u, rfl⟩
    rw [hu2] at h1
    obtain ⟨l, hv⟩ := vals_open h1
    have hb : ∀ y ∈ [x0, x1], Rows.uptoBulk y.1 ≤ Rows.uptoBulk (DataW.agg ([x0, x1].map (·.1))) := fun y hy => by
      have := bulk_memH (List.mem_map.2 ⟨y, hy, rfl⟩ : y.1 ∈ [x0, x1].map (·.1))
      simp only [Rows.uptoBulk]
      omega
    obtain ⟨BB, hBB⟩ : ∃ BB, BB = Rows.uptoBulk (DataW.agg ([x0, x1].map (·.1))) := ⟨_, rfl⟩
    rw [← hBB] at hb ⊢
    have g0 := hb x0 (by simp)
    have g1 := hb x1 (by simp)
    have y0 : s.data.toList.length ≤ Rows.uptoBulk x0.1 := by rw [b0]; simp only [Rows.uptoBulk]; omega
    refine ⟨(s.data.toList, l), u, hlc, ?_, one_ofH hu2, ⟨hv.vals, hv.form, fun y hy => ⟨(hv.each y hy).1, ?_⟩, ?_⟩, ?_⟩
    · have := one_ofH a0
      simp only [strB_of]
      exact this
    · have := (hv.each y hy).2; simp only at this ⊢; rw [← hBB]; omega
    · have := hv.len; simp only at this ⊢; rw [← hBB]; omega
    · simp only; omega

set_option maxRecDepth 100000 in
theorem objs_open {H : Type} {enc : TypeId × Value → H} {w : World} {fuel : Nat} {v : Value} {x : DataW H × List MemPlace} {hd : Bool}
    (h : DataW.trod enc Tryd.prog w 0 (fun _ => true) hd fuel 22 [v] = some x) (hB : Rows.uptoBulk x.1 ≤ 1048576) : ∃ os, objsIn (fun _ => True) w v os ∧ objsF w v os ∧ (∀ o ∈ os, smallO o) ∧ (∀ o ∈ os, o.2.length ≤ 1048576) ∧ os.length ≤ 1048576 := by
  rcases Deep.open_slice Tryd.underlying22 h with ⟨hcs, hx⟩ | ⟨a, len, cap, m, n, D, Pl, hcs, -, hl, hm, hmm, hx, hr⟩
  · simp at hcs
    subst hcs
    exact ⟨[], ⟨none, 0, rfl, Nat.le_refl _, Nat.zero_le _, .inl rfl⟩, fun i hi => by simp at hi, fun t h => (by cases h), fun t h => (by cases h), Nat.zero_le _⟩
  · simp at hcs
    subst hcs
    have hln : len ≤ m := by split at hmm <;> omega
    have hbulk : Rows.uptoBulkAll ((List.range len).map D) ≤ 1048576 := by
      rw [hx] at hB
      simp only [Rows.uptoBulk] at hB
      omega
    have each : ∀ i, i < len → ∃ t : Ob, (∃ u, (u = .slice none 0 0 ∨ ∃ ad n c, u = .slice (some ad) n c) ∧ w.cell? (a.add (i * 2)) = some (.string (strB t.1)) ∧ w.cell? (a.add (i * 2 + 1)) = some u ∧ valsIn (fun _ => True) w u t.2) ∧ smallO t ∧ t.2.length ≤ 1048576 := fun i hi => by
      obtain ⟨cs', h1, h2⟩ := hr i (by omega)
      rw [cells_objH] at h1
      obtain ⟨-, hlen, hcell⟩ := World.cells?_some h1
      obtain ⟨t, u, hcl, q0, q1, hv, b1⟩ := obj_open h2
      have hDi := bulk_memH (List.mem_map.2 ⟨i, List.mem_range.2 hi, rfl⟩ : D i ∈ (List.range len).map D)
      have key : ∀ q z, q < 2 → cs'[q]? = some z → w.cell? (a.add (i * 2 + q)) = some z := fun q z hq hz => by
        have := hcell q (by omega)
        rw [Deep.add_add] at this
        exact this.trans hz
      have k0 := key 0 _ (by omega) q0
      rw [Nat.add_zero] at k0
      simp only at b1
      refine ⟨t, ⟨u, hv.form, k0, key 1 _ (by omega) q1, hv.vals⟩, ⟨?_, fun y hy => ⟨(hv.each y hy).1, ?_⟩⟩, ?_⟩
      · omega
      · have := (hv.each y hy).2; simp only at this; omega
      · have := hv.len; simp only at this; omega
    obtain ⟨f, hf⟩ := Deep.choose_lt each
    have hll : ((List.range len).map f).length = len := by simp
    have hcells : ∀ i, i < len → ∃ b o u, a = ⟨b, o, none⟩ ∧ b < w.heap.size ∧ (u = .slice none 0 0 ∨ ∃ ad n c, u = .slice (some ad) n c) ∧ w.cell? ⟨b, o + i * 2, none⟩ = some (.string (strB (f i).1)) ∧ w.cell? ⟨b, o + i * 2 + 1, none⟩ = some u ∧ valsIn (fun _ => True) w u (f i).2 := fun i hi => by
      obtain ⟨u, hu, c0, c1, hv⟩ := (hf i hi).1
      obtain ⟨u0, -, c00, -⟩ := (hf 0 (by omega)).1
      rw [Nat.zero_mul, add_at0H] at c00
      have hsp := spot_ofH c00
      have hbl := World.block_lt_of_cell? w _ c00
      obtain ⟨b, o, sp⟩ := a
      simp only at hsp
      subst hsp
      rw [add_plain] at c0 c1
      exact ⟨b, o, u, rfl, hbl, hu, c0, c1, hv⟩
    refine ⟨(List.range len).map f, ⟨some a, cap, by rw [hll], by rw [hll]; exact hl, hm, ?_⟩, ?_, ?_, ?_, ?_⟩
    · rcases Nat.eq_zero_or_pos len with h0 | h0
      · subst h0; exact .inl rfl
      · right
        obtain ⟨b, o, -, e, hbl, -⟩ := hcells 0 h0
        refine ⟨b, o, by rw [e], trivial, hbl, fun j hj => ?_⟩
        rw [hll] at hj
        obtain ⟨b', o', u, e', -, -, c0, c1, hv⟩ := hcells j hj
        rw [e] at e'
        simp only [Addr.mk.injEq, and_true] at e'
        obtain ⟨rfl, rfl⟩ := e'
        simp only [List.getElem_map, List.getElem_range]
        exact ⟨u, c0, c1, hv⟩
    · intro i hi b o cap' u e hc
      rw [hll] at hi
      obtain ⟨b', o', u', e', -, hu, -, c1, -⟩ := hcells i hi
      simp only [Value.slice.injEq, Option.some.injEq] at e
      rw [e.1] at e'
      simp only [Addr.mk.injEq, and_true] at e'
      obtain ⟨rfl, rfl⟩ := e'
      rw [c1] at hc
      cases hc
      exact hu
    · intro t ht
      obtain ⟨i, hi, rfl⟩ := List.mem_map.1 ht
      exact (hf i (List.mem_range.1 hi)).2.1
    · intro t ht
      obtain ⟨i, hi, rfl⟩ := List.mem_map.1 ht
      exact (hf i (List.mem_range.1 hi)).2.2
    · rw [hll]
      have h1 := bulk_len ((List.range len).map D)
      rw [List.length_map, List.length_range] at h1
      omega
end Go.Proofs.YtchpmnmngeebjaaDoor
