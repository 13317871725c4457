/- heap: All. -/
import Derived.Test.YtbdgniiafdjmiaaGreatDoorMG
namespace Go.Proofs.YtbdgniiafdjmiaaGreatDoor
open Go.RowKit Go.Shelf

set_option maxRecDepth 100000 in
theorem info_Obj : (Tryz.prog.info? 51).map (fun i => (i.zero, i.size, i.bytes)) = some (some (.agg #[.string ⟨#[]⟩, .slice none 0 0]), 2, 40) := by kernel_rfl

/-- Objects' cells: a tag, and a row of values. -/
def obsC : List Ob → List Value → List Value
  | o :: os, v :: vs => .string (strB o.1) :: v :: obsC os vs
  | _, _ => []
theorem obsC_len : ∀ (os : List Ob) (vs : List Value), vs.length = os.length → (obsC os vs).length = os.length * 2
  | [], [], _ => rfl
  | o :: os, v :: vs, h => by simp only [obsC, List.length_cons, obsC_len os vs (by simpa using h)]; omega
  | [], _ :: _, h => by simp at h
  | _ :: _, [], h => by simp at h
theorem obsC_snoc : ∀ (os : List Ob) (vs : List Value) (o : Ob) (v : Value), vs.length = os.length → obsC (os ++ [o]) (vs ++ [v]) = obsC os vs ++ [.string (strB o.1), v]
  | [], [], o, v, _ => rfl
  | p :: os, u :: vs, o, v, h => by rw [List.cons_append, List.cons_append, obsC, obsC, obsC_snoc os vs o v (by simpa using h)]; rfl
  | [], _ :: _, _, _, h => by simp at h
  | _ :: _, [], _, _, h => by simp at h
theorem obsC_at : ∀ (os : List Ob) (vs : List Value) (_ : vs.length = os.length) (j : Nat) (hj : j < os.length), (obsC os vs)[j * 2]? = some (.string (strB (os[j]).1)) ∧ (obsC os vs)[j * 2 + 1]? = vs[j]?
  | [], _, _, _, h => by cases h
  | _ :: _, [], h, _, _ => by simp at h
  | o :: os, v :: vs, _, 0, _ => ⟨rfl, rfl⟩
  | o :: os, v :: vs, h, j + 1, hj => by
    have ih := obsC_at os vs (by simpa using h) j (by simpa using hj)
    rw [obsC, show (j + 1) * 2 = j * 2 + 2 by omega, show j * 2 + 2 + 1 = (j * 2 + 1) + 2 by omega]
    simp only [List.getElem?_cons_succ, List.getElem_cons_succ]
    exact ih

/-- A row of objects of its own, each with a row of values of its own. -/
structure ObsOwn (B : Nat) (w : World) (os : List Ob) (v : Value) (vs : List Value) : Prop where
  len : vs.length = os.length
  row : w.ownsRow B 51 2 v os.length (obsC os vs)
  kids : ∀ j (hj : j < os.length), ∃ u, vs[j]? = some u ∧ w.ownsRow B 54 3 u (os[j]).2.length (vlC (os[j]).2)

/-- .. in rows that are not told. -/
def ObsAt (B : Nat) (w : World) (os : List Ob) (v : Value) : Prop := ∃ vs, ObsOwn B w os v vs

theorem ObsOwn.kept {B : Nat} {w w' : World} {os : List Ob} {v : Value} {vs : List Value} (h : ObsOwn B w os v vs) (hb : ∀ k, B ≤ k → k < w.heap.size → w'.heap[k]? = w.heap[k]?) : ObsOwn B w' os v vs where
  len := h.len
  row := own_blocks h.row fun k hk hlt => hb k (h.row.lt k hk).1 hlt
  kids := fun j hj => by
    obtain ⟨u, hu, ho⟩ := h.kids j hj
    exact ⟨u, hu, own_blocks ho fun k hk hlt => hb k (ho.lt k hk).1 hlt⟩

theorem ObsOwn.snoc {B : Nat} {w w' : World} {os : List Ob} {v v' : Value} {vs : List Value} (h : ObsOwn B w os v vs) {o : Ob} {u : Value} {ob : Obj} (hu : w.ownsRow B 54 3 u o.2.length (vlC o.2))
    (ho : w'.ownsRow B 51 2 v' (os.length + 1) (obsC os vs ++ [.string (strB o.1), u])) (hg : (w.alloc ob).grownBy w' v.ownBlock) : ObsOwn B w' (os ++ [o]) v' (vs ++ [u]) := by
  have hkeep : ∀ u n l, w.ownsRow B 54 3 u n l → w'.ownsRow B 54 3 u n l := fun u n l h9 => own_blocks h9 fun k hk hlt => by
    rw [hg.block k (by simp; omega) (fun e => ?_), Below.heap_alloc _ _ _ hlt]
    obtain ⟨cur, hc⟩ := own_type h.row e.symm
    obtain ⟨cur', hc'⟩ := own_type h9 hk
    rw [hc] at hc'
    simp at hc'
  refine ⟨by simp [h.len], ?_, fun j hj => ?_⟩
  · rw [List.length_append, List.length_singleton, obsC_snoc _ _ _ _ h.len]; exact ho
  · rw [List.length_append, List.length_singleton] at hj
    rcases Nat.lt_or_ge j os.length with hlt | hge
    · obtain ⟨q, hq, hqo⟩ := h.kids j hlt
      refine ⟨q, by rw [List.getElem?_append_left (by rw [h.len]; exact hlt)]; exact hq, ?_⟩
      rw [List.getElem_append_left hlt]
      exact hkeep _ _ _ hqo
    · obtain rfl : j = os.length := by omega
      refine ⟨u, by rw [← h.len]; simp, ?_⟩
      rw [List.getElem_append_right (Nat.le_refl _)]
      simp only [Nat.sub_self, List.getElem_cons_zero]
      exact hkeep _ _ _ hu

/-- The slice value v reads in the world w as these objects; all lies in blocks of S. -/
def objsIn (S : Nat → Prop) (w : World) (v : Value) (os : List Ob) : Prop :=
  ∃ base cap, v = .slice base os.length cap ∧ os.length ≤ cap ∧ cap ≤ maxLen ∧
    (os = [] ∨ ∃ b o, base = some ⟨b, o, none⟩ ∧ S b ∧ b < w.heap.size ∧ ∀ j (hj : j < os.length), ∃ u, w.cell? ⟨b, o + j * 2, none⟩ = some (.string (strB (os[j]).1)) ∧ w.cell? ⟨b, o + j * 2 + 1, none⟩ = some u ∧ valsIn S w u (os[j]).2)
theorem objsIn.kept {S : Nat → Prop} {w w' : World} {v : Value} {os : List Ob} (h : objsIn S w v os) (hs : w.heap.size ≤ w'.heap.size) (hb : ∀ k, S k → k < w.heap.size → w'.heap[k]? = w.heap[k]?) : objsIn S w' v os := by
  obtain ⟨base, cap, hv, h1, h2, h3⟩ := h
  refine ⟨base, cap, hv, h1, h2, ?_⟩
  rcases h3 with h3 | ⟨b, o, e, hS, hlt, hc⟩
  · exact .inl h3
  · refine .inr ⟨b, o, e, hS, Nat.lt_of_lt_of_le hlt hs, fun j hj => ?_⟩
    obtain ⟨u, c0, c1, hv⟩ := hc j hj
    exact ⟨u, (World.cell?_of_block (hb b hS hlt)).trans c0, (World.cell?_of_block (hb b hS hlt)).trans c1, hv.kept hs hb⟩
theorem objsIn.wide {S S' : Nat → Prop} {w : World} {v : Value} {os : List Ob} (h : objsIn S w v os) (hS : ∀ k, k < w.heap.size → S k → S' k) : objsIn S' w v os := by
  obtain ⟨base, cap, hv, h1, h2, h3⟩ := h
  refine ⟨base, cap, hv, h1, h2, ?_⟩
  rcases h3 with h3 | ⟨b, o, e, hs, hlt, hc⟩
  · exact .inl h3
  · refine .inr ⟨b, o, e, hS b hlt hs, hlt, fun j hj => ?_⟩
    obtain ⟨u, c0, c1, hv⟩ := hc j hj
    exact ⟨u, c0, c1, hv.low.wide fun k hk => hS k hk.2 hk.1⟩
theorem ObsOwn.read {B : Nat} {w : World} {os : List Ob} {v : Value} {vs : List Value} (h : ObsOwn B w os v vs) : objsIn (fun k => B ≤ k) w v os := by
  rcases h.row.2 with ⟨hv, h0⟩ | ⟨g, cap, cur, hv, hg, hh, h1, h2, _, _⟩
  · exact ⟨none, 0, by rw [hv, h0], by omega, Nat.zero_le _, .inl (List.length_eq_zero_iff.1 h0)⟩
  · refine ⟨_, cap, hv, h1, h2, .inr ⟨g, 0, rfl, hg, (Array.getElem?_eq_some_iff.1 hh).1, fun j hj => ?_⟩⟩
    obtain ⟨u, hu, ho⟩ := h.kids j hj
    obtain ⟨a0, a1⟩ := obsC_at os vs h.len j hj
    have key : ∀ q z, (obsC os vs)[q]? = some z → w.cell? ⟨g, 0 + q, none⟩ = some z := fun q z hq => by
      have := h.row.cells (g := g) (by rw [hv]; rfl) q z hq
      by_cases h0 : q = 0
      · subst h0; simpa [Addr.add] using this
      · simpa [Addr.add, h0] using this
    exact ⟨u, key _ _ a0, by have := key _ _ (a1.trans hu); rwa [← Nat.add_assoc] at this, (valsIn_own ho).wide fun k hk => hk.1⟩

end Go.Proofs.YtbdgniiafdjmiaaGreatDoor
