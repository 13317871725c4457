/- heap: values and objects, as mathematics; how they lie in memory. -/
import Derived.Test.YtbdgniiafdjmiaaGreatDoorMX
import Derived.Maps.AppendAt
namespace Go.Proofs.YtbdgniiafdjmiaaGreatDoor
open Go.RowKit Go.Shelf

/-- A value. -/
structure Vl where
  k : Int
  n : Int
  s : List UInt8
/-- An object: its tag, and its cells. -/
abbrev Ob : Type := List UInt8 × List Vl

def vlL (v : Vl) : List Value := [.int .i64 v.k, .int .i64 v.n, .string (strB v.s)]
def vlC (l : List Vl) : List Value := l.flatMap vlL
abbrev vlV (v : Vl) : Value := .agg #[.int .i64 v.k, .int .i64 v.n, .string (strB v.s)]

theorem vlC_len (l : List Vl) : (vlC l).length = l.length * 3 := by
  induction l with
  | nil => rfl
  | cons x l ih => unfold vlC at ih ⊢; rw [List.flatMap_cons, List.length_append, ih, List.length_cons]; simp only [vlL, List.length_cons, List.length_nil]; omega
theorem vlC_app (a b : List Vl) : vlC (a ++ b) = vlC a ++ vlC b := by unfold vlC; rw [List.flatMap_append]
theorem vlC_one (v : Vl) : vlC [v] = vlL v := by unfold vlC; simp
theorem vl_one (l : List Vl) : ∀ u ∈ vlC l, u.oneCell' = true := by
  intro u hu
  unfold vlC at hu
  rw [List.mem_flatMap] at hu
  obtain ⟨v, _, hv⟩ := hu
  simp only [vlL, List.mem_cons, List.mem_nil_iff, or_false] at hv
  rcases hv with rfl | rfl | rfl <;> rfl
theorem vlC_at : ∀ (l : List Vl) (i : Nat) (h : i < l.length), (vlC l)[i * 3]? = some (.int .i64 (l[i]).k) ∧ (vlC l)[i * 3 + 1]? = some (.int .i64 (l[i]).n) ∧ (vlC l)[i * 3 + 2]? = some (.string (strB (l[i]).s))
  | [], _, h => by cases h
  | t :: ts, 0, _ => ⟨rfl, rfl, rfl⟩
  | t :: ts, i + 1, h => by
    have ih := vlC_at ts i (by simpa using h)
    have e : vlC (t :: ts) = vlL t ++ vlC ts := rfl
    have key : ∀ q, (vlC (t :: ts))[(i + 1) * 3 + q]? = (vlC ts)[i * 3 + q]? := fun q => by
      rw [e, List.getElem?_append_right (by simp [vlL]; omega)]
      congr 1
      simp [vlL]
      omega
    have k0 := key 0
    simp only [Nat.add_zero] at k0
    rw [k0, key 1, key 2]
    exact ih

/-- The slice value v reads in the world w as these values; its cells lie in a block of S. -/
def valsIn (S : Nat → Prop) (w : World) (v : Value) (l : List Vl) : Prop :=
  ∃ base cap, v = .slice base l.length cap ∧ l.length ≤ cap ∧ cap ≤ maxLen ∧
    (l = [] ∨ ∃ b o, base = some ⟨b, o, none⟩ ∧ S b ∧ b < w.heap.size ∧ ∀ j u, (vlC l)[j]? = some u → w.cell? ⟨b, o + j, none⟩ = some u)

theorem valsIn.kept {S : Nat → Prop} {w w' : World} {v : Value} {l : List Vl} (h : valsIn S w v l) (hs : w.heap.size ≤ w'.heap.size) (hb : ∀ k, S k → k < w.heap.size → w'.heap[k]? = w.heap[k]?) : valsIn S w' v l := by
  obtain ⟨base, cap, hv, h1, h2, h3⟩ := h
  refine ⟨base, cap, hv, h1, h2, ?_⟩
  rcases h3 with h3 | ⟨b, o, e, hS, hlt, hc⟩
  · exact .inl h3
  · exact .inr ⟨b, o, e, hS, Nat.lt_of_lt_of_le hlt hs, fun j u hj => (World.cell?_of_block (hb b hS hlt)).trans (hc j u hj)⟩
theorem valsIn.wide {S S' : Nat → Prop} {w : World} {v : Value} {l : List Vl} (h : valsIn S w v l) (hS : ∀ k, S k → S' k) : valsIn S' w v l := by
  obtain ⟨base, cap, hv, h1, h2, h3⟩ := h
  refine ⟨base, cap, hv, h1, h2, ?_⟩
  rcases h3 with h3 | ⟨b, o, e, hs, hlt, hc⟩
  · exact .inl h3
  · exact .inr ⟨b, o, e, hS b hs, hlt, hc⟩
theorem valsIn.low {S : Nat → Prop} {w : World} {v : Value} {l : List Vl} (h : valsIn S w v l) : valsIn (fun k => S k ∧ k < w.heap.size) w v l := by
  obtain ⟨base, cap, hv, h1, h2, h3⟩ := h
  refine ⟨base, cap, hv, h1, h2, ?_⟩
  rcases h3 with h3 | ⟨b, o, e, hs, hlt, hc⟩
  · exact .inl h3
  · exact .inr ⟨b, o, e, ⟨hs, hlt⟩, hlt, hc⟩
theorem valsIn.len {S : Nat → Prop} {w : World} {v : Value} {l : List Vl} (h : valsIn S w v l) : l.length ≤ maxLen := by
  obtain ⟨_, cap, _, h1, h2, _⟩ := h; omega
/-- A value of it, where it lies. -/
theorem valsIn.at {S : Nat → Prop} {w : World} {v : Value} {l : List Vl} (h : valsIn S w v l) : ∃ base cap, v = .slice base l.length cap ∧ l.length ≤ cap ∧ cap ≤ maxLen ∧
    ∀ i (hi : i < l.length), ∃ b o, base = some ⟨b, o, none⟩ ∧ S b ∧ b < w.heap.size ∧ w.cell? ⟨b, o + i * 3, none⟩ = some (.int .i64 (l[i]).k) ∧ w.cell? ⟨b, o + i * 3 + 1, none⟩ = some (.int .i64 (l[i]).n) ∧ w.cell? ⟨b, o + i * 3 + 2, none⟩ = some (.string (strB (l[i]).s)) := by
  obtain ⟨base, cap, hv, h1, h2, h3⟩ := h
  refine ⟨base, cap, hv, h1, h2, fun i hi => ?_⟩
  rcases h3 with h3 | ⟨b, o, e, hs, hlt, hc⟩
  · subst h3; simp at hi
  · obtain ⟨q0, q1, q2⟩ := vlC_at l i hi
    exact ⟨b, o, e, hs, hlt, hc _ _ q0, by have := hc _ _ q1; rwa [← Nat.add_assoc] at this, by have := hc _ _ q2; rwa [← Nat.add_assoc] at this⟩
theorem valsIn_own {w : World} {B e n : Nat} {v : Value} {l : List Vl} (h : w.ownsRow B e 3 v n (vlC l)) : valsIn (fun k => B ≤ k ∧ v.ownBlock = some k) w v l := by
  have hl := h.1
  rw [vlC_len] at hl
  have hn : n = l.length := by omega
  subst hn
  rcases h.2 with ⟨rfl, h0⟩ | ⟨g, cap, cur, rfl, hg, hh, h1, h2, _, _⟩
  · exact ⟨none, 0, by rw [h0], by omega, Nat.zero_le _, .inl (List.length_eq_zero_iff.1 h0)⟩
  · refine ⟨_, cap, rfl, h1, h2, .inr ⟨g, 0, rfl, ⟨hg, rfl⟩, (Array.getElem?_eq_some_iff.1 hh).1, fun j u hj => ?_⟩⟩
    have := h.cells (g := g) rfl j u hj
    by_cases h0 : j = 0
    · subst h0; simpa [Addr.add] using this
    · simpa [Addr.add, h0] using this

/-- Is a value right among n objects? -/
def rightV (v : Vl) (n : Int) : Bool :=
  if v.k = 0 then decide (v.n = 0 ∧ v.s = [])
  else if v.k = 1 then decide (v.s = [])
  else if v.k = 2 then decide ((v.n = 0 ∨ v.n = 1) ∧ v.s = [])
  else if v.k = 3 then decide (v.n = 0 ∧ backB 3 0 v.s)
  else if v.k = 4 then decide ((0 ≤ v.n ∧ v.n < n) ∧ v.s = [])
  else false
/-- A cell. -/
def cellV (v : Vl) (n : Int) : Bool := decide (v.k ≠ 0) && rightV v n
/-- May it be an object among n? -/
def tagB (t : List UInt8) : Bool := decide (t = [] ∨ backB 1 0 t)
def obB (o : Ob) (n : Int) : Bool := o.2.all (fun v => cellV v n) && tagB o.1

theorem rightV_mono {v : Vl} {n m : Int} (h : rightV v n = true) (hn : n ≤ m) : rightV v m = true := by
  unfold rightV at h ⊢
  split
  · rename_i h0; rw [if_pos h0] at h; exact h
  · rename_i h0; rw [if_neg h0] at h
    split
    · rename_i h1; rw [if_pos h1] at h; exact h
    · rename_i h1; rw [if_neg h1] at h
      split
      · rename_i h2; rw [if_pos h2] at h; exact h
      · rename_i h2; rw [if_neg h2] at h
        split
        · rename_i h3; rw [if_pos h3] at h; exact h
        · rename_i h3; rw [if_neg h3] at h
          split
          · rename_i h4
            rw [if_pos h4, decide_eq_true_eq] at h
            rw [decide_eq_true_eq]
            exact ⟨⟨h.1.1, by omega⟩, h.2⟩
          · rename_i h4; rw [if_neg h4] at h; exact h
theorem cellV_mono {v : Vl} {n m : Int} (h : cellV v n = true) (hn : n ≤ m) : cellV v m = true := by
  unfold cellV at h ⊢
  rw [Bool.and_eq_true] at h ⊢
  exact ⟨h.1, rightV_mono h.2 hn⟩
theorem obB_mono {o : Ob} {n m : Int} (h : obB o n = true) (hn : n ≤ m) : obB o m = true := by
  unfold obB at h ⊢
  rw [Bool.and_eq_true, List.all_eq_true] at h ⊢
  exact ⟨fun v hv => cellV_mono (h.1 v hv) hn, h.2⟩
end Go.Proofs.YtbdgniiafdjmiaaGreatDoor
