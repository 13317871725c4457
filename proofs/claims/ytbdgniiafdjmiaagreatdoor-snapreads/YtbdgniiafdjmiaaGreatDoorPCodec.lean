/- snap: ways to read and to write that fit: what no package knows of. -/
import Derived.Test.YtbdgniiafdjmiaaGreatDoorPBase
import Derived.Test.YtbdgniiafdjmiaaGreatDoorWMath
namespace Go.Proofs.YtbdgniiafdjmiaaGreatDoor
open Go.RowKit Go.Shelf

/-- A way to read things, and to write them, that fit. -/
structure Codec {α : Type} (rd : List UInt8 → Nat → Nat → α × Nat × Nat) (enc : α → List UInt8) (ok : α → Prop) : Prop where
  put : ∀ A x R, ok x → rd (A ++ (enc x ++ R)) A.length 0 = (x, A.length + (enc x).length, 0)
  form : ∀ bs a x a', rd bs a 0 = (x, a', 0) → ok x ∧ a' = a + (enc x).length ∧ (bs.drop a).take (enc x).length = enc x
  err : ∀ bs a r, r ≠ 0 → (rd bs a r).2 = (a, r)
theorem stepR_err {α : Type} {zero : α} {a r : Nat} {g : α × Nat × Nat} (h : r ≠ 0) : (stepR zero a r g).2 = (a, r) := by unfold stepR; rw [if_pos h]
theorem stepR_ok {α : Type} {zero : α} {a : Nat} {x : α} {k : Nat} : stepR zero a 0 (x, k, 0) = (x, a + k, 0) := by simp [stepR]
theorem stepR_form {α : Type} {zero : α} {a : Nat} {g : α × Nat × Nat} {x : α} {a' : Nat} (h : stepR zero a 0 g = (x, a', 0)) : ∃ k, g = (x, k, 0) ∧ a' = a + k := by
  obtain ⟨g1, g2, g3⟩ := g
  unfold stepR at h
  simp only [ne_eq, not_true_eq_false, if_false] at h
  by_cases h3 : g3 = 0
  · subst h3
    simp at h
    exact ⟨g2, by rw [h.1], h.2.symm⟩
  · rw [if_pos h3] at h
    simp only [Prod.mk.injEq] at h
    exact absurd h.2.2 h3
theorem codI : Codec rI numB I64 where
  put := fun A x R h => by
    unfold rI
    rw [List.drop_left, getI_put h.1 h.2, stepR_ok]
  form := fun bs a x a' h => by
    obtain ⟨k, hk, ha⟩ := stepR_form h
    obtain ⟨h1, h2, h3⟩ := getI_form hk
    exact ⟨h3, by rw [ha, h2], by rw [← h2]; exact h1⟩
  err := fun bs a r h => stepR_err h
theorem getC_form {l : List UInt8} {m n : Int} {k : Nat} (hm : 0 ≤ m) (h : getC l m = (n, k, 0)) : l.take k = numB n ∧ k = (numB n).length ∧ 0 ≤ n ∧ n ≤ m ∧ I64 n := by
  unfold getC at h
  split at h
  · rename_i h1
    simp only [Prod.mk.injEq] at h
    exact absurd h.2.2 h1
  · split at h
    · simp at h
    · split at h
      · simp at h
      · rename_i h1 h2 h3
        obtain ⟨q1, q2, q3⟩ := getI_form h
        rw [h] at h2 h3
        simp only at h2 h3
        exact ⟨q1, q2, by omega, by omega, q3⟩
theorem getTx_form {l s : List UInt8} {k : Nat} {m : Int} (hm : 0 ≤ m) (h : getT l m = (s, k, 0)) : l.take k = txB s ∧ k = (txB s).length ∧ (s.length : Int) ≤ m := by
  unfold getT at h
  split at h
  · rename_i h1
    simp only [Prod.mk.injEq] at h
    exact absurd h.2.2 h1
  · rename_i h1
    split at h
    · simp at h
    · rename_i h2
      obtain ⟨n, k1, e1, hc⟩ : ∃ n k1 e1, getC l m = (n, k1, e1) := ⟨_, _, _, rfl⟩
      rw [hc] at h h1 h2
      simp only [ne_eq, Decidable.not_not] at h h1 h2
      subst h1
      obtain ⟨q1, q2, q3, q4, q5⟩ := getC_form hm hc
      simp only [Prod.mk.injEq, and_true] at h
      obtain ⟨hs, hk⟩ := h
      have hk1 : k1 ≤ l.length := by
        have := congrArg List.length q1
        rw [List.length_take, ← q2] at this
        omega
      have hsl : s.length = n.toNat := by rw [← hs, List.length_take, List.length_drop]; omega
      have hsn : (s.length : Int) = n := by omega
      refine ⟨?_, ?_, by omega⟩
      · unfold txB
        rw [hsn, ← hk, List.take_add, q1, hs]
      · unfold txB
        rw [List.length_append, hsn, ← q2]
        omega
theorem codTx (m : Int) (hm : 0 ≤ m) (hm2 : m ≤ 1048576) : Codec (rTx m) txB (fun s => (s.length : Int) ≤ m) where
  put := fun A x R h => by
    unfold rTx
    have h2 := getT_put (strB x) R m (by rw [strB_size]; omega)
    rw [strB_size, if_neg (by omega)] at h2
    rw [List.drop_left, show txB x ++ R = textB (strB x) ++ R from rfl, h2, stepR_ok]
    rfl
  form := fun bs a x a' h => by
    obtain ⟨k, hk, ha⟩ := stepR_form h
    obtain ⟨h1, h2, h3⟩ := getTx_form hm hk
    exact ⟨h3, by rw [ha, h2], by rw [← h2]; exact h1⟩
  err := fun bs a r h => stepR_err h
def rPair {α β : Type} (f : List UInt8 → Nat → Nat → α × Nat × Nat) (g : List UInt8 → Nat → Nat → β × Nat × Nat) (bs : List UInt8) (a r : Nat) : (α × β) × Nat × Nat :=
  (((f bs a r).1, (g bs (f bs a r).2.1 (f bs a r).2.2).1), (g bs (f bs a r).2.1 (f bs a r).2.2).2)
def rMap {α β : Type} (h : α → β) (f : List UInt8 → Nat → Nat → α × Nat × Nat) (bs : List UInt8) (a r : Nat) : β × Nat × Nat := (h (f bs a r).1, (f bs a r).2)
theorem Codec.pair {α β : Type} {f : List UInt8 → Nat → Nat → α × Nat × Nat} {g : List UInt8 → Nat → Nat → β × Nat × Nat} {ef : α → List UInt8} {eg : β → List UInt8} {of : α → Prop} {og : β → Prop} (cf : Codec f ef of) (cg : Codec g eg og) :
    Codec (rPair f g) (fun p => ef p.1 ++ eg p.2) (fun p => of p.1 ∧ og p.2) where
  put := fun A x R h => by
    obtain ⟨x, y⟩ := x
    have h1 := cf.put A x (eg y ++ R) h.1
    have h2 := cg.put (A ++ ef x) y R h.2
    simp only [List.append_assoc] at h2 ⊢
    unfold rPair
    rw [h1]
    simp only
    rw [List.length_append] at h2
    rw [h2]
    simp only [List.length_append, Nat.add_assoc]
  form := fun bs a x a' h => by
    obtain ⟨x, y⟩ := x
    unfold rPair at h
    obtain ⟨x1, a1, r1, hf⟩ : ∃ x1 a1 r1, f bs a 0 = (x1, a1, r1) := ⟨_, _, _, rfl⟩
    rw [hf] at h
    simp only [Prod.mk.injEq] at h
    obtain ⟨⟨rfl, hy⟩, hr⟩ := h
    by_cases hr1 : r1 = 0
    · subst hr1
      obtain ⟨o1, p1, t1⟩ := cf.form _ _ _ _ hf
      have hg : g bs a1 0 = (y, a', 0) := Prod.ext hy hr
      obtain ⟨o2, p2, t2⟩ := cg.form _ _ _ _ hg
      refine ⟨⟨o1, o2⟩, by simp only [List.length_append]; omega, ?_⟩
      simp only [List.length_append]
      rw [List.take_add, t1, List.drop_drop, ← p1, t2]
    · rw [cg.err _ _ _ hr1] at hr
      simp only [Prod.mk.injEq] at hr
      exact absurd hr.2 hr1
  err := fun bs a r h => by
    unfold rPair
    simp only
    rw [cf.err _ _ _ h]
    exact cg.err _ _ _ h
theorem Codec.map {α β : Type} {f : List UInt8 → Nat → Nat → α × Nat × Nat} {ef : α → List UInt8} {of : α → Prop} (cf : Codec f ef of) (h : α → β) (k : β → α) (h1 : ∀ x, k (h x) = x) (h2 : ∀ y, h (k y) = y) : Codec (rMap h f) (fun y => ef (k y)) (fun y => of (k y)) where
  put := fun A y R ho => by
    unfold rMap
    rw [cf.put A (k y) R ho]
    simp only [h2]
  form := fun bs a y a' hr => by
    unfold rMap at hr
    obtain ⟨x, a1, r1, hf⟩ : ∃ x1 a1 r1, f bs a 0 = (x1, a1, r1) := ⟨_, _, _, rfl⟩
    rw [hf] at hr
    simp only [Prod.mk.injEq] at hr
    obtain ⟨rfl, rfl, rfl⟩ := hr
    have := cf.form _ _ _ _ hf
    rw [h1]
    exact this
  err := fun bs a r hr => cf.err _ _ _ hr
theorem loop_put {α : Type} {f : List UInt8 → Nat → Nat → α × Nat × Nat} {ef : α → List UInt8} {of : α → Prop} (cf : Codec f ef of) (R : List UInt8) : ∀ (l : List α) (A : List UInt8), (∀ x ∈ l, of x) →
    loopR (f (A ++ ((l.map ef).flatten ++ R))) l.length A.length 0 = (l, A.length + (l.map ef).flatten.length, 0)
  | [], A, _ => by simp [loopR]
  | x :: t, A, h => by
    have h1 := cf.put A x ((t.map ef).flatten ++ R) (h x (by simp))
    have ih := loop_put cf R t (A ++ ef x) fun y hy => h y (by simp [hy])
    simp only [List.map_cons, List.flatten_cons, List.length_cons, List.append_assoc, List.length_append] at ih ⊢
    rw [loopR_succ, h1]
    simp only
    rw [ih]
    simp only [Nat.add_assoc]
theorem loop_form {α : Type} {f : List UInt8 → Nat → Nat → α × Nat × Nat} {ef : α → List UInt8} {of : α → Prop} (cf : Codec f ef of) (bs : List UInt8) : ∀ (n a : Nat) (l : List α) (a' : Nat), loopR (f bs) n a 0 = (l, a', 0) →
    l.length = n ∧ (∀ x ∈ l, of x) ∧ a' = a + (l.map ef).flatten.length ∧ (bs.drop a).take (l.map ef).flatten.length = (l.map ef).flatten
  | 0, a, l, a', h => by
    simp only [loopR, Prod.mk.injEq] at h
    obtain ⟨rfl, rfl, -⟩ := h
    simp
  | n + 1, a, l, a', h => by
    rw [loopR_succ] at h
    obtain ⟨x, a1, r1, hf⟩ : ∃ x1 a1 r1, f bs a 0 = (x1, a1, r1) := ⟨_, _, _, rfl⟩
    rw [hf] at h
    simp only [Prod.mk.injEq] at h
    obtain ⟨hl, hr⟩ := h
    by_cases hr1 : r1 = 0
    · subst hr1
      obtain ⟨o1, p1, t1⟩ := cf.form _ _ _ _ hf
      obtain ⟨q1, q2, q3, q4⟩ := loop_form cf bs n a1 (loopR (f bs) n a1 0).1 a' (Prod.ext rfl hr)
      subst hl
      refine ⟨by simp [q1], ?_, ?_, ?_⟩
      · intro y hy
        rcases List.mem_cons.1 hy with rfl | hy
        · exact o1
        · exact q2 y hy
      · simp only [List.map_cons, List.flatten_cons, List.length_append]; omega
      · simp only [List.map_cons, List.flatten_cons, List.length_append]
        rw [List.take_add, t1, List.drop_drop, ← p1, q4]
    · rw [loopR_bad _ _ _ _ hr1] at hr
      simp only [Prod.mk.injEq] at hr
      exact absurd hr.2 hr1
theorem Codec.all {α : Type} {f : List UInt8 → Nat → Nat → α × Nat × Nat} {ef : α → List UInt8} {of : α → Prop} (cf : Codec f ef of) : Codec (fun bs a r => rAll bs (f bs) a r) (allB ef) (fun l => (∀ x ∈ l, of x) ∧ l.length ≤ 1048576) where
  put := fun A l R h => by
    have hi : I64 (l.length : Int) := ⟨by omega, by have := h.2; omega⟩
    have hc := getC_put hi.1 hi.2 ((l.map ef).flatten ++ R) 1048576
    rw [if_neg (by omega), if_neg (by have := h.2; omega)] at hc
    have hl := loop_put cf R l (A ++ numB l.length) h.1
    unfold rAll rC allB
    simp only [List.append_assoc, List.length_append] at hl ⊢
    rw [List.drop_left, hc, stepR_ok]
    simp only [Int.toNat_natCast]
    rw [hl]
    simp only [Nat.add_assoc]
  form := fun bs a l a' h => by
    unfold rAll at h
    obtain ⟨n, a1, r1, hf⟩ : ∃ x1 a1 r1, rC bs a 0 = (x1, a1, r1) := ⟨_, _, _, rfl⟩
    rw [hf] at h
    simp only at h
    by_cases hr1 : r1 = 0
    · subst hr1
      obtain ⟨k, hk, ha⟩ := stepR_form hf
      obtain ⟨c1, c2, c3, c4, c5⟩ := getC_form (by omega) hk
      obtain ⟨q1, q2, q3, q4⟩ := loop_form cf bs _ _ _ _ h
      have hn : (l.length : Int) = n := by omega
      refine ⟨⟨q2, by omega⟩, ?_, ?_⟩
      · unfold allB; rw [List.length_append, hn, ← c2]; omega
      · unfold allB
        rw [List.length_append, hn, ← c2, List.take_add, c1, List.drop_drop, ← ha, q4]
    · rw [loopR_bad _ _ _ _ hr1] at h
      simp only [Prod.mk.injEq] at h
      exact absurd h.2.2 hr1
  err := fun bs a r h => by
    unfold rAll
    have h1 : (rC bs a r).2 = (a, r) := stepR_err h
    rw [h1]
    simp only
    rw [loopR_bad _ _ _ _ h]
theorem Codec.congr {α : Type} {f g : List UInt8 → Nat → Nat → α × Nat × Nat} {ef eg : α → List UInt8} {of og : α → Prop} (cf : Codec f ef of) (h1 : ∀ bs a r, g bs a r = f bs a r) (h2 : ∀ x, eg x = ef x) (h3 : ∀ x, og x = of x) : Codec g eg og := by
  obtain rfl : g = f := funext fun bs => funext fun a => funext fun r => h1 bs a r
  obtain rfl : eg = ef := funext h2
  obtain rfl : og = of := funext h3
  exact cf
theorem endR_zero {n a r : Nat} (h : endR n a r = 0) : r = 0 ∧ n ≤ a := by
  unfold endR at h
  by_cases hr : r = 0
  · subst hr
    simp only [ne_eq, not_true_eq_false, if_false] at h
    by_cases ha : a < n
    · rw [if_pos ha] at h; cases h
    · exact ⟨rfl, by omega⟩
  · rw [if_pos hr] at h
    exact absurd h hr
theorem numB_ten {n : Int} (h : I64 n) : (numB n).length ≤ 10 := numB_len h.1 h.2
theorem flat_most {α : Type} (enc : α → List UInt8) (M : Nat) : ∀ l : List α, (∀ x ∈ l, (enc x).length ≤ M) → ((l.map enc).flatten).length ≤ l.length * M
  | [], _ => by simp
  | x :: t, h => by
    have h1 := h x (by simp)
    have h2 := flat_most enc M t fun y hy => h y (by simp [hy])
    simp only [List.map_cons, List.flatten_cons, List.length_append, List.length_cons, Nat.add_mul, Nat.one_mul]
    omega
theorem allB_most {α : Type} (enc : α → List UInt8) (M K : Nat) {l : List α} (h : ∀ x ∈ l, (enc x).length ≤ M) (hl : l.length ≤ K) (hK : K ≤ 1048576) : (allB enc l).length ≤ 10 + K * M := by
  unfold allB
  have h1 := numB_ten (n := (l.length : Int)) ⟨by omega, by omega⟩
  have h2 := flat_most enc M l h
  have h3 : l.length * M ≤ K * M := Nat.mul_le_mul_right M hl
  rw [List.length_append]
  omega
end Go.Proofs.YtbdgniiafdjmiaaGreatDoor
