import Derived.Test.YtechkkphbajmoaaGreatDoorCLoad
import Derived.Test.YtechkkphbajmoaaGreatDoorWMath
import Derived.Test.YtechkkphbajmoaaGreatDoorCBytes
import Derived.Test.YtechkkphbajmoaaGreatDoorCHeights
/- code: what is told as bytes is read as it was, and what is read is told as just these: the mathematics. -/
namespace Go.Proofs.YtechkkphbajmoaaGreatDoor
open Go.RowKit Go.Shelf

/-- A way to read things, and to write them, that fit. -/
structure Codec {α : Type} (rd : List UInt8 → Nat → Nat → α × Nat × Nat) (enc : α → List UInt8) (ok : α → Prop) : Prop where
  put : ∀ A x R, ok x → rd (A ++ (enc x ++ R)) A.length 0 = (x, A.length + (enc x).length, 0)
  form : ∀ bs a x a', rd bs a 0 = (x, a', 0) → ok x ∧ a' = a + (enc x).length ∧ (bs.drop a).take (enc x).length = enc x
  err : ∀ bs a r, r ≠ 0 → (rd bs a r).2 = (a, r)

theorem stepR_err {α : Type} {zero : α} {a r : Nat} {g : α × Nat × Nat} (h : r ≠ 0) : (stepR zero a r g).2 = (a, r) := by unfold stepR; rw [if_pos h]
theorem stepR_ok {α : Type} {zero : α} {a : Nat} {x : α} {k : Nat} : stepR zero a 0 (x, k, 0) = (x, a + k, 0) := by simp [stepR]
theorem stepR_form {α : Type} {zero : α} {a : Nat} {g : α × Nat × Nat} {x : α} {a' : Nat} (h : stepR zero a 0 g = (x, a', 0)) : ∃ k, g = (x, k, 0) ∧ a' = a + k := by
  obtain ⟨g1, g2, g3⟩ := g
  unfold stepR at h
  simp only [ne_eq, not_true_eq_false, if_false] at h
  by_cases h3 : g3 = 0
  · subst h3
    simp at h
    exact ⟨g2, by rw [h.1], h.2.symm⟩
  · rw [if_pos h3] at h
    simp only [Prod.mk.injEq] at h
    exact absurd h.2.2 h3

theorem codI : Codec rI numB I64 where
  put := fun A x R h => by
    unfold rI
    rw [List.drop_left, getI_put h.1 h.2, stepR_ok]
  form := fun bs a x a' h => by
    obtain ⟨k, hk, ha⟩ := stepR_form h
    obtain ⟨h1, h2, h3⟩ := getI_form hk
    exact ⟨h3, by rw [ha, h2], by rw [← h2]; exact h1⟩
  err := fun bs a r h => stepR_err h
theorem getB_form {l : List UInt8} {b : Bool} {k : Nat} (h : getB l = (b, k, 0)) : l.take k = boolB b ∧ k = (boolB b).length := by
  match l with
  | [] => simp [getB] at h
  | x :: t =>
    unfold getB at h
    simp only at h
    split at h
    · simp at h
    · rename_i hx
      simp only [Prod.mk.injEq, and_true] at h
      obtain ⟨rfl, rfl⟩ := h
      refine ⟨?_, by rw [boolB_len]⟩
      have h2 : x.toNat = 0 ∨ x.toNat = 1 := by omega
      rcases h2 with h2 | h2
      · have : x = 0 := UInt8.toNat_inj.1 (by rw [h2]; rfl)
        subst this; rfl
      · have : x = 1 := UInt8.toNat_inj.1 (by rw [h2]; rfl)
        subst this; rfl
theorem codB : Codec rB boolB (fun _ => True) where
  put := fun A x R _ => by
    unfold rB
    rw [List.drop_left, getB_put, stepR_ok, boolB_len]
  form := fun bs a x a' h => by
    obtain ⟨k, hk, ha⟩ := stepR_form h
    obtain ⟨h1, h2⟩ := getB_form hk
    exact ⟨trivial, by rw [ha, h2], by rw [← h2]; exact h1⟩
  err := fun bs a r h => stepR_err h
theorem getC_form {l : List UInt8} {m n : Int} {k : Nat} (hm : 0 ≤ m) (h : getC l m = (n, k, 0)) : l.take k = numB n ∧ k = (numB n).length ∧ 0 ≤ n ∧ n ≤ m ∧ I64 n := by
  unfold getC at h
  split at h
  · rename_i h1
    simp only [Prod.mk.injEq] at h
    exact absurd h.2.2 h1
  · split at h
    · simp at h
    · split at h
      · simp at h
      · rename_i h1 h2 h3
        obtain ⟨q1, q2, q3⟩ := getI_form h
        rw [h] at h2 h3
        simp only at h2 h3
        exact ⟨q1, q2, by omega, by omega, q3⟩
theorem getT_form {l s : List UInt8} {k : Nat} (h : getT l 255 = (s, k, 0)) : l.take k = txB s ∧ k = (txB s).length ∧ s.length ≤ 255 := by
  unfold getT at h
  split at h
  · rename_i h1
    simp only [Prod.mk.injEq] at h
    exact absurd h.2.2 h1
  · rename_i h1
    split at h
    · simp at h
    · rename_i h2
      obtain ⟨n, k1, e1, hc⟩ : ∃ n k1 e1, getC l 255 = (n, k1, e1) := ⟨_, _, _, rfl⟩
      rw [hc] at h h1 h2
      simp only [ne_eq, Decidable.not_not] at h h1 h2
      subst h1
      obtain ⟨q1, q2, q3, q4, q5⟩ := getC_form (by omega) hc
      simp only [Prod.mk.injEq, and_true] at h
      obtain ⟨hs, hk⟩ := h
      have hk1 : k1 ≤ l.length := by
        have := congrArg List.length q1
        rw [List.length_take, ← q2] at this
        omega
      have hsl : s.length = n.toNat := by rw [← hs, List.length_take, List.length_drop]; omega
      have hsn : (s.length : Int) = n := by omega
      refine ⟨?_, ?_, by omega⟩
      · unfold txB
        rw [hsn, ← hk, List.take_add, q1, hs]
      · unfold txB
        rw [List.length_append, hsn, ← q2]
        omega
theorem codT : Codec rT txB (fun s => s.length ≤ 255) where
  put := fun A x R h => by
    unfold rT
    have h2 := getT_put (strB x) R 255 (by rw [strB_size]; omega)
    rw [strB_size, if_neg (by omega)] at h2
    rw [List.drop_left, show txB x ++ R = textB (strB x) ++ R from rfl, h2, stepR_ok]
    rfl
  form := fun bs a x a' h => by
    obtain ⟨k, hk, ha⟩ := stepR_form h
    obtain ⟨h1, h2, h3⟩ := getT_form hk
    exact ⟨h3, by rw [ha, h2], by rw [← h2]; exact h1⟩
  err := fun bs a r h => stepR_err h

def rPair {α β : Type} (f : List UInt8 → Nat → Nat → α × Nat × Nat) (g : List UInt8 → Nat → Nat → β × Nat × Nat) (bs : List UInt8) (a r : Nat) : (α × β) × Nat × Nat :=
  (((f bs a r).1, (g bs (f bs a r).2.1 (f bs a r).2.2).1), (g bs (f bs a r).2.1 (f bs a r).2.2).2)
def rMap {α β : Type} (h : α → β) (f : List UInt8 → Nat → Nat → α × Nat × Nat) (bs : List UInt8) (a r : Nat) : β × Nat × Nat := (h (f bs a r).1, (f bs a r).2)

theorem Codec.pair {α β : Type} {f : List UInt8 → Nat → Nat → α × Nat × Nat} {g : List UInt8 → Nat → Nat → β × Nat × Nat} {ef : α → List UInt8} {eg : β → List UInt8} {of : α → Prop} {og : β → Prop} (cf : Codec f ef of) (cg : Codec g eg og) :
    Codec (rPair f g) (fun p => ef p.1 ++ eg p.2) (fun p => of p.1 ∧ og p.2) where
  put := fun A x R h => by
    obtain ⟨x, y⟩ := x
    have h1 := cf.put A x (eg y ++ R) h.1
    have h2 := cg.put (A ++ ef x) y R h.2
    simp only [List.append_assoc] at h2 ⊢
    unfold rPair
    rw [h1]
    simp only
    rw [List.length_append] at h2
    rw [h2]
    simp only [List.length_append, Nat.add_assoc]
  form := fun bs a x a' h => by
    obtain ⟨x, y⟩ := x
    unfold rPair at h
    obtain ⟨x1, a1, r1, hf⟩ : ∃ x1 a1 r1, f bs a 0 = (x1, a1, r1) := ⟨_, _, _, rfl⟩
    rw [hf] at h
    simp only [Prod.mk.injEq] at h
    obtain ⟨⟨rfl, hy⟩, hr⟩ := h
    by_cases hr1 : r1 = 0
    · subst hr1
      obtain ⟨o1, p1, t1⟩ := cf.form _ _ _ _ hf
      have hg : g bs a1 0 = (y, a', 0) := Prod.ext hy hr
      obtain ⟨o2, p2, t2⟩ := cg.form _ _ _ _ hg
      refine ⟨⟨o1, o2⟩, by simp only [List.length_append]; omega, ?_⟩
      simp only [List.length_append]
      rw [List.take_add, t1, List.drop_drop, ← p1, t2]
    · rw [cg.err _ _ _ hr1] at hr
      simp only [Prod.mk.injEq] at hr
      exact absurd hr.2 hr1
  err := fun bs a r h => by
    unfold rPair
    simp only
    rw [cf.err _ _ _ h]
    exact cg.err _ _ _ h
theorem Codec.map {α β : Type} {f : List UInt8 → Nat → Nat → α × Nat × Nat} {ef : α → List UInt8} {of : α → Prop} (cf : Codec f ef of) (h : α → β) (k : β → α) (h1 : ∀ x, k (h x) = x) (h2 : ∀ y, h (k y) = y) : Codec (rMap h f) (fun y => ef (k y)) (fun y => of (k y)) where
  put := fun A y R ho => by
    unfold rMap
    rw [cf.put A (k y) R ho]
    simp only [h2]
  form := fun bs a y a' hr => by
    unfold rMap at hr
    obtain ⟨x, a1, r1, hf⟩ : ∃ x1 a1 r1, f bs a 0 = (x1, a1, r1) := ⟨_, _, _, rfl⟩
    rw [hf] at hr
    simp only [Prod.mk.injEq] at hr
    obtain ⟨rfl, rfl, rfl⟩ := hr
    have := cf.form _ _ _ _ hf
    rw [h1]
    exact this
  err := fun bs a r hr => cf.err _ _ _ hr

theorem loop_put {α : Type} {f : List UInt8 → Nat → Nat → α × Nat × Nat} {ef : α → List UInt8} {of : α → Prop} (cf : Codec f ef of) (R : List UInt8) : ∀ (l : List α) (A : List UInt8), (∀ x ∈ l, of x) →
    loopR (f (A ++ ((l.map ef).flatten ++ R))) l.length A.length 0 = (l, A.length + (l.map ef).flatten.length, 0)
  | [], A, _ => by simp [loopR]
  | x :: t, A, h => by
    have h1 := cf.put A x ((t.map ef).flatten ++ R) (h x (by simp))
    have ih := loop_put cf R t (A ++ ef x) fun y hy => h y (by simp [hy])
    simp only [List.map_cons, List.flatten_cons, List.length_cons, List.append_assoc, List.length_append] at ih ⊢
    rw [loopR_succ, h1]
    simp only
    rw [ih]
    simp only [Nat.add_assoc]
theorem loop_form {α : Type} {f : List UInt8 → Nat → Nat → α × Nat × Nat} {ef : α → List UInt8} {of : α → Prop} (cf : Codec f ef of) (bs : List UInt8) : ∀ (n a : Nat) (l : List α) (a' : Nat), loopR (f bs) n a 0 = (l, a', 0) →
    l.length = n ∧ (∀ x ∈ l, of x) ∧ a' = a + (l.map ef).flatten.length ∧ (bs.drop a).take (l.map ef).flatten.length = (l.map ef).flatten
  | 0, a, l, a', h => by
    simp only [loopR, Prod.mk.injEq] at h
    obtain ⟨rfl, rfl, -⟩ := h
    simp
  | n + 1, a, l, a', h => by
    rw [loopR_succ] at h
    obtain ⟨x, a1, r1, hf⟩ : ∃ x1 a1 r1, f bs a 0 = (x1, a1, r1) := ⟨_, _, _, rfl⟩
    rw [hf] at h
    simp only [Prod.mk.injEq] at h
    obtain ⟨hl, hr⟩ := h
    by_cases hr1 : r1 = 0
    · subst hr1
      obtain ⟨o1, p1, t1⟩ := cf.form _ _ _ _ hf
      obtain ⟨q1, q2, q3, q4⟩ := loop_form cf bs n a1 (loopR (f bs) n a1 0).1 a' (Prod.ext rfl hr)
      subst hl
      refine ⟨by simp [q1], ?_, ?_, ?_⟩
      · intro y hy
        rcases List.mem_cons.1 hy with rfl | hy
        · exact o1
        · exact q2 y hy
      · simp only [List.map_cons, List.flatten_cons, List.length_append]; omega
      · simp only [List.map_cons, List.flatten_cons, List.length_append]
        rw [List.take_add, t1, List.drop_drop, ← p1, q4]
    · rw [loopR_bad _ _ _ _ hr1] at hr
      simp only [Prod.mk.injEq] at hr
      exact absurd hr.2 hr1
theorem Codec.all {α : Type} {f : List UInt8 → Nat → Nat → α × Nat × Nat} {ef : α → List UInt8} {of : α → Prop} (cf : Codec f ef of) : Codec (fun bs a r => rAll bs (f bs) a r) (allB ef) (fun l => (∀ x ∈ l, of x) ∧ l.length ≤ 1048576) where
  put := fun A l R h => by
    have hi : I64 (l.length : Int) := ⟨by omega, by have := h.2; omega⟩
    have hc := getC_put hi.1 hi.2 ((l.map ef).flatten ++ R) 1048576
    rw [if_neg (by omega), if_neg (by have := h.2; omega)] at hc
    have hl := loop_put cf R l (A ++ numB l.length) h.1
    unfold rAll rC allB
    simp only [List.append_assoc, List.length_append] at hl ⊢
    rw [List.drop_left, hc, stepR_ok]
    simp only [Int.toNat_natCast]
    rw [hl]
    simp only [Nat.add_assoc]
  form := fun bs a l a' h => by
    unfold rAll at h
    obtain ⟨n, a1, r1, hf⟩ : ∃ x1 a1 r1, rC bs a 0 = (x1, a1, r1) := ⟨_, _, _, rfl⟩
    rw [hf] at h
    simp only at h
    by_cases hr1 : r1 = 0
    · subst hr1
      obtain ⟨k, hk, ha⟩ := stepR_form hf
      obtain ⟨c1, c2, c3, c4, c5⟩ := getC_form (by omega) hk
      obtain ⟨q1, q2, q3, q4⟩ := loop_form cf bs _ _ _ _ h
      have hn : (l.length : Int) = n := by omega
      refine ⟨⟨q2, by omega⟩, ?_, ?_⟩
      · unfold allB; rw [List.length_append, hn, ← c2]; omega
      · unfold allB
        rw [List.length_append, hn, ← c2, List.take_add, c1, List.drop_drop, ← ha, q4]
    · rw [loopR_bad _ _ _ _ hr1] at h
      simp only [Prod.mk.injEq] at h
      exact absurd h.2.2 hr1
  err := fun bs a r h => by
    unfold rAll
    have h1 : (rC bs a r).2 = (a, r) := stepR_err h
    rw [h1]
    simp only
    rw [loopR_bad _ _ _ _ h]

def okI (x : In7) : Prop := I64 x.op ∧ I64 x.a
def okV (x : Vr) : Prop := x.name.length ≤ 255 ∧ I64 x.slot ∧ I64 x.lo ∧ I64 x.hi
def okS (x : Sh) : Prop := x.name.length ≤ 255 ∧ (∀ f ∈ x.fields, f.length ≤ 255) ∧ x.fields.length ≤ 1048576
def okU (u : Un) : Prop := u.name.length ≤ 255 ∧ I64 u.params ∧ I64 u.slots ∧ I64 u.stack ∧ True ∧ ((∀ x ∈ u.ins, okI x) ∧ u.ins.length ≤ 1048576) ∧ (∀ x ∈ u.vars, okV x) ∧ u.vars.length ≤ 1048576
/-- A code of which the bytes are read as it was. -/
def okCdx (c : Cd) : Prop := ((∀ s ∈ c.strs, s.length ≤ 255) ∧ c.strs.length ≤ 1048576) ∧ ((∀ s ∈ c.shapes, okS s) ∧ c.shapes.length ≤ 1048576) ∧ ((∀ s ∈ c.units, okU s) ∧ c.units.length ≤ 1048576) ∧ I64 c.main

theorem Codec.congr {α : Type} {f g : List UInt8 → Nat → Nat → α × Nat × Nat} {ef eg : α → List UInt8} {of og : α → Prop} (cf : Codec f ef of) (h1 : ∀ bs a r, g bs a r = f bs a r) (h2 : ∀ x, eg x = ef x) (h3 : ∀ x, og x = of x) : Codec g eg og := by
  obtain rfl : g = f := funext fun bs => funext fun a => funext fun r => h1 bs a r
  obtain rfl : eg = ef := funext h2
  obtain rfl : og = of := funext h3
  exact cf
theorem rIns_eq (bs : List UInt8) (a0 r0 : Nat) : rIns bs a0 r0 = rMap (fun p => (⟨p.1, p.2⟩ : In7)) (rPair rI rI) bs a0 r0 := by
  obtain ⟨x0, a1, r1, h0⟩ : ∃ x ya yr, rI bs a0 r0 = (x, ya, yr) := ⟨_, _, _, rfl⟩
  obtain ⟨x1, a2, r2, h1⟩ : ∃ x ya yr, rI bs a1 r1 = (x, ya, yr) := ⟨_, _, _, rfl⟩
  simp only [rIns, rMap, rPair, h0, h1]
theorem rVar_eq (bs : List UInt8) (a0 r0 : Nat) : rVar bs a0 r0 = rMap (fun p => (⟨p.1, p.2.1, p.2.2.1, p.2.2.2⟩ : Vr)) (rPair rT (rPair rI (rPair rI rI))) bs a0 r0 := by
  obtain ⟨x0, a1, r1, h0⟩ : ∃ x ya yr, rT bs a0 r0 = (x, ya, yr) := ⟨_, _, _, rfl⟩
  obtain ⟨x1, a2, r2, h1⟩ : ∃ x ya yr, rI bs a1 r1 = (x, ya, yr) := ⟨_, _, _, rfl⟩
  obtain ⟨x2, a3, r3, h2⟩ : ∃ x ya yr, rI bs a2 r2 = (x, ya, yr) := ⟨_, _, _, rfl⟩
  obtain ⟨x3, a4, r4, h3⟩ : ∃ x ya yr, rI bs a3 r3 = (x, ya, yr) := ⟨_, _, _, rfl⟩
  simp only [rVar, rMap, rPair, h0, h1, h2, h3]
theorem rSh_eq (bs : List UInt8) (a0 r0 : Nat) : rSh bs a0 r0 = rMap (fun p => (⟨p.1, p.2⟩ : Sh)) (rPair rT (fun bs a r => rAll bs (rT bs) a r)) bs a0 r0 := by
  obtain ⟨x0, a1, r1, h0⟩ : ∃ x ya yr, rT bs a0 r0 = (x, ya, yr) := ⟨_, _, _, rfl⟩
  obtain ⟨x1, a2, r2, h1⟩ : ∃ x ya yr, rAll bs (rT bs) a1 r1 = (x, ya, yr) := ⟨_, _, _, rfl⟩
  simp only [rSh, rMap, rPair, h0, h1]
theorem rUn_eq (bs : List UInt8) (a0 r0 : Nat) : rUn bs a0 r0 = rMap (fun p => (⟨p.1, p.2.1, p.2.2.1, p.2.2.2.1, p.2.2.2.2.1, p.2.2.2.2.2.1, p.2.2.2.2.2.2⟩ : Un)) (rPair rT (rPair rI (rPair rI (rPair rI (rPair rB (rPair (fun bs a r => rAll bs (rIns bs) a r) (fun bs a r => rAll bs (rVar bs) a r))))))) bs a0 r0 := by
  obtain ⟨x0, a1, r1, h0⟩ : ∃ x ya yr, rT bs a0 r0 = (x, ya, yr) := ⟨_, _, _, rfl⟩
  obtain ⟨x1, a2, r2, h1⟩ : ∃ x ya yr, rI bs a1 r1 = (x, ya, yr) := ⟨_, _, _, rfl⟩
  obtain ⟨x2, a3, r3, h2⟩ : ∃ x ya yr, rI bs a2 r2 = (x, ya, yr) := ⟨_, _, _, rfl⟩
  obtain ⟨x3, a4, r4, h3⟩ : ∃ x ya yr, rI bs a3 r3 = (x, ya, yr) := ⟨_, _, _, rfl⟩
  obtain ⟨x4, a5, r5, h4⟩ : ∃ x ya yr, rB bs a4 r4 = (x, ya, yr) := ⟨_, _, _, rfl⟩
  obtain ⟨x5, a6, r6, h5⟩ : ∃ x ya yr, rAll bs (rIns bs) a5 r5 = (x, ya, yr) := ⟨_, _, _, rfl⟩
  obtain ⟨x6, a7, r7, h6⟩ : ∃ x ya yr, rAll bs (rVar bs) a6 r6 = (x, ya, yr) := ⟨_, _, _, rfl⟩
  simp only [rUn, rMap, rPair, h0, h1, h2, h3, h4, h5, h6]
theorem codIns : Codec rIns insB okI := ((codI.pair codI).map (fun p => (⟨p.1, p.2⟩ : In7)) (fun x => (x.op, x.a)) (fun _ => rfl) (fun _ => rfl)).congr rIns_eq (fun _ => rfl) (fun _ => rfl)
theorem codVar : Codec rVar vrB okV := ((codT.pair (codI.pair (codI.pair codI))).map (fun p => (⟨p.1, p.2.1, p.2.2.1, p.2.2.2⟩ : Vr)) (fun x => (x.name, x.slot, x.lo, x.hi)) (fun _ => rfl) (fun _ => rfl)).congr rVar_eq (fun _ => rfl) (fun _ => rfl)
theorem codSh : Codec rSh shB okS := ((codT.pair codT.all).map (fun p => (⟨p.1, p.2⟩ : Sh)) (fun x => (x.name, x.fields)) (fun _ => rfl) (fun _ => rfl)).congr rSh_eq (fun _ => rfl) (fun _ => rfl)
theorem codUn : Codec rUn unB okU := ((codT.pair (codI.pair (codI.pair (codI.pair (codB.pair (codIns.all.pair codVar.all)))))).map (fun p => (⟨p.1, p.2.1, p.2.2.1, p.2.2.2.1, p.2.2.2.2.1, p.2.2.2.2.2.1, p.2.2.2.2.2.2⟩ : Un)) (fun u => (u.name, u.params, u.slots, u.stack, u.result, u.ins, u.vars)) (fun _ => rfl) (fun _ => rfl)).congr rUn_eq (fun _ => rfl) (fun _ => rfl)
def rCd : List UInt8 → Nat → Nat → Cd × Nat × Nat := rMap (fun p => (⟨p.1, p.2.1, p.2.2.1, p.2.2.2⟩ : Cd)) (rPair (fun bs a r => rAll bs (rT bs) a r) (rPair (fun bs a r => rAll bs (rSh bs) a r) (rPair (fun bs a r => rAll bs (rUn bs) a r) rI)))
theorem codCd : Codec rCd cdB okCdx := ((codT.all.pair (codSh.all.pair (codUn.all.pair codI))).map (fun p => (⟨p.1, p.2.1, p.2.2.1, p.2.2.2⟩ : Cd)) (fun c => (c.strs, c.shapes, c.units, c.main)) (fun _ => rfl) (fun _ => rfl)).congr (fun _ _ _ => rfl) (fun _ => rfl) (fun _ => rfl)
theorem rCode_eq (bs : List UInt8) : rCode bs = rCd bs 0 0 := by
  obtain ⟨x0, a1, r1, h0⟩ : ∃ x ya yr, rAll bs (rT bs) 0 0 = (x, ya, yr) := ⟨_, _, _, rfl⟩
  obtain ⟨x1, a2, r2, h1⟩ : ∃ x ya yr, rAll bs (rSh bs) a1 r1 = (x, ya, yr) := ⟨_, _, _, rfl⟩
  obtain ⟨x2, a3, r3, h2⟩ : ∃ x ya yr, rAll bs (rUn bs) a2 r2 = (x, ya, yr) := ⟨_, _, _, rfl⟩
  obtain ⟨x3, a4, r4, h3⟩ : ∃ x ya yr, rI bs a3 r3 = (x, ya, yr) := ⟨_, _, _, rfl⟩
  simp only [rCode, rCd, rMap, rPair, h0, h1, h2, h3]

theorem rCode_form {bs : List UInt8} {c : Cd} {a : Nat} (h : rCode bs = (c, a, 0)) : okCdx c ∧ a = (cdB c).length ∧ bs.take (cdB c).length = cdB c := by
  rw [rCode_eq] at h
  have := codCd.form _ _ _ _ h
  simpa using this
theorem endR_zero {n a r : Nat} (h : endR n a r = 0) : r = 0 ∧ n ≤ a := by
  unfold endR at h
  by_cases hr : r = 0
  · subst hr
    simp only [ne_eq, not_true_eq_false, if_false] at h
    by_cases ha : a < n
    · rw [if_pos ha] at h; cases h
    · exact ⟨rfl, by omega⟩
  · rw [if_pos hr] at h
    exact absurd h hr
theorem ldE_form {bs : List UInt8} (h : ldE bs = 0) : okCdx (rCode bs).1 ∧ cdB (rCode bs).1 = bs := by
  obtain ⟨c, a, r, hc⟩ : ∃ c a r, rCode bs = (c, a, r) := ⟨_, _, _, rfl⟩
  have h1 : endR bs.length a r = 0 := by
    have h2 := h
    unfold ldE at h2
    rw [hc] at h2
    exact h2
  obtain ⟨hr, ha⟩ := endR_zero h1
  rw [hr] at hc
  obtain ⟨h3, h4, h5⟩ := rCode_form hc
  rw [hc]
  refine ⟨h3, ?_⟩
  show cdB c = bs
  rw [← h5]
  exact List.take_of_length_le (by omega)
end Go.Proofs.YtechkkphbajmoaaGreatDoor
/- code: of a right code the bytes are read as it was: the mathematics. -/
namespace Go.Proofs.YtechkkphbajmoaaGreatDoor
open Go.RowKit Go.Shelf

end Go.Proofs.YtechkkphbajmoaaGreatDoor
/- code: how long the bytes of a right code are; Bytes of a code that is not right; the code that has nothing. -/
namespace Go.Proofs.YtechkkphbajmoaaGreatDoor
open Go.RowKit Go.Shelf

/-- The code that has nothing. -/
def cZ : Cd := ⟨[], [], [], 0⟩
theorem cZ_small : SmallC cZ := by
  constructor <;> simp [cZ]
theorem cZ_ints : IntsC cZ := by
  constructor <;> simp [cZ, I64]
theorem cZ_len : (cdB cZ).length ≤ 140737488355328 := by
  decide +kernel
theorem cZ_in (w : World) : CodeIn (fun _ => False) w cZ (.slice none 0 0) (.slice none 0 0) (.slice none 0 0) :=
  ⟨⟨none, 0, rfl, Nat.le_refl _, Nat.zero_le _, .inl rfl⟩, ⟨none, 0, rfl, Nat.le_refl _, Nat.zero_le _, .inl rfl⟩, ⟨none, 0, rfl, Nat.le_refl _, Nat.zero_le _, .inl rfl⟩⟩
theorem strsIn_low {S : Nat → Prop} {w : World} {v : Value} {l : List (List UInt8)} (h : strsIn S w v l) : strsIn (fun q => q < w.heap.size) w v l := rowIn.wide h (fun _ hq _ => hq) fun _ _ _ h => h
theorem CodeIn.low {S : Nat → Prop} {w : World} {c : Cd} {vs vh vu : Value} (h : CodeIn S w c vs vh vu) : CodeIn (fun q => q < w.heap.size) w c vs vh vu :=
  ⟨strsIn_low h.strs, rowIn.wide h.shapes (fun _ hq _ => hq) fun _ _ _ ⟨a, u, b, d⟩ => ⟨a, u, b, strsIn_low d⟩,
    rowIn.wide h.units (fun _ hq _ => hq) fun _ _ _ ⟨a, b, d, e, f, ⟨u, g, i⟩, y, j, k⟩ => ⟨a, b, d, e, f, ⟨u, g, rowIn.wide i (fun _ hq _ => hq) fun _ _ _ h => h⟩, y, j, rowIn.wide k (fun _ hq _ => hq) fun _ _ _ h => h⟩⟩

end Go.Proofs.YtechkkphbajmoaaGreatDoor
