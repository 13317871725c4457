/- snap: what is told as bytes is read as it was, and what is read is told as just these: the mathematics. -/
import Derived.Test.YtbdgniiafdjmiaaGreatDoorPModel
import Derived.Test.YtbdgniiafdjmiaaGreatDoorPCodec
namespace Go.Proofs.YtbdgniiafdjmiaaGreatDoor
open Go.RowKit Go.Shelf

def rNil (_ : List UInt8) (a r : Nat) : Unit × Nat × Nat := ((), a, r)
theorem codNil : Codec rNil (fun _ => []) (fun _ => True) where
  put := fun A x R _ => by simp [rNil]
  form := fun bs a x a' h => by
    simp only [rNil, Prod.mk.injEq] at h
    exact ⟨trivial, by simpa using h.2.1.symm, by simp⟩
  err := fun bs a r h => rfl
theorem Codec.part {α β : Type} {f : List UInt8 → Nat → Nat → α × Nat × Nat} {ef : α → List UInt8} {of : α → Prop} (cf : Codec f ef of) (h : α → β) (k : β → α) (h1 : ∀ x, k (h x) = x) : Codec (rMap h f) (fun y => ef (k y)) (fun y => of (k y) ∧ h (k y) = y) where
  put := fun A y R ho => by
    unfold rMap
    rw [cf.put A (k y) R ho.1]
    simp only [ho.2]
  form := fun bs a y a' hr => by
    unfold rMap at hr
    obtain ⟨x, a1, r1, hf⟩ : ∃ x1 a1 r1, f bs a 0 = (x1, a1, r1) := ⟨_, _, _, rfl⟩
    rw [hf] at hr
    simp only [Prod.mk.injEq] at hr
    obtain ⟨rfl, rfl, rfl⟩ := hr
    have := cf.form _ _ _ _ hf
    rw [h1]
    exact ⟨⟨this.1, rfl⟩, this.2⟩
  err := fun bs a r hr => cf.err _ _ _ hr
def rDep {α β : Type} (f : List UInt8 → Nat → Nat → α × Nat × Nat) (g : α → List UInt8 → Nat → Nat → β × Nat × Nat) (bs : List UInt8) (a r : Nat) : (α × β) × Nat × Nat :=
  (((f bs a r).1, (g (f bs a r).1 bs (f bs a r).2.1 (f bs a r).2.2).1), (g (f bs a r).1 bs (f bs a r).2.1 (f bs a r).2.2).2)
theorem Codec.dep {α β : Type} {f : List UInt8 → Nat → Nat → α × Nat × Nat} {g : α → List UInt8 → Nat → Nat → β × Nat × Nat} {ef : α → List UInt8} {eg : α → β → List UInt8} {of : α → Prop} {og : α → β → Prop} (cf : Codec f ef of) (cg : ∀ x, Codec (g x) (eg x) (og x)) :
    Codec (rDep f g) (fun p => ef p.1 ++ eg p.1 p.2) (fun p => of p.1 ∧ og p.1 p.2) where
  put := fun A x R h => by
    obtain ⟨x, y⟩ := x
    have h1 := cf.put A x (eg x y ++ R) h.1
    have h2 := (cg x).put (A ++ ef x) y R h.2
    simp only [List.append_assoc] at h2 ⊢
    unfold rDep
    rw [h1]
    simp only
    rw [List.length_append] at h2
    rw [h2]
    simp only [List.length_append, Nat.add_assoc]
  form := fun bs a x a' h => by
    obtain ⟨x, y⟩ := x
    unfold rDep at h
    obtain ⟨x1, a1, r1, hf⟩ : ∃ x1 a1 r1, f bs a 0 = (x1, a1, r1) := ⟨_, _, _, rfl⟩
    rw [hf] at h
    simp only [Prod.mk.injEq] at h
    obtain ⟨⟨rfl, hy⟩, hr⟩ := h
    by_cases hr1 : r1 = 0
    · subst hr1
      obtain ⟨o1, p1, t1⟩ := cf.form _ _ _ _ hf
      have hg : g x1 bs a1 0 = (y, a', 0) := Prod.ext hy hr
      obtain ⟨o2, p2, t2⟩ := (cg x1).form _ _ _ _ hg
      refine ⟨⟨o1, o2⟩, by simp only [List.length_append]; omega, ?_⟩
      simp only [List.length_append]
      rw [List.take_add, t1, List.drop_drop, ← p1, t2]
    · rw [(cg x1).err _ _ _ hr1] at hr
      simp only [Prod.mk.injEq] at hr
      exact absurd hr.2 hr1
  err := fun bs a r h => by
    unfold rDep
    simp only
    rw [cf.err _ _ _ h]
    exact (cg _).err _ _ _ h

abbrev NS : Type := Int × List UInt8
def rBeh (k : Int) : List UInt8 → Nat → Nat → NS × Nat × Nat :=
  if k = 1 ∨ k = 2 ∨ k = 4 then rMap (fun n => ((n, []) : NS)) rI else if k = 3 then rMap (fun s => ((0, s) : NS)) (rTx 255) else rMap (fun _ => ((0, []) : NS)) rNil
def eBeh (k : Int) (y : NS) : List UInt8 := if k = 1 ∨ k = 2 ∨ k = 4 then numB y.1 else if k = 3 then txB y.2 else []
def oBeh (k : Int) (y : NS) : Prop :=
  if k = 1 ∨ k = 2 ∨ k = 4 then I64 y.1 ∧ ((y.1, []) : NS) = y else if k = 3 then (y.2.length : Int) ≤ 255 ∧ ((0, y.2) : NS) = y else True ∧ ((0, []) : NS) = y
theorem codBeh (k : Int) : Codec (rBeh k) (eBeh k) (oBeh k) := by
  by_cases h1 : k = 1 ∨ k = 2 ∨ k = 4
  · have c := codI.part (fun n => ((n, []) : NS)) (fun y => y.1) (fun _ => rfl)
    refine c.congr (fun bs a r => ?_) (fun y => ?_) (fun y => ?_)
    · unfold rBeh; rw [if_pos h1]
    · unfold eBeh; rw [if_pos h1]
    · unfold oBeh; rw [if_pos h1]
  · by_cases h2 : k = 3
    · have c := (codTx 255 (by decide) (by decide)).part (fun s => ((0, s) : NS)) (fun y => y.2) (fun _ => rfl)
      refine c.congr (fun bs a r => ?_) (fun y => ?_) (fun y => ?_)
      · unfold rBeh; rw [if_neg h1, if_pos h2]
      · unfold eBeh; rw [if_neg h1, if_pos h2]
      · unfold oBeh; rw [if_neg h1, if_pos h2]
    · have c := codNil.part (fun _ => ((0, []) : NS)) (fun _ => ()) (fun _ => rfl)
      refine c.congr (fun bs a r => ?_) (fun y => ?_) (fun y => ?_)
      · unfold rBeh; rw [if_neg h1, if_neg h2]
      · unfold eBeh; rw [if_neg h1, if_neg h2]
      · unfold oBeh; rw [if_neg h1, if_neg h2]

def okVl (v : Vl) : Prop := I64 v.k ∧ oBeh v.k (v.n, v.s)
theorem rVl_eq (bs : List UInt8) (a0 r0 : Nat) : rVl bs a0 r0 = rMap (fun p => (⟨p.1, p.2.1, p.2.2⟩ : Vl)) (rDep rI rBeh) bs a0 r0 := by
  obtain ⟨k, a1, r1, h0⟩ : ∃ x ya yr, rI bs a0 r0 = (x, ya, yr) := ⟨_, _, _, rfl⟩
  unfold rVl rMap rDep rBeh
  rw [h0]
  simp only
  by_cases h1 : k = 1 ∨ k = 2 ∨ k = 4
  · simp only [if_pos h1, rMap]
  · by_cases h2 : k = 3
    · simp only [if_neg h1, if_pos h2, rMap]
    · simp only [if_neg h1, if_neg h2, rMap, rNil]
theorem codVl : Codec rVl vlB okVl := ((codI.dep codBeh).map (fun p => (⟨p.1, p.2.1, p.2.2⟩ : Vl)) (fun v => (v.k, v.n, v.s)) (fun _ => rfl) (fun _ => rfl)).congr rVl_eq (fun _ => rfl) (fun _ => rfl)

def okRow (l : List Vl) : Prop := (∀ v ∈ l, okVl v) ∧ l.length ≤ 1048576
def okCal (c : Cal) : Prop := I64 c.unit ∧ I64 c.at0 ∧ I64 c.mark ∧ okRow c.slots ∧ okRow c.stack
def okObj (o : Ob) : Prop := (o.1.length : Int) ≤ 255 ∧ okRow o.2
def okSn (s : Sn) : Prop := I64 s.pos ∧ I64 s.st ∧ I64 s.ft ∧ I64 s.rd ∧ (s.out.length : Int) ≤ 4096 ∧ ((∀ c ∈ s.calls, okCal c) ∧ s.calls.length ≤ 1048576) ∧ (∀ o ∈ s.heap, okObj o) ∧ s.heap.length ≤ 1048576
theorem rCal_eq (bs : List UInt8) (a0 r0 : Nat) : rCal bs a0 r0 = rMap (fun p => (⟨p.1, p.2.1, p.2.2.1, p.2.2.2.1, p.2.2.2.2⟩ : Cal)) (rPair rI (rPair rI (rPair rI (rPair (fun bs a r => rAll bs (rVl bs) a r) (fun bs a r => rAll bs (rVl bs) a r))))) bs a0 r0 := by
  obtain ⟨x0, a1, r1, h0⟩ : ∃ x ya yr, rI bs a0 r0 = (x, ya, yr) := ⟨_, _, _, rfl⟩
  obtain ⟨x1, a2, r2, h1⟩ : ∃ x ya yr, rI bs a1 r1 = (x, ya, yr) := ⟨_, _, _, rfl⟩
  obtain ⟨x2, a3, r3, h2⟩ : ∃ x ya yr, rI bs a2 r2 = (x, ya, yr) := ⟨_, _, _, rfl⟩
  obtain ⟨x3, a4, r4, h3⟩ : ∃ x ya yr, rAll bs (rVl bs) a3 r3 = (x, ya, yr) := ⟨_, _, _, rfl⟩
  obtain ⟨x4, a5, r5, h4⟩ : ∃ x ya yr, rAll bs (rVl bs) a4 r4 = (x, ya, yr) := ⟨_, _, _, rfl⟩
  simp only [rCal, rMap, rPair, h0, h1, h2, h3, h4]
theorem codCal : Codec rCal calB okCal := ((codI.pair (codI.pair (codI.pair (codVl.all.pair codVl.all)))).map (fun p => (⟨p.1, p.2.1, p.2.2.1, p.2.2.2.1, p.2.2.2.2⟩ : Cal)) (fun c => (c.unit, c.at0, c.mark, c.slots, c.stack)) (fun _ => rfl) (fun _ => rfl)).congr rCal_eq (fun _ => rfl) (fun _ => rfl)
theorem rObj_eq (bs : List UInt8) (a0 r0 : Nat) : rObj bs a0 r0 = rPair (rTx 255) (fun bs a r => rAll bs (rVl bs) a r) bs a0 r0 := by
  obtain ⟨x0, a1, r1, h0⟩ : ∃ x ya yr, rTx 255 bs a0 r0 = (x, ya, yr) := ⟨_, _, _, rfl⟩
  obtain ⟨x1, a2, r2, h1⟩ : ∃ x ya yr, rAll bs (rVl bs) a1 r1 = (x, ya, yr) := ⟨_, _, _, rfl⟩
  simp only [rObj, rPair, h0, h1]
theorem codObj : Codec rObj objB okObj := ((codTx 255 (by decide) (by decide)).pair codVl.all).congr rObj_eq (fun _ => rfl) (fun _ => rfl)
theorem rSn_eq (bs : List UInt8) (a0 r0 : Nat) : rSn bs a0 r0 = rMap (fun p => (⟨p.1, p.2.1, p.2.2.1, p.2.2.2.2.2.1, p.2.2.2.2.2.2, p.2.2.2.2.1, p.2.2.2.1⟩ : Sn)) (rPair rI (rPair rI (rPair rI (rPair rI (rPair (rTx 4096) (rPair (fun bs a r => rAll bs (rCal bs) a r) (fun bs a r => rAll bs (rObj bs) a r))))))) bs a0 r0 := by
  obtain ⟨x0, a1, r1, h0⟩ : ∃ x ya yr, rI bs a0 r0 = (x, ya, yr) := ⟨_, _, _, rfl⟩
  obtain ⟨x1, a2, r2, h1⟩ : ∃ x ya yr, rI bs a1 r1 = (x, ya, yr) := ⟨_, _, _, rfl⟩
  obtain ⟨x2, a3, r3, h2⟩ : ∃ x ya yr, rI bs a2 r2 = (x, ya, yr) := ⟨_, _, _, rfl⟩
  obtain ⟨x3, a4, r4, h3⟩ : ∃ x ya yr, rI bs a3 r3 = (x, ya, yr) := ⟨_, _, _, rfl⟩
  obtain ⟨x4, a5, r5, h4⟩ : ∃ x ya yr, rTx 4096 bs a4 r4 = (x, ya, yr) := ⟨_, _, _, rfl⟩
  obtain ⟨x5, a6, r6, h5⟩ : ∃ x ya yr, rAll bs (rCal bs) a5 r5 = (x, ya, yr) := ⟨_, _, _, rfl⟩
  obtain ⟨x6, a7, r7, h6⟩ : ∃ x ya yr, rAll bs (rObj bs) a6 r6 = (x, ya, yr) := ⟨_, _, _, rfl⟩
  simp only [rSn, rMap, rPair, h0, h1, h2, h3, h4, h5, h6]
theorem codSn : Codec rSn snB okSn := ((codI.pair (codI.pair (codI.pair (codI.pair ((codTx 4096 (by decide) (by decide)).pair (codCal.all.pair codObj.all)))))).map (fun p => (⟨p.1, p.2.1, p.2.2.1, p.2.2.2.2.2.1, p.2.2.2.2.2.2, p.2.2.2.2.1, p.2.2.2.1⟩ : Sn)) (fun s => (s.pos, s.st, s.ft, s.rd, s.out, s.calls, s.heap)) (fun _ => rfl) (fun _ => rfl)).congr rSn_eq (fun _ => rfl) (fun _ => rfl)

theorem rSn_put {s : Sn} (h : okSn s) (R : List UInt8) : rSn (snB s ++ R) 0 0 = (s, (snB s).length, 0) := by
  have := codSn.put [] s R h
  simpa using this
theorem ldS_put {s : Sn} (h : okSn s) : ldS (snB s) = 0 ∧ (rSn (snB s) 0 0).1 = s := by
  have h1 := rSn_put h []
  rw [List.append_nil] at h1
  unfold ldS endR
  rw [h1]
  simp
theorem ldS_more {s : Sn} (h : okSn s) (b : UInt8) : ldS (snB s ++ [b]) = 5 := by
  have h1 := rSn_put h [b]
  unfold ldS endR
  rw [h1]
  simp
theorem ldS_form {bs : List UInt8} (h : ldS bs = 0) : okSn (rSn bs 0 0).1 ∧ snB (rSn bs 0 0).1 = bs := by
  obtain ⟨c, a, r, hc⟩ : ∃ c a r, rSn bs 0 0 = (c, a, r) := ⟨_, _, _, rfl⟩
  have h1 : endR bs.length a r = 0 := by
    have h2 := h
    unfold ldS at h2
    rw [hc] at h2
    exact h2
  obtain ⟨hr, ha⟩ := endR_zero h1
  rw [hr] at hc
  have h6 := codSn.form _ _ _ _ hc
  obtain ⟨h3, h4, h5⟩ := h6
  rw [hc]
  refine ⟨h3, ?_⟩
  show snB c = bs
  simp only [Nat.zero_add, List.drop_zero] at h4 h5
  rw [← h5]
  exact List.take_of_length_le (by omega)
theorem snB_inj {s t : Sn} (hs : okSn s) (ht : okSn t) (h : snB s = snB t) : s = t := by
  have h1 := rSn_put hs []
  have h2 := rSn_put ht []
  rw [h, h2] at h1
  exact (Prod.mk.inj h1).1.symm
end Go.Proofs.YtbdgniiafdjmiaaGreatDoor
