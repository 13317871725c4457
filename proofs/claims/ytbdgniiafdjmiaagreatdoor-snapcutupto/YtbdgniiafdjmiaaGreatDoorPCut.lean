/- snap: bytes of which the end is missing are too short: the mathematics. -/
import Derived.Test.YtbdgniiafdjmiaaGreatDoorPBack
namespace Go.Proofs.YtbdgniiafdjmiaaGreatDoor
open Go.RowKit Go.Shelf

/-- What is cut off is too short. -/
def Cuts {α : Type} (rd : List UInt8 → Nat → Nat → α × Nat × Nat) (enc : α → List UInt8) (ok : α → Prop) : Prop :=
  ∀ A x n, ok x → n < (enc x).length → (rd (A ++ (enc x).take n) A.length 0).2.2 = 3
theorem cutI : Cuts rI numB I64 := fun A x n h hn => by
  unfold rI
  rw [List.drop_left, getI_cut h.1 h.2 hn]
  simp [stepR]
theorem cutTx (m : Int) (hm : 0 ≤ m) (hm2 : m ≤ 1048576) : Cuts (rTx m) txB (fun s => (s.length : Int) ≤ m) := fun A s n h hn => by
  unfold rTx
  rw [List.drop_left]
  unfold txB at hn ⊢
  have hi : I64 (s.length : Int) := ⟨by omega, by omega⟩
  by_cases h1 : n < (numB (s.length : Int)).length
  · rw [List.take_append_of_le_length (by omega)]
    have hg := getI_cut hi.1 hi.2 h1
    have hc : getC ((numB (s.length : Int)).take n) m = (0, 0, 3) := by unfold getC; rw [hg]; simp
    have ht : getT ((numB (s.length : Int)).take n) m = ([], 0, 3) := by unfold getT; rw [hc]; simp
    rw [ht]
    simp [stepR]
  · have e : (numB (s.length : Int) ++ s).take n = numB (s.length : Int) ++ s.take (n - (numB (s.length : Int)).length) := by
      rw [List.take_append, List.take_of_length_le (by omega)]
    have hc := getC_put hi.1 hi.2 (s.take (n - (numB (s.length : Int)).length)) m
    rw [if_neg (by omega), if_neg (by omega)] at hc
    rw [List.length_append] at hn
    have ht : getT (numB (s.length : Int) ++ s.take (n - (numB (s.length : Int)).length)) m = ([], 0, 3) := by
      unfold getT
      rw [hc]
      simp only [ne_eq, not_true_eq_false, if_false, List.length_append, List.length_take]
      rw [if_pos (by omega)]
    rw [e, ht]
    simp [stepR]
theorem Cuts.pair {α β : Type} {f : List UInt8 → Nat → Nat → α × Nat × Nat} {g : List UInt8 → Nat → Nat → β × Nat × Nat} {ef : α → List UInt8} {eg : β → List UInt8} {of : α → Prop} {og : β → Prop} (kf : Cuts f ef of) (kg : Cuts g eg og) (cf : Codec f ef of) (cg : Codec g eg og) :
    Cuts (rPair f g) (fun p => ef p.1 ++ eg p.2) (fun p => of p.1 ∧ og p.2) := fun A p n h hn => by
  obtain ⟨x, y⟩ := p
  simp only [List.length_append] at hn
  unfold rPair
  simp only
  by_cases h1 : n < (ef x).length
  · have e : (ef x ++ eg y).take n = (ef x).take n := List.take_append_of_le_length (by omega)
    rw [e]
    have k := kf A x n h.1 h1
    rw [cg.err _ _ _ (by rw [k]; decide)]
    exact k
  · have e : (ef x ++ eg y).take n = ef x ++ (eg y).take (n - (ef x).length) := by rw [List.take_append, List.take_of_length_le (by omega)]
    rw [e]
    have h2 := cf.put A x ((eg y).take (n - (ef x).length)) h.1
    rw [h2]
    simp only
    have k := kg (A ++ ef x) y (n - (ef x).length) h.2 (by omega)
    rw [List.append_assoc, List.length_append] at k
    exact k
theorem Cuts.dep {α β : Type} {f : List UInt8 → Nat → Nat → α × Nat × Nat} {g : α → List UInt8 → Nat → Nat → β × Nat × Nat} {ef : α → List UInt8} {eg : α → β → List UInt8} {of : α → Prop} {og : α → β → Prop} (kf : Cuts f ef of) (kg : ∀ x, Cuts (g x) (eg x) (og x)) (cf : Codec f ef of) (cg : ∀ x, Codec (g x) (eg x) (og x)) :
    Cuts (rDep f g) (fun p => ef p.1 ++ eg p.1 p.2) (fun p => of p.1 ∧ og p.1 p.2) := fun A p n h hn => by
  obtain ⟨x, y⟩ := p
  simp only [List.length_append] at hn
  unfold rDep
  simp only
  by_cases h1 : n < (ef x).length
  · have e : (ef x ++ eg x y).take n = (ef x).take n := List.take_append_of_le_length (by omega)
    rw [e]
    have k := kf A x n h.1 h1
    rw [(cg _).err _ _ _ (by rw [k]; decide)]
    exact k
  · have e : (ef x ++ eg x y).take n = ef x ++ (eg x y).take (n - (ef x).length) := by rw [List.take_append, List.take_of_length_le (by omega)]
    rw [e]
    have h2 := cf.put A x ((eg x y).take (n - (ef x).length)) h.1
    rw [h2]
    simp only
    have k := kg x (A ++ ef x) y (n - (ef x).length) h.2 (by omega)
    rw [List.append_assoc, List.length_append] at k
    exact k
theorem Cuts.map {α β : Type} {f : List UInt8 → Nat → Nat → α × Nat × Nat} {ef : α → List UInt8} {of : α → Prop} (kf : Cuts f ef of) (h : α → β) (k : β → α) {og : β → Prop} (ho : ∀ y, og y → of (k y)) : Cuts (rMap h f) (fun y => ef (k y)) og := fun A y n hy hn => kf A (k y) n (ho y hy) hn
theorem Cuts.congr {α : Type} {f g : List UInt8 → Nat → Nat → α × Nat × Nat} {ef eg : α → List UInt8} {of og : α → Prop} (kf : Cuts f ef of) (h1 : ∀ bs a r, g bs a r = f bs a r) (h2 : ∀ x, eg x = ef x) (h3 : ∀ x, og x → of x) : Cuts g eg og := fun A x n hx hn => by
  rw [h2] at hn ⊢
  rw [h1]
  exact kf A x n (h3 x hx) hn
theorem loop_cut {α : Type} {f : List UInt8 → Nat → Nat → α × Nat × Nat} {ef : α → List UInt8} {of : α → Prop} (kf : Cuts f ef of) (cf : Codec f ef of) : ∀ (l : List α) (A : List UInt8) (n : Nat), (∀ x ∈ l, of x) → n < (l.map ef).flatten.length →
    (loopR (f (A ++ ((l.map ef).flatten.take n))) l.length A.length 0).2.2 = 3
  | [], A, n, _, hn => by simp at hn
  | x :: t, A, n, h, hn => by
    simp only [List.map_cons, List.flatten_cons, List.length_append, List.length_cons] at hn ⊢
    rw [loopR_succ]
    by_cases h1 : n < (ef x).length
    · rw [List.take_append_of_le_length (by omega)]
      have k := kf A x n (h x (by simp)) h1
      simp only
      rw [loopR_bad _ _ _ _ (by rw [k]; decide)]
      exact k
    · have e : (ef x ++ (t.map ef).flatten).take n = ef x ++ (t.map ef).flatten.take (n - (ef x).length) := by rw [List.take_append, List.take_of_length_le (by omega)]
      rw [e]
      have h2 := cf.put A x ((t.map ef).flatten.take (n - (ef x).length)) (h x (by simp))
      rw [h2]
      simp only
      have ih := loop_cut kf cf t (A ++ ef x) (n - (ef x).length) (fun y hy => h y (by simp [hy])) (by omega)
      rw [List.append_assoc, List.length_append] at ih
      exact ih
theorem Cuts.all {α : Type} {f : List UInt8 → Nat → Nat → α × Nat × Nat} {ef : α → List UInt8} {of : α → Prop} (kf : Cuts f ef of) (cf : Codec f ef of) : Cuts (fun bs a r => rAll bs (f bs) a r) (allB ef) (fun l => (∀ x ∈ l, of x) ∧ l.length ≤ 1048576) := fun A l n h hn => by
  have hi : I64 (l.length : Int) := ⟨by omega, by have := h.2; omega⟩
  unfold allB at hn ⊢
  show (rAll (A ++ (numB (l.length : Int) ++ (l.map ef).flatten).take n) (f (A ++ (numB (l.length : Int) ++ (l.map ef).flatten).take n)) A.length 0).2.2 = 3
  unfold rAll rC
  rw [List.drop_left]
  by_cases h1 : n < (numB (l.length : Int)).length
  · rw [List.take_append_of_le_length (by omega)]
    have hg := getI_cut hi.1 hi.2 h1
    have hc : getC ((numB (l.length : Int)).take n) 1048576 = (0, 0, 3) := by unfold getC; rw [hg]; simp
    rw [hc]
    have hs : stepR (0 : Int) A.length 0 (0, 0, 3) = (0, A.length, 3) := by simp [stepR]
    rw [hs]
    simp only
    rw [loopR_bad _ _ _ _ (by decide)]
  · have e : (numB (l.length : Int) ++ (l.map ef).flatten).take n = numB (l.length : Int) ++ (l.map ef).flatten.take (n - (numB (l.length : Int)).length) := by
      rw [List.take_append, List.take_of_length_le (by omega)]
    have hc := getC_put hi.1 hi.2 ((l.map ef).flatten.take (n - (numB (l.length : Int)).length)) 1048576
    rw [if_neg (by omega), if_neg (by have := h.2; omega)] at hc
    rw [List.length_append] at hn
    rw [e, hc, stepR_ok]
    simp only [Int.toNat_natCast]
    have k := loop_cut kf cf l (A ++ numB (l.length : Int)) (n - (numB (l.length : Int)).length) h.1 (by omega)
    rw [List.append_assoc, List.length_append] at k
    exact k
theorem cutBeh (k : Int) : Cuts (rBeh k) (eBeh k) (oBeh k) := by
  by_cases h1 : k = 1 ∨ k = 2 ∨ k = 4
  · refine (cutI.map (fun n => ((n, []) : NS)) (fun y => y.1) (og := oBeh k) fun y hy => ?_).congr (fun bs a r => ?_) (fun y => ?_) (fun y hy => hy)
    · unfold oBeh at hy; rw [if_pos h1] at hy; exact hy.1
    · unfold rBeh; rw [if_pos h1]
    · unfold eBeh; rw [if_pos h1]
  · by_cases h2 : k = 3
    · refine ((cutTx 255 (by decide) (by decide)).map (fun s => ((0, s) : NS)) (fun y => y.2) (og := oBeh k) fun y hy => ?_).congr (fun bs a r => ?_) (fun y => ?_) (fun y hy => hy)
      · unfold oBeh at hy; rw [if_neg h1, if_pos h2] at hy; exact hy.1
      · unfold rBeh; rw [if_neg h1, if_pos h2]
      · unfold eBeh; rw [if_neg h1, if_pos h2]
    · intro A y n _ hn
      unfold eBeh at hn
      rw [if_neg h1, if_neg h2] at hn
      simp at hn
theorem cutVl : Cuts rVl vlB okVl := ((cutI.dep cutBeh codI codBeh).map (fun p => (⟨p.1, p.2.1, p.2.2⟩ : Vl)) (fun v => (v.k, v.n, v.s)) (og := okVl) fun _ h => h).congr rVl_eq (fun _ => rfl) (fun _ h => h)
theorem cutVls : Cuts (fun bs a r => rAll bs (rVl bs) a r) (allB vlB) (fun l => (∀ x ∈ l, okVl x) ∧ l.length ≤ 1048576) := cutVl.all codVl
theorem cutCal : Cuts rCal calB okCal := ((cutI.pair (cutI.pair (cutI.pair (cutVls.pair cutVls codVl.all codVl.all) codI (codVl.all.pair codVl.all)) codI (codI.pair (codVl.all.pair codVl.all))) codI (codI.pair (codI.pair (codVl.all.pair codVl.all)))).map (fun p => (⟨p.1, p.2.1, p.2.2.1, p.2.2.2.1, p.2.2.2.2⟩ : Cal)) (fun c => (c.unit, c.at0, c.mark, c.slots, c.stack)) (og := okCal) fun _ h => h).congr rCal_eq (fun _ => rfl) (fun _ h => h)
theorem cutObj : Cuts rObj objB okObj := ((cutTx 255 (by decide) (by decide)).pair cutVls (codTx 255 (by decide) (by decide)) codVl.all).congr rObj_eq (fun _ => rfl) (fun _ h => h)
theorem cutSn : Cuts rSn snB okSn := by
  have c1 := codCal.all.pair codObj.all
  have k1 := (cutCal.all codCal).pair (cutObj.all codObj) codCal.all codObj.all
  have ct := codTx 4096 (by decide) (by decide)
  have c2 := ct.pair c1
  have k2 := (cutTx 4096 (by decide) (by decide)).pair k1 ct c1
  have c3 := codI.pair c2
  have k3 := cutI.pair k2 codI c2
  have c4 := codI.pair c3
  have k4 := cutI.pair k3 codI c3
  have c5 := codI.pair c4
  have k5 := cutI.pair k4 codI c4
  have k6 := cutI.pair k5 codI c5
  exact (k6.map (fun p => (⟨p.1, p.2.1, p.2.2.1, p.2.2.2.2.2.1, p.2.2.2.2.2.2, p.2.2.2.2.1, p.2.2.2.1⟩ : Sn)) (fun s => (s.pos, s.st, s.ft, s.rd, s.out, s.calls, s.heap)) (og := okSn) fun _ h => h).congr rSn_eq (fun _ => rfl) (fun _ h => h)
theorem ldS_cut {s : Sn} (h : okSn s) {n : Nat} (hn : n < (snB s).length) : ldS ((snB s).take n) = 3 := by
  have k := cutSn [] s n h hn
  simp only [List.nil_append, List.length_nil] at k
  unfold ldS endR
  rw [k]
  simp
end Go.Proofs.YtbdgniiafdjmiaaGreatDoor
