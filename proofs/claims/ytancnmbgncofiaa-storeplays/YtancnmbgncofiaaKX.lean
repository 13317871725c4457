/- store: its calls, by positions and bytes alone. -/
import Derived.Test.YtancnmbgncofiaaKPut
import Derived.Test.YtancnmbgncofiaaKFloor
import Derived.Test.YtancnmbgncofiaaKAll
namespace Go.Proofs.Ytancnmbgncofiaa
open Go.RowKit

/-- The place of a position. -/
def atF (ps : List Int) (pos : Int) : Nat := ps.countP fun p => decide (p < pos)
def isF (ps : List Int) (pos : Int) : Bool := ps[atF ps pos]? == some pos
theorem AtL.eq {ps : List Int} {pos : Int} {at0 : Nat} {is : Bool} (h : AtL ps pos at0 is) : at0 = atF ps pos ∧ is = isF ps pos := by
  have e : at0 = atF ps pos := by
    unfold atF
    have h1 : (ps.take at0).countP (fun p => decide (p < pos)) = (ps.take at0).length := by
      rw [List.countP_eq_length]
      intro a ha
      obtain ⟨i, hi, rfl⟩ := List.getElem_of_mem ha
      rw [List.length_take] at hi
      rw [List.getElem_take]
      simpa using h.lo i (by omega) (by omega)
    have h2 : (ps.drop at0).countP (fun p => decide (p < pos)) = 0 := by
      rw [List.countP_eq_zero]
      intro a ha
      obtain ⟨i, hi, rfl⟩ := List.getElem_of_mem ha
      rw [List.length_drop] at hi
      rw [List.getElem_drop]
      have := h.hi (at0 + i) (by omega) (by omega)
      simp; omega
    conv => rhs; rw [← List.take_append_drop at0 ps]
    rw [List.countP_append, h1, h2, List.length_take, Nat.min_eq_left h.le]; rfl
  refine ⟨e, ?_⟩
  unfold isF
  rw [← e, Bool.eq_iff_iff, h.is, beq_iff_eq]
  constructor
  · rintro ⟨h1, h2⟩; rw [List.getElem?_eq_getElem h1, h2]
  · intro h1
    obtain ⟨h2, h3⟩ := List.getElem?_eq_some_iff.1 h1
    exact ⟨h2, h3⟩
def putF (most : Nat) (l : List PB) (x : PB) : List PB := putL most l (atF (l.map (·.1)) x.1) (isF (l.map (·.1)) x.1) x
theorem PutTo.eq {most : Nat} {l l' : List PB} {x : PB} (h : PutTo most l x l') : l' = putF most l x := by
  obtain ⟨at0, is, h1, rfl⟩ := h
  unfold putF
  rw [← h1.eq.1, ← h1.eq.2]
theorem putF_len {most : Nat} {l : List PB} {x : PB} (h : l.length ≤ most) : (putF most l x).length ≤ most := by
  unfold putF putL
  have hle : atF (l.map (·.1)) x.1 ≤ l.length := by
    have := List.countP_le_length (p := fun p => decide (p < x.1)) (l := l.map (·.1))
    simpa [atF] using this
  have hw : (withL l (atF (l.map (·.1)) x.1) (isF (l.map (·.1)) x.1) x).length ≤ l.length + 1 := by
    unfold withL
    split
    · simp
    · simp; omega
  split
  · assumption
  · rename_i hn
    rw [List.length_eraseIdx]
    split
    · omega
    · rename_i h2
      exfalso
      apply h2
      unfold spareP
      cases hs : spareTo ((withL l (atF (l.map (·.1)) x.1) (isF (l.map (·.1)) x.1) x).map (·.1)) (atF (l.map (·.1)) x.1) ((withL l (atF (l.map (·.1)) x.1) (isF (l.map (·.1)) x.1) x).map (·.1)).length with
      | none => simp only [Option.getD_none]; omega
      | some g => have := (spareTo_lt hs).1; simpa using this

/-- A store, by positions and bytes; it lies from N on. -/
structure StX (N : Nat) (w : World) (most : Nat) (l : List PB) (h : Nat) (vk : Value) : Prop where
  st : ∃ ks, prK ks = l ∧ StIn w most ks h vk
  lo : N ≤ h
  lk : ∀ q, vk.ownBlock = some q → N ≤ q
  few : l.length ≤ most
theorem StX.lt {N : Nat} {w : World} {most : Nat} {l : List PB} {h : Nat} {vk : Value} (H : StX N w most l h vk) : h < w.heap.size := by
  obtain ⟨ks, -, hs⟩ := H.st
  exact hs.lt
theorem StX.low {N : Nat} {w : World} {most : Nat} {l : List PB} {h : Nat} {vk : Value} (H : StX N w most l h vk) : N ≤ w.heap.size := by have := H.lt; have := H.lo; omega
theorem StX.below {N : Nat} {w w' : World} {most : Nat} {l : List PB} {h : Nat} {vk : Value} (H : StX N w most l h vk) (hb : Below w.heap.size w w') : StX N w' most l h vk := by
  obtain ⟨ks, h1, h2⟩ := H.st
  exact ⟨⟨ks, h1, h2.below hb⟩, H.lo, H.lk, H.few⟩
theorem StX.rowlt {N : Nat} {w : World} {most : Nat} {l : List PB} {h : Nat} {vk : Value} (H : StX N w most l h vk) : ∀ q, vk.ownBlock = some q → q < w.heap.size := fun q e => by
  obtain ⟨ks, -, hs⟩ := H.st
  exact (hs.row.lt q e).2
/-- What else is there is kept by a store's call, if it is of another type. -/
theorem StX.type {N : Nat} {w : World} {most : Nat} {l : List PB} {h : Nat} {vk : Value} (H : StX N w most l h vk) {q : Nat} {cur : Array Value} {ty : TypeId} (hq : w.heap[q]? = some (.cells cur ty (0, 0))) (h1 : ty ≠ 47) (h2 : ty ≠ 52) : ¬ (q = h ∨ vk.ownBlock = some q) := by
  obtain ⟨ks, -, hs⟩ := H.st
  rintro (rfl | e)
  · rw [hs.blk] at hq
    simp at hq
    exact h1 hq.2.symm
  · obtain ⟨cur', hc⟩ := kown_type hs.row e
    rw [hc] at hq
    simp at hq
    exact h2 hq.2.symm

/-- What Put leaves. -/
def PutX (N : Nat) (w : World) (most : Nat) (l' : List PB) (h : Nat) (vk : Value) (w' : World) : Prop :=
  ∃ vk', StX N w' most l' h vk' ∧ KpS (fun k => k = h ∨ vk.ownBlock = some k) w w' ∧ ∀ q, vk'.ownBlock = some q → vk.ownBlock = some q ∨ w.heap.size ≤ q
theorem kPutX (N : Nat) (most : Nat) (l : List PB) (h : Nat) (vk : Value) (pos : Int) (vb : Value) (bs : List UInt8) (w : World) (H : StX N w most l h vk) (hp : 0 ≤ pos) (hp2 : pos ≤ 9223372036854775807) (hv : bytesAt w vb bs) (hl : bs.length ≤ 140737488355328) :
    Calls Try.prog 8 #[.pointer (some ⟨h, 0, none⟩), .int .i64 pos, vb] w fun e w' => e = .returned (.int .i64 0) ∧ PutX N w most (putF most l (pos, bs)) h vk w' := by
  obtain ⟨ks, rfl, hs⟩ := H.st
  have hlow := H.low
  refine (kPut_any most ks h vk pos vb bs w hs (by simpa using H.few) hp hp2 hv hl).mono ?_
  rintro e w' ⟨rfl, ks', vk', hst, hpt⟩
  have he := hpt.eq
  refine ⟨rfl, vk', ⟨⟨ks', he, hst.2.1⟩, H.lo, fun q e => ?_, ?_⟩, hst.1, hst.2.2⟩
  · rcases hst.2.2 q e with h9 | h9
    · exact H.lk q h9
    · omega
  · exact putF_len H.few
theorem kPutX_neg (N : Nat) (most : Nat) (l : List PB) (h : Nat) (vk : Value) (pos : Int) (vb : Value) (w : World) (H : StX N w most l h vk) (hp : pos < 0) :
    Calls Try.prog 8 #[.pointer (some ⟨h, 0, none⟩), .int .i64 pos, vb] w fun e w' => e = .returned (.int .i64 2) ∧ w = w' := by
  obtain ⟨ks, -, hs⟩ := H.st
  exact kPut_neg most ks h vk pos vb w hs hp
theorem kAllX (N : Nat) (most : Nat) (l : List PB) (h : Nat) (vk : Value) (w : World) (H : StX N w most l h vk) :
    Calls Try.prog 12 #[.pointer (some ⟨h, 0, none⟩)] w fun e w' => ∃ v, e = .returned v ∧ w'.ownsRow w.heap.size 3 1 v l.length (intC (l.map (·.1))) ∧ Below w.heap.size w w' := by
  obtain ⟨ks, rfl, hs⟩ := H.st
  have := kAll_any most ks h vk w hs
  rw [prK_fst, List.length_map]
  exact this

/-- What Floor finds. -/
def floorF (l : List PB) (pos : Int) : Option PB := (l.filter fun x => decide (x.1 ≤ pos)).getLast?
/-- What Floor answers. -/
def FlX (w : World) (l : List PB) (pos : Int) (e : Ending) (w' : World) : Prop :=
  Below w.heap.size w w' ∧ match floorF l pos with
  | none => e = .returned (.tuple #[.int .i64 0, .slice none 0 0, .bool false])
  | some x => ∃ v, e = .returned (.tuple #[.int .i64 x.1, v, .bool true]) ∧ w'.ownsRow w.heap.size 5 1 v x.2.length (Lib.byteCells x.2)
theorem floorF_none {l : List PB} {pos : Int} (h : ∀ x ∈ l, pos < x.1) : floorF l pos = none := by
  unfold floorF
  rw [List.filter_eq_nil_iff.2 (fun x hx => by have := h x hx; simp; omega)]; rfl
theorem floorF_some {l : List PB} {pos : Int} {i : Nat} (hi : i < l.length) (h : (l[i]).1 ≤ pos) (h2 : ∀ j (hj : j < l.length), i < j → pos < (l[j]).1) : floorF l pos = some l[i] := by
  unfold floorF
  have e : l = l.take i ++ l[i] :: l.drop (i + 1) := by rw [List.getElem_cons_drop, List.take_append_drop]
  have h3 : (l.drop (i + 1)).filter (fun x => decide (x.1 ≤ pos)) = [] := List.filter_eq_nil_iff.2 (fun x hx => by
    obtain ⟨j, hj, rfl⟩ := List.getElem_of_mem hx
    rw [List.length_drop] at hj
    have := h2 (i + 1 + j) (by omega) (by omega)
    rw [List.getElem_drop]
    simp; omega)
  conv => lhs; rw [e]
  rw [List.filter_append, List.filter_cons, if_pos (by simpa using h), h3]
  simp
theorem kFloorX (N : Nat) (most : Nat) (l : List PB) (h : Nat) (vk : Value) (pos : Int) (w : World) (H : StX N w most l h vk) :
    Calls Try.prog 9 #[.pointer (some ⟨h, 0, none⟩), .int .i64 pos] w fun e w' => FlX w l pos e w' := by
  obtain ⟨ks, rfl, hs⟩ := H.st
  refine (kFloor_any most ks h vk pos w hs).mono ?_
  rintro e w' ⟨hb, h1 | ⟨i, hi, v, rfl, ho, h2, h3⟩⟩
  · refine ⟨hb, ?_⟩
    rw [floorF_none (fun x hx => by
      obtain ⟨k, hk, rfl⟩ := List.mem_map.1 hx
      exact h1.2 k hk)]
    exact h1.1
  · refine ⟨hb, ?_⟩
    rw [floorF_some (i := i) (by simpa using hi) (by simpa using h2) (fun j hj h9 => by simpa using h3 j (by simpa using hj) h9)]
    simp only [List.getElem_map]
    exact ⟨v, rfl, ho⟩
end Go.Proofs.Ytancnmbgncofiaa
