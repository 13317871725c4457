/- store: what is there is what was put last. -/
import Derived.Test.YtancnmbgncofiaaKFirstM
namespace Go.Proofs.Ytancnmbgncofiaa
open Go.RowKit

/-- What is there behind acts. -/
def actL (M : Nat) (l : List PB) (a : PB) : List PB := if a.1 < 0 then l else putF M l a
def doneL (M : Nat) (ls : List PB) : List PB := ls.foldl (actL M) []
theorem doneL_succ (M : Nat) (ls : List PB) (i : Nat) (h : i < ls.length) : doneL M (ls.take (i + 1)) = actL M (doneL M (ls.take i)) ls[i] := by
  unfold doneL
  rw [List.take_succ_eq_append_getElem h, List.foldl_append]; rfl

/-- What was put last at a position. -/
def wantL (ls : List PB) (p : Int) : List UInt8 := ls.foldl (fun b a => if a.1 = p then a.2 else b) []
theorem wantL_succ (ls : List PB) (p : Int) (i : Nat) (h : i < ls.length) : wantL (ls.take (i + 1)) p = if (ls[i]).1 = p then (ls[i]).2 else wantL (ls.take i) p := by
  unfold wantL
  rw [List.take_succ_eq_append_getElem h, List.foldl_append]; rfl
def WantP (ls l : List PB) : Prop := ∀ x ∈ l, x.2 = wantL ls x.1

theorem with_mem {l : List PB} (hr : (l.map (·.1)).Pairwise (· < ·)) {a x : PB} (h : x ∈ withL l (atF (l.map (·.1)) a.1) (isF (l.map (·.1)) a.1) a) : x = a ∨ (x ∈ l ∧ x.1 ≠ a.1) := by
  have ha := atF_at hr a.1
  generalize atF (l.map (·.1)) a.1 = k at ha h
  generalize isF (l.map (·.1)) a.1 = b at ha h
  have key : ∀ j (hj : j < l.length), (l[j]).1 = a.1 → j = k ∧ b = true := fun j hj e => by
    have hj' : j < (l.map (·.1)).length := by simpa using hj
    have hjk : ¬ j < k := fun h9 => by have := ha.lo j hj' h9; simp at this; omega
    rcases Nat.eq_or_lt_of_le (Nat.le_of_not_lt hjk) with h9 | h9
    · subst h9
      exact ⟨rfl, ha.is.2 ⟨hj', by simpa using e⟩⟩
    · have h1 := ha.hi k (by omega) (Nat.le_refl _)
      have h2 := List.pairwise_iff_getElem.1 hr k j (by omega) hj' h9
      simp at h1 h2
      omega
  unfold withL at h
  cases b with
  | true =>
    simp only [if_true] at h
    obtain ⟨j, hj, rfl⟩ := List.getElem_of_mem h
    rw [List.length_set] at hj
    by_cases e : k = j
    · left; subst e; rw [List.getElem_set_self]
    · right
      rw [List.getElem_set_ne e]
      exact ⟨List.getElem_mem hj, fun e2 => e (key j hj e2).1.symm⟩
  | false =>
    simp only [Bool.false_eq_true, if_false] at h
    have : x = a ∨ x ∈ l := by
      rcases List.mem_append.1 h with h9 | h9
      · exact .inr (List.mem_of_mem_take h9)
      · rcases List.mem_cons.1 h9 with h9 | h9
        · exact .inl h9
        · exact .inr (List.mem_of_mem_drop h9)
    rcases this with h9 | h9
    · exact .inl h9
    · right
      refine ⟨h9, fun e => ?_⟩
      obtain ⟨j, hj, rfl⟩ := List.getElem_of_mem h9
      have := (key j hj e).2
      cases this
theorem put_mem {M : Nat} {l : List PB} (hr : (l.map (·.1)).Pairwise (· < ·)) {a x : PB} (h : x ∈ putF M l a) : x = a ∨ (x ∈ l ∧ x.1 ≠ a.1) := by
  unfold putF putL at h
  split at h
  · exact with_mem hr h
  · exact with_mem hr (List.mem_of_mem_eraseIdx h)
theorem WantP.next {M : Nat} {ls : List PB} {i : Nat} {l : List PB} (H : WantP (ls.take i) l) (hr : (l.map (·.1)).Pairwise (· < ·)) (hp : ∀ x ∈ l, 0 ≤ x.1) (hi : i < ls.length) : WantP (ls.take (i + 1)) (actL M l ls[i]) := fun x hx => by
  rw [wantL_succ ls x.1 i hi]
  unfold actL at hx
  split at hx
  · rename_i hn
    rw [if_neg (by have := hp x hx; omega)]
    exact H x hx
  · rcases put_mem hr hx with h9 | ⟨h9, h10⟩
    · rw [if_pos (by rw [h9]), h9]
    · rw [if_neg (fun e => h10 e.symm)]
      exact H x h9
theorem floorF_at {l : List PB} (hr : (l.map (·.1)).Pairwise (· < ·)) {i : Nat} (hi : i < l.length) : floorF l (l[i]).1 = some l[i] :=
  floorF_some hi (Int.le_refl _) fun j hj h9 => by
    have := List.pairwise_iff_getElem.1 hr i j (by simpa using hi) (by simpa using hj) h9
    simpa using this

set_option maxRecDepth 100000 in
theorem xor255 : ∀ a : Fin 256, bits .xor .u8 (a.val : Int) 255 = ((255 - a.val : Nat) : Int) := by decide
theorem xor255_byte (y : UInt8) : bits .xor .u8 (y.toNat : Int) 255 = (((255 - y.toNat).toUInt8).toNat : Int) := by
  have := xor255 ⟨y.toNat, y.toNat_lt⟩
  rw [this]
  simp
  have := y.toNat_lt
  omega
end Go.Proofs.Ytancnmbgncofiaa
