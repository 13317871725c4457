/- lex: a token at the front of a text: names, numbers, signs. -/
import Derived.Test.YtljofkfnmlhicaaDoorXGap
import Derived.Test.YtljofkfnmlhicaaDoorWAll
namespace Go.Proofs.YtljofkfnmlhicaaDoor
open Go.RowKit

/-- A token that is read: its kind, its text, its number, how many bytes it has, what is wrong. -/
structure TR where
  k : Nat
  s : List UInt8
  n : Nat
  sz : Nat
  e : Nat

def resV (r : TR) : Value := .tuple #[.agg #[.int .i64 r.k, .string (strB r.s), .int .i64 r.n, .int .i64 0, .int .i64 0], .int .i64 r.sz, .int .i64 r.e]

def nameL (l : List UInt8) : List UInt8 := l.takeWhile fun c => nameN c.toNat
def nameR (l : List UInt8) : TR := if isWord (nameL l) = true then ⟨5, nameL l, 0, (nameL l).length, 0⟩ else if 20 < (nameL l).length then ⟨0, [], 0, 0, 5⟩ else ⟨1, nameL l, 0, (nameL l).length, 0⟩

theorem take_row (p : UInt8 → Bool) (l : List UInt8) : l.take (l.takeWhile p).length = l.takeWhile p := by
  induction l with
  | nil => rfl
  | cons x l ih =>
    by_cases h : p x = true
    · simp [h, ih]
    · simp [h]

theorem nameL_le (l : List UInt8) : (nameL l).length ≤ l.length := (List.takeWhile_sublist _).length_le

theorem Tabs.alloc {w : World} (h : Tabs w) (o : Obj) : Tabs (w.alloc o) :=
  ⟨fun j hj => Lib.cell?_alloc_some o (h.words j hj), fun j hj => Lib.cell?_alloc_some o (h.signs j hj), fun j hj => Lib.cell?_alloc_some o (h.escs j hj), by obtain ⟨a, b, c⟩ := h.range; exact ⟨a, b, Lib.cell?_alloc_some o c⟩⟩

theorem Tabs.below {w w' : World} {B : Nat} (h : Tabs w) (hb : Below B w w') (hB : w.heap.size ≤ B) : Tabs w' := by
  have key : ∀ {p : Addr} {v : Value}, w.cell? p = some v → w'.cell? p = some v := fun {p v} hp => by
    rw [hb.cell (Nat.lt_of_lt_of_le (World.block_lt_of_cell? w _ hp) hB)]; exact hp
  exact ⟨fun j hj => key (h.words j hj), fun j hj => key (h.signs j hj), fun j hj => key (h.escs j hj), by obtain ⟨a, b, c⟩ := h.range; exact ⟨a, b, key c⟩⟩

set_option maxHeartbeats 2000000 in
set_option maxRecDepth 100000 in
theorem nameToken_any (l : List UInt8) (w : World) (hl : l.length ≤ 9223372036854775000) (ht : Tabs w) :
    Calls Tryd.prog 71 #[.string (strB l)] w fun e w' => e = .returned (resV (nameR l)) ∧ Below w.heap.size w w' := by
  have HT : Hid (Tabs w) := ht
  have hnl := nameL_le l
  obtain ⟨m, hm⟩ : ∃ m, m = (nameL l).length := ⟨_, rfl⟩
  rw [← hm] at hnl
  have hto := fun wx => str_to wx l m hnl
  rw [show l.take m = nameL l by rw [hm]; exact take_row _ l] at hto
  have HM : Hid (m = (nameL l).length) := hm
  clear ht
  have HN : Hid (∀ wx, Calls Tryd.prog 79 #[.string (strB l), .func (.func 80) #[] #[]] wx fun e w' => e = .returned (.int .i64 m) ∧ wx = w') := fun wx => by
    rw [hm]; exact row_name l wx hl
  have HW : Hid (∀ wx, Tabs wx → Calls Tryd.prog 81 #[.string (strB (nameL l))] wx fun e w' => e = .returned (.bool (isWord (nameL l))) ∧ wx = w') := fun wx h => word_any _ wx h
  clear hm
  have hb := (Below.refl w.heap.size w).alloc (Nat.le_refl _)
  obtain ⟨x, hx⟩ : ∃ x, x = nameL l := ⟨_, rfl⟩
  rw [← hx] at hto HW HM
  have HX : Hid (x = nameL l) := hx
  clear hx
  go_enter Tryd.func71, Tryd.ntmps71
  go_wp2_with fail
  refine (HN.out _).mono ?_
  rintro e w1 ⟨rfl, rfl⟩
  go_wp2_with fail
  refine (HW.out _ (HT.out.alloc _)).mono ?_
  rintro e w1 ⟨rfl, rfl⟩
  cases hq : isWord x with
  | true =>
    have HR : Hid (nameR l = ⟨5, x, 0, m, 0⟩) := by unfold nameR; rw [← HX.out, if_pos hq, ← HM.out]; rfl
    go_wp2
    refine bodyPost_ret (v := resV ⟨5, x, 0, m, 0⟩) (by simp [results, Tryd.results71, go_sem, resV]) rfl ⟨by rw [HR.out], ?_⟩
    exact (Below.refl w.heap.size w).alloc (Nat.le_refl _) _
  | false =>
    by_cases h20 : 20 < m
    · have HR : Hid (nameR l = ⟨0, [], 0, 0, 5⟩) := by unfold nameR; rw [← HX.out, if_neg (by rw [hq]; simp), if_pos (by rw [← HM.out]; exact h20)]; rfl
      go_wp2
      refine bodyPost_ret (v := resV ⟨0, [], 0, 0, 5⟩) (by simp [results, Tryd.results71, go_sem, resV]) rfl ⟨by rw [HR.out], ?_⟩
      exact (Below.refl w.heap.size w).alloc (Nat.le_refl _) _
    · have HR : Hid (nameR l = ⟨1, x, 0, m, 0⟩) := by unfold nameR; rw [← HX.out, if_neg (by rw [hq]; simp), if_neg (by rw [← HM.out]; exact h20), ← HM.out]; rfl
      go_wp2
      refine bodyPost_ret (v := resV ⟨1, x, 0, m, 0⟩) (by simp [results, Tryd.results71, go_sem, resV]) rfl ⟨by rw [HR.out], ?_⟩
      exact (Below.refl w.heap.size w).alloc (Nat.le_refl _) _
end Go.Proofs.YtljofkfnmlhicaaDoor
