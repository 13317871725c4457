/- Bytes in memory: what a slice value reads as, and what that is good for. Nothing here is of one program. -/
import Derived.WalkKit
import Derived.WalkSpells
import Derived.Lib.Walk
import Derived.Lib.UnsafeStr
import Derived.OwnWalk
namespace Go.Proofs.YtjhfkiighphepaaDoor
open Go.RowKit

/-- The slice value v reads in the world w as the bytes bs. -/
def bytesAt (w : World) (v : Value) (bs : List UInt8) : Prop :=
  ∃ base cap, v = .slice base bs.length cap ∧ (base = none → bs = [] ∧ cap = 0) ∧ bs.length ≤ cap ∧ cap ≤ maxLen ∧
    ∀ a, base = some a → ∀ j u, (Lib.byteCells bs)[j]? = some u → w.cell? (a.add j) = some u

theorem bytes_one (l : List UInt8) : ∀ v ∈ Lib.byteCells l, v.oneCell' = true := by
  intro v hv
  simp only [Lib.byteCells, List.mem_map] at hv
  obtain ⟨b, _, rfl⟩ := hv
  rfl

theorem bytesAt_nil (w : World) : bytesAt w (.slice none 0 0) [] := ⟨none, 0, rfl, fun _ => ⟨rfl, rfl⟩, Nat.le_refl _, Nat.zero_le _, fun a h => by cases h⟩

theorem bytesAt_below {w w' : World} {v : Value} {bs : List UInt8} {B : Nat} (h : bytesAt w v bs) (hb : Below B w w') (hB : w.heap.size ≤ B) : bytesAt w' v bs := by
  obtain ⟨base, cap, hv, hn, h1, h2, hc⟩ := h
  refine ⟨base, cap, hv, hn, h1, h2, fun a ha j u hj => ?_⟩
  have hw := hc a ha j u hj
  have hlt := World.block_lt_of_cell? w _ hw
  rw [hb.cell (by omega)]
  exact hw

theorem bytesAt_alloc {w : World} {v : Value} {bs : List UInt8} (h : bytesAt w v bs) (o : Obj) : bytesAt (w.alloc o) v bs :=
  bytesAt_below h ((Below.refl w.heap.size w).alloc (Nat.le_refl _) o) (Nat.le_refl _)

theorem bytesAt_own {w : World} {v : Value} {bs : List UInt8} {B e n : Nat} (h : w.ownsRow B e 1 v n (Lib.byteCells bs)) : bytesAt w v bs := by
  have hl := h.1
  rw [Lib.byteCells_length, Nat.mul_one] at hl
  obtain ⟨_, h2⟩ := h
  rcases h2 with ⟨rfl, rfl⟩ | ⟨g, cap, cur, hv, hg, hh, hnc, hm, hs, ht⟩
  · have : bs = [] := List.length_eq_zero_iff.1 hl
    subst this
    exact bytesAt_nil w
  · subst hv
    refine ⟨some ⟨g, 0, none⟩, cap, by rw [hl], (fun h => by cases h), by omega, hm, fun a ha j u hj => ?_⟩
    have h' : w.ownsRow B e 1 (.slice (some ⟨g, 0, none⟩) n cap) n (Lib.byteCells bs) := ⟨by rw [Lib.byteCells_length]; omega, .inr ⟨g, cap, cur, rfl, hg, hh, hnc, hm, hs, ht⟩⟩
    cases ha
    exact h'.cells rfl j u hj

theorem bytesAt_len {w : World} {v : Value} {bs : List UInt8} (h : bytesAt w v bs) : bs.length ≤ maxLen := by
  obtain ⟨_, cap, _, _, h1, h2, _⟩ := h; omega

/-- A slice value that owns bytes is nil, or lies in a block of its own. -/
theorem own_lt {w : World} {v : Value} {B e n : Nat} {xs : List Value} (h : w.ownsRow B e 1 v n xs) : ∀ k, v.ownBlock = some k → B ≤ k := fun k hk => (h.lt k hk).1

end Go.Proofs.YtjhfkiighphepaaDoor
