/- A reader's calls: NewReader, Int, Bool, Count, Text, At, Err, End. -/
import Derived.Test.YtjhfkiighphepaaDoorWReads
namespace Go.Proofs.YtjhfkiighphepaaDoor
open Go.RowKit

theorem rowAt_drop {w : World} {base : Option Addr} {bs : List UInt8} {cap lo : Nat} (hr : rowAt w base bs) (hc : bs.length ≤ cap) : rowAt w (subBase base cap lo) (bs.drop lo) := by
  have h := rowAt_sub (lo := lo) bs.length hr hc
  rw [List.take_of_length_le (by rw [List.length_drop]; omega)] at h
  exact h

theorem scan_err : ∀ (l : List UInt8) (i acc : Nat), (scan i acc l).2.2 ≤ 9
  | [], i, acc => by simp [scan]
  | x :: r, i, acc => by
    unfold scan
    split
    · simp
    · split
      · simp
      · exact scan_err r _ _

theorem getI_e (bs : List UInt8) : (getI bs).2.2 ≤ 9 := by
  unfold getI
  have h := scan_err bs 0 0
  split
  · simp
  · exact h
theorem getB_e (bs : List UInt8) : (getB bs).2.2 ≤ 9 := by
  unfold getB
  split
  · simp
  · split <;> simp
theorem getB_len (bs : List UInt8) : (getB bs).2.1 ≤ bs.length := by
  unfold getB
  split
  · simp
  · split <;> simp
theorem getC_e (bs : List UInt8) (m : Int) : (getC bs m).2.2 ≤ 9 := by
  unfold getC
  have h := getI_e bs
  split
  · exact h
  · split
    · simp
    · split
      · simp
      · exact h
theorem getT_e (bs : List UInt8) (m : Int) : (getT bs m).2.2 ≤ 9 := by
  unfold getT
  have h := getC_e bs m
  split
  · exact h
  · split
    · simp
    · simp
theorem getT_len (bs : List UInt8) (m : Int) : (getT bs m).2.1 ≤ bs.length := by
  unfold getT
  have h := getC_len bs m
  have h2 := getC_nonneg bs m
  split
  · simp
  · split
    · simp
    · simp only; omega

set_option maxRecDepth 100000 in
theorem run_mf (fn : Fn) (first cap : Array Value) (w : World) : (Instr.makeFunc fn first cap).run Tryd.prog w = .ok (.func fn first cap) w := rfl

theorem grown_alloc {w w' : World} {o : Obj} {p : Nat} (hg : (w.alloc o).grownBy w' (some p)) : w.grownBy w' (some p) :=
  ⟨hg.os, hg.tape, hg.output, by have := hg.size; simp at this; omega, fun k hk hne => (hg.block k (by simp; omega) hne).trans (Below.heap_alloc _ _ _ hk)⟩

/-- What End tells. -/
def endR (len at0 er : Nat) : Nat := if er ≠ 0 then er else if at0 < len then 5 else 0

theorem drewN_zero (w : World) : w = w.drewN 0 := rfl

theorem own_row {w : World} {B e n : Nat} {v : Value} {bs : List UInt8} (h : w.ownsRow B e 1 v n (Lib.byteCells bs)) :
    ∃ base cap, v = .slice base bs.length cap ∧ rowAt w base bs ∧ bs.length ≤ cap ∧ cap ≤ maxLen ∧ (∀ a, base = some a → B ≤ a.block ∧ a.block < w.heap.size) := by
  have hl := h.1
  rw [Lib.byteCells_length, Nat.mul_one] at hl
  have hlt := h.lt
  obtain ⟨h1, h2⟩ := h
  rcases h2 with ⟨rfl, rfl⟩ | ⟨g, cap, cur, rfl, hg, hh, hnc, hm, hs, ht⟩
  · obtain rfl : bs = [] := List.length_eq_zero_iff.1 hl
    exact ⟨none, 0, rfl, .inl rfl, Nat.le_refl _, Nat.zero_le _, fun a ha => by cases ha⟩
  · refine ⟨some ⟨g, 0, none⟩, cap, by rw [hl], ?_, by omega, hm, fun a ha => by cases ha; exact hlt g rfl⟩
    have h' : w.ownsRow B e 1 (.slice (some ⟨g, 0, none⟩) n cap) n (Lib.byteCells bs) := ⟨h1, .inr ⟨g, cap, cur, rfl, hg, hh, hnc, hm, hs, ht⟩⟩
    refine .inr ⟨g, 0, rfl, fun j hj => ?_⟩
    have hc := h'.cells rfl j (.int .u8 (bs[j].toNat : Int)) (by unfold Lib.byteCells; rw [List.getElem?_map, List.getElem?_eq_getElem hj]; rfl)
    rw [add_plain] at hc
    exact hc

theorem bytesAt_lit {w : World} {bs : List UInt8} {g n : Nat} (hn : n = bs.length) (hm : n ≤ maxLen) (hc : ∀ j u, (Lib.byteCells bs)[j]? = some u → w.cell? ⟨g, j, none⟩ = some u) : bytesAt w (.slice (some ⟨g, 0, none⟩) n n) bs := by
  subst hn
  refine ⟨some ⟨g, 0, none⟩, bs.length, rfl, (fun h => by cases h), Nat.le_refl _, hm, fun a ha j u hj => ?_⟩
  cases ha
  rw [add_plain, Nat.zero_add]
  exact hc j u hj

theorem below_of_grown {B : Nat} {a w w' : World} {p : Nat} (h : Below B a w) (hg : w.grownBy w' (some p)) (hB : B ≤ w.heap.size) (hp : B ≤ p) : Below B a w' :=
  h.grown hg hB (fun k hk => by cases hk; exact hp)

end Go.Proofs.YtjhfkiighphepaaDoor
