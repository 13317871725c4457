/- A slice of slices of bytes that came in. -/
import Derived.Test.YtffedjgbhdaecaaFAll
import Derived.Test.YtffedjgbhdaecaaLRow
import Derived.Deep.Matrix
namespace Go.Proofs.Ytffedjgbhdaecaa
open Go.ChangeShapes Go.WideShapes Go.ChangeAt Go.RowKit

/-- The slice value v reads in w as the rows ls. -/
def rowsAt (w : World) (v : Value) (ls : List (List UInt8)) : Prop :=
  ∃ base cap, v = .slice base ls.length cap ∧ ls.length ≤ maxLen ∧ ∀ i (hi : i < ls.length), ∃ b o vi, base = some ⟨b, o, none⟩ ∧ w.cell? ⟨b, o + i, none⟩ = some vi ∧ bytesAt w vi ls[i]

theorem rowsAt_below {w w' : World} {v : Value} {ls : List (List UInt8)} {B : Nat} (h : rowsAt w v ls) (hb : Below B w w') (hB : w.heap.size ≤ B) : rowsAt w' v ls := by
  obtain ⟨base, cap, hv, hm, hc⟩ := h
  refine ⟨base, cap, hv, hm, fun i hi => ?_⟩
  obtain ⟨b, o, vi, hb2, hcell, hby⟩ := hc i hi
  refine ⟨b, o, vi, hb2, ?_, bytesAt_below hby hb hB⟩
  have hlt := World.block_lt_of_cell? w _ hcell
  rw [hb.cell (by omega)]
  exact hcell

theorem spot_none {w : World} {a : Addr} {v : Value} (h : w.cell? a = some v) : a.spot = none := by
  unfold World.cell? at h
  split at h
  · cases hs : a.spot with
    | none => rfl
    | some x => simp [hs] at h
  · simp at h

theorem addr_add0 (a : Addr) : a.add 0 = a := by unfold Addr.add; simp

set_option maxRecDepth 100000 in
theorem rows_open {H : Type} {enc : TypeId × Value → H} {w : World} {fuel : Nat} {v : Value} {x : DataW H × List MemPlace} {hd : Bool}
    (h : DataW.trod enc Try.prog w 0 (fun _ => true) hd fuel 42 [v] = some x) : ∃ ls, rowsAt w v ls := by
  rcases Deep.open_int_rows Try.underlying42 Try.underlying22 Try.underlying5 (by kernel_rfl) (by kernel_rfl) h with ⟨hcs, -⟩ | ⟨a, len, cap, A, L, C, Z, hcs, -, hl, hm, -, hr⟩
  · simp at hcs
    subst hcs
    exact ⟨[], none, 0, rfl, Nat.zero_le _, fun i hi => by simp at hi⟩
  · simp at hcs
    subst hcs
    have each : ∀ r, r < len → ∃ bs : List UInt8, bytesAt w (.slice (A r) (L r) (C r)) bs := fun r hrl => by
      obtain ⟨-, h1, h2, h3, h4, h5, h6⟩ := hr r (by omega)
      have hrow : IsRow .u8 w (A r) (L r) (C r) (Z r) := by
        cases hA : A r with
        | none =>
          left
          have := h5 hA
          refine ⟨rfl, by omega, this, ?_⟩
          rw [this] at h3
          exact List.length_eq_zero_iff.1 h3
        | some a' => exact .inr ⟨a', rfl, h1, h2, h3, fun i hi => (h6 a' hA).2 i (by omega), h4⟩
      obtain ⟨bs, -, hb⟩ := isRow_bytes hrow
      exact ⟨bs, hb⟩
    obtain ⟨f, hf⟩ := Deep.choose_lt each
    have hll : ((List.range len).map f).length = len := by simp
    refine ⟨(List.range len).map f, some a, cap, by rw [hll], by rw [hll]; omega, fun i hi => ?_⟩
    rw [hll] at hi
    have hc := (hr i (by omega)).1
    have hc0 := (hr 0 (by omega)).1
    rw [addr_add0] at hc0
    have hsp := spot_none hc0
    obtain ⟨b, o, sp⟩ := a
    simp only at hsp
    subst hsp
    refine ⟨b, o, .slice (A i) (L i) (C i), rfl, ?_, ?_⟩
    · rw [add_plain] at hc; exact hc
    · simp only [List.getElem_map, List.getElem_range]
      exact hf i hi
end Go.Proofs.Ytffedjgbhdaecaa
