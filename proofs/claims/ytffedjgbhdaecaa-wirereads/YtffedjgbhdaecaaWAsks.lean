/- A slice of asks that came in. -/
import Derived.Test.YtffedjgbhdaecaaLReads
import Derived.Test.YtffedjgbhdaecaaLRow
import Derived.Deep.SlicePairs
namespace Go.Proofs.Ytffedjgbhdaecaa
open Go.ChangeShapes Go.WideShapes Go.ChangeAt Go.RowKit

theorem add_at0 (a : Addr) : a.add 0 = a := by unfold Addr.add; simp

theorem spot_of {w : World} {a : Addr} {v : Value} (h : w.cell? a = some v) : a.spot = none := by
  unfold World.cell? at h
  split at h
  · cases hs : a.spot with
    | none => rfl
    | some x => simp [hs] at h
  · simp at h

set_option maxRecDepth 100000 in
theorem asks_open {H : Type} {enc : TypeId × Value → H} {w : World} {fuel : Nat} {v : Value} {x : DataW H × List MemPlace} {hd : Bool}
    (h : DataW.trod enc Try.prog w 0 (fun _ => true) hd fuel 23 [v] = some x) : ∃ base ls cap, v = .slice base ls.length cap ∧ asksAt w base ls ∧ (x.1 = .nil ∧ ls.length = 0 ∨ ∃ el sp, x.1 = .slice el sp ∧ el.length = ls.length) := by
  rcases Deep.open_slice_pairs Try.underlying23 Try.underlying31 (by kernel_rfl) rfl rfl (by kernel_rfl) (by kernel_rfl) h with ⟨hcs, hx⟩ | ⟨a, len, cap, m, n, V0, V1, D0, D1, P0, P1, hcs, -, hl, hm, hmm, hx, hr⟩
  · simp at hcs
    subst hcs
    exact ⟨none, [], 0, rfl, .inl rfl, .inl ⟨by rw [hx], rfl⟩⟩
  · simp at hcs
    subst hcs
    simp only [if_true] at hmm
    have each : ∀ i, i < len → ∃ q : Int × Int, V0 i = .int .i64 q.1 ∧ V1 i = .int .i64 q.2 := fun i hi => by
      obtain ⟨-, -, h3, h4⟩ := hr i (by omega)
      obtain ⟨z0, e0, -⟩ := DataW.trod_int Try.underlying3 h3
      obtain ⟨z1, e1, -⟩ := DataW.trod_int Try.underlying3 h4
      exact ⟨(z0, z1), by simpa using e0, by simpa using e1⟩
    obtain ⟨f, hf⟩ := Deep.choose_lt each
    have hll : ((List.range len).map f).length = len := by simp
    refine ⟨some a, (List.range len).map f, cap, by rw [hll], ?_, .inr ⟨_, _, by rw [hx], by simp⟩⟩
    rcases Nat.eq_zero_or_pos len with h0 | h0
    · subst h0; exact .inl rfl
    · right
      have hc0 := (hr 0 (by omega)).1
      rw [Nat.zero_mul, add_at0] at hc0
      have hsp := spot_of hc0
      obtain ⟨b, o, sp⟩ := a
      simp only at hsp
      subst hsp
      refine ⟨b, o, rfl, fun j hj => ?_⟩
      rw [hll] at hj
      obtain ⟨h1, h2, -, -⟩ := hr j (by omega)
      rw [add_plain] at h1 h2
      rw [(hf j hj).1] at h1
      rw [(hf j hj).2] at h2
      simp only [List.getElem_map, List.getElem_range]
      exact ⟨h1, by rw [Nat.add_assoc]; exact h2⟩
end Go.Proofs.Ytffedjgbhdaecaa
