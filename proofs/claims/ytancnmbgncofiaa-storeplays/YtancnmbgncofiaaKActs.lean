/- Acts that came in: positions, and texts. -/
import Derived.Test.YtancnmbgncofiaaKLives2
import Derived.Test.YtancnmbgncofiaaLRow
import Derived.Deep.SlicePairs
namespace Go.Proofs.Ytancnmbgncofiaa
open Go.ChangeShapes Go.WideShapes Go.ChangeAt Go.RowKit

/-- The slice from base on reads as these acts. -/
def kactsAt (w : World) (base : Option Addr) (ls : List PB) : Prop :=
  ls = [] ∨ ∃ b o, base = some ⟨b, o, none⟩ ∧ ∀ j (h : j < ls.length), w.cell? ⟨b, o + j * 2, none⟩ = some (.int .i64 (ls[j]).1) ∧ w.cell? ⟨b, o + j * 2 + 1, none⟩ = some (.string ⟨(ls[j]).2.toArray⟩) ∧ -9223372036854775808 ≤ (ls[j]).1 ∧ (ls[j]).1 ≤ 9223372036854775807

theorem kadd_at0 (a : Addr) : a.add 0 = a := by unfold Addr.add; simp
theorem kspot_of {w : World} {a : Addr} {v : Value} (h : w.cell? a = some v) : a.spot = none := by
  unfold World.cell? at h
  split at h
  · cases hs : a.spot with
    | none => rfl
    | some x => simp [hs] at h
  · simp at h

set_option maxRecDepth 100000 in
theorem kacts_open {H : Type} {enc : TypeId × Value → H} {w : World} {fuel : Nat} {v : Value} {x : DataW H × List MemPlace} {hd : Bool}
    (h : DataW.trod enc Try.prog w 0 (fun _ => true) hd fuel 22 [v] = some x) : ∃ base ls cap, v = .slice base ls.length cap ∧ ls.length ≤ cap ∧ cap ≤ maxLen ∧ kactsAt w base ls ∧
      (x.1 = .nil ∧ ls = [] ∨ ∃ sp, x.1 = .slice (ls.map fun q => .agg [.lit (.int .i64 q.1), .lit (.string q.2)]) sp) := by
  rcases Deep.open_slice_pairs Try.underlying22 Try.underlying33 (by kernel_rfl) rfl rfl (by kernel_rfl) (by kernel_rfl) h with ⟨hcs, hx⟩ | ⟨a, len, cap, m, n, V0, V1, D0, D1, P0, P1, hcs, -, hlc, hcm, hmm, hx, hr⟩
  · simp at hcs
    subst hcs
    exact ⟨none, [], 0, rfl, Nat.le_refl _, Nat.zero_le _, .inl rfl, .inl ⟨by rw [hx], rfl⟩⟩
  · simp at hcs
    subst hcs
    simp only [if_true] at hmm
    have each : ∀ i, i < len → ∃ q : PB, V0 i = .int .i64 q.1 ∧ V1 i = .string ⟨q.2.toArray⟩ ∧ (-9223372036854775808 ≤ q.1 ∧ q.1 ≤ 9223372036854775807) ∧ D0 i = .lit (.int .i64 q.1) ∧ D1 i = .lit (.string q.2) := fun i hi => by
      obtain ⟨-, -, h3, h4⟩ := hr i (by omega)
      obtain ⟨z0, e0, f0, g0⟩ := DataW.trod_int Try.underlying3 h3
      obtain ⟨z1, e1, f1, -⟩ := DataW.trod_string Try.underlying9 h4
      refine ⟨(z0, z1.data.toList), by simpa using e0, by simpa using e1, wf_i64 g0, ?_, ?_⟩
      · simpa using congrArg Prod.fst f0
      · simpa using congrArg Prod.fst f1
    obtain ⟨f, hf⟩ := Deep.choose_lt each
    have hll : ((List.range len).map f).length = len := by simp
    refine ⟨some a, (List.range len).map f, cap, by rw [hll], by rw [hll]; exact hlc, hcm, ?_, .inr ⟨(List.range (m - len)).map fun j => .agg [D0 (len + j), D1 (len + j)], ?_⟩⟩
    · rcases Nat.eq_zero_or_pos len with h0 | h0
      · subst h0; exact .inl rfl
      · right
        have hc0 := (hr 0 (by omega)).1
        rw [Nat.zero_mul, kadd_at0] at hc0
        have hsp := kspot_of hc0
        obtain ⟨b, o, sp⟩ := a
        simp only at hsp
        subst hsp
        refine ⟨b, o, rfl, fun j hj => ?_⟩
        rw [hll] at hj
        obtain ⟨h1, h2, -, -⟩ := hr j (by omega)
        rw [add_plain] at h1 h2
        rw [(hf j hj).1] at h1
        rw [(hf j hj).2.1] at h2
        simp only [List.getElem_map, List.getElem_range]
        exact ⟨h1, by rw [Nat.add_assoc]; exact h2, (hf j hj).2.2.1⟩
    · rw [hx]
      simp only [List.map_map]
      congr 1
      apply List.map_congr_left
      intro i hi
      rw [List.mem_range] at hi
      simp only [Function.comp]
      rw [(hf i hi).2.2.2.1, (hf i hi).2.2.2.2]
end Go.Proofs.Ytancnmbgncofiaa
