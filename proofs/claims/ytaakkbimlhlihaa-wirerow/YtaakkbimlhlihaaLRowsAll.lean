/- The walk of WireRow, of whatever slice came in. -/
import Derived.Test.YtaakkbimlhlihaaLRow
import Derived.Test.YtaakkbimlhlihaaLRows
namespace Go.Proofs.Ytaakkbimlhlihaa
open Go.RowKit

theorem isRow_ints {w : World} {a : Option Addr} {len cap : Nat} {zs : List Int} (h : IsRow .i64 w a len cap zs) :
    len ≤ maxLen ∧ ∃ ls : List Int, ls.length = len ∧ intsAt w a ls ∧ ∀ z ∈ ls, -9223372036854775808 ≤ z ∧ z ≤ 9223372036854775807 := by
  rcases h with ⟨rfl, rfl, rfl, rfl⟩ | ⟨x, rfl, hl, hm, hz, hc, hw⟩
  · exact ⟨Nat.zero_le _, [], rfl, .inl rfl, fun z hz => by cases hz⟩
  · refine ⟨by omega, zs.take len, by rw [List.length_take]; omega, ?_, fun z hz => wf_i64 (hw z (List.mem_of_mem_take hz))⟩
    by_cases h0 : zs.length = 0
    · left; rw [List.length_eq_zero_iff] at h0; rw [h0]; simp
    · obtain ⟨b, off, rfl, hcc⟩ := ints_at hc (by omega)
      refine .inr ⟨b, off, rfl, fun j hj => ?_⟩
      have hj2 : j < zs.length := by rw [List.length_take] at hj; omega
      rw [hcc j hj2, List.getElem_take, List.getD_eq_getElem?_getD, List.getElem?_eq_getElem hj2, Option.getD_some]

theorem rows_all {a : Option Addr} {len cap : Nat} {zs : List Int} (n : Int) (w : World) (h : IsRow .i64 w a len cap zs) :
    Calls Try.prog 7 #[.slice a len cap, .int .i64 n] w fun e w' => e = .returned (.bool true) ∧ Below w.heap.size w w' := by
  obtain ⟨hm, ls, hl, hr, hz⟩ := isRow_ints h
  by_cases hlen : len ≤ 500
  · subst hl; exact rows_walk a cap ls n w hlen hz hr
  · exact rows_long a len cap n w (by omega) hm
end Go.Proofs.Ytaakkbimlhlihaa
