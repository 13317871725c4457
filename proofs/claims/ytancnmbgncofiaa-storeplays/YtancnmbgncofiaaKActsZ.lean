/- Acts that came in: how great their texts are. -/
import Derived.Test.YtancnmbgncofiaaKActs
import Derived.SizedLaws
namespace Go.Proofs.Ytancnmbgncofiaa
open Go.ChangeShapes Go.WideShapes Go.ChangeAt Go.RowKit

theorem kmem_all {H : Type} {P : Program} {e : TypeId} {n : Nat} : ∀ {elems : List (DataW H)} {d : DataW H}, d ∈ elems → n ∈ d.weights P e → n ∈ DataW.weightsAll P e elems
  | x :: r, d, hd, hn => by
    unfold DataW.weightsAll
    rcases List.mem_cons.1 hd with rfl | h
    · exact List.mem_append.2 (.inl hn)
    · exact List.mem_append.2 (.inr (kmem_all h hn))
set_option maxRecDepth 100000 in
theorem kact_weights {H : Type} (q : PB) : q.2.length ∈ (DataW.agg [.lit (.int .i64 q.1), .lit (.string q.2)] : DataW H).weights Try.prog 33 := by
  unfold DataW.weights
  rw [Try.underlying33]
  simp [DataW.weightsEach, DataW.weights]
set_option maxRecDepth 100000 in
theorem kacts_sized {H : Type} {ts : List TypeId} {ds : List (DataW H)} {j : Nat} (h : (DataW.weightsEach Try.prog ts ds).all (· ≤ reachBytes) = true) (ht : ts[j]? = some 22) {ls : List PB} {d : DataW H} (hd : ds[j]? = some d)
    (hs : d = .nil ∧ ls = [] ∨ ∃ sp, d = .slice (ls.map fun q => .agg [.lit (.int .i64 q.1), .lit (.string q.2)]) sp) : ∀ a ∈ ls, a.2.length ≤ 140737488355328 := by
  intro a ha
  rcases hs with ⟨-, rfl⟩ | ⟨sp, rfl⟩
  · cases ha
  · have hm : a.2.length ∈ DataW.weightsEach Try.prog ts ds := by
      refine DataW.weights_mem_each ht hd _ ?_
      unfold DataW.weights
      rw [Try.underlying22]
      refine List.mem_cons.2 (.inr (List.mem_append.2 (.inl ?_)))
      exact kmem_all (List.mem_map.2 ⟨a, ha, rfl⟩) (kact_weights a)
    have h9 := of_decide_eq_true (List.all_eq_true.1 h _ hm)
    unfold reachBytes at h9
    omega
end Go.Proofs.Ytancnmbgncofiaa
