/- A region that draws its order: where two may come up. -/
import Derived.Test.YtancnmbgncofiaaWMix
namespace Go.Proofs.Ytancnmbgncofiaa
open Go Go.RowKit

theorem cmix_two {P : Program} {Q : Exit → Act → World → Prop} {md : Region.Mode} {S : World → Prop} {l : List Oper} {fuel fuel' : Nat} {w : World} {i k : Nat} {o o' : Oper} {rest rest' : List Oper} {listed li lk : Array Bool} {a : Act} (hd : l.drop i = o :: rest) (hd' : l.drop k = o' :: rest') (hr : Region.ready md l.toArray listed = [i, k]) (hf : fuel + 1 = fuel') (hL : li = listed.setIfInBounds i true) (hL' : lk = listed.setIfInBounds k true)
    (hw : Region.wanted o (yielded l.toArray a.tmps) = true) (hw' : Region.wanted o' (yielded l.toArray a.tmps) = true)
    (h : ∀ K : Act → World → Prop, Hid (∀ a' w', S w' → wpAnyH P md l.toArray Q S fuel li a' w' → K a' w') → o.wp P a w K Q)
    (h' : ∀ K : Act → World → Prop, Hid (∀ a' w', S w' → wpAnyH P md l.toArray Q S fuel lk a' w' → K a' w') → o'.wp P a w K Q) : wpAnyH P md l.toArray Q S fuel' listed a w := by
  subst hf hL hL'
  refine wpAnyH_all hr (by simp) fun j hj => ?_
  have hj' : j = i ∨ j = k := by simpa using hj
  rcases hj' with rfl | rfl
  · have h1 := h (fun a' w' => S w' ∧ wpAnyH P md l.toArray Q S fuel (listed.setIfInBounds j true) a' w') fun a' w' h1 h2 => ⟨h1, h2⟩
    unfold wpOp
    rw [drop_get hd]
    simp only [hw, if_true]
    exact .inl h1
  · have h1 := h' (fun a' w' => S w' ∧ wpAnyH P md l.toArray Q S fuel (listed.setIfInBounds j true) a' w') fun a' w' h1 h2 => ⟨h1, h2⟩
    unfold wpOp
    rw [drop_get hd']
    simp only [hw', if_true]
    exact .inl h1
end Go.Proofs.Ytancnmbgncofiaa
