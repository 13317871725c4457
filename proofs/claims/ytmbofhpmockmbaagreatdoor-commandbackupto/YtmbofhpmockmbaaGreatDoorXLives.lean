import Derived.Test.YtmbofhpmockmbaaGreatDoorMC13
import Derived.Test.YtmbofhpmockmbaaGreatDoorMC11
namespace Go.Proofs.YtmbofhpmockmbaaGreatDoor
open Go.RowKit Go.Shelf
theorem vw {w:World} {B e sz n:Nat} {v:Value} {xs:List Value} (h:w.ownsRow B e sz v n xs) (hn:1≤n):∃g o,v=.slice (some ⟨g,0,none⟩) n o∧B≤g∧g<w.heap.size∧n≤o∧∀j u,xs[j]?=some u→w.cell? ⟨g,j,none⟩=some u:=by
 obtain ⟨-,⟨-,E⟩ | ⟨g,o,z,rfl,y,x,A,-,-,D⟩⟩:=h
 ·omega
 ·refine ⟨g,o,rfl,y,(Array.getElem?_eq_some_iff.1 x).1,A,fun j u hj=>?_⟩
  rw [cell_of_row _ _ _ _ _ _ x];rw [←D,List.getElem?_take] at hj
  split at hj
  ·rw [Array.getElem?_toList] at hj;exact hj
  ·cases hj
end Go.Proofs.YtmbofhpmockmbaaGreatDoor
