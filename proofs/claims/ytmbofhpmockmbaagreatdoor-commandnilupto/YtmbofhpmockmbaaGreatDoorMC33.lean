import Derived.Test.YtmbofhpmockmbaaGreatDoorMC14
import Derived.Test.YtmbofhpmockmbaaGreatDoorMC12
import Derived.Lib.AppendIntMem
namespace Go.Proofs.YtmbofhpmockmbaaGreatDoor
open Go.RowKit Go.Shelf
theorem Vr {w:World} {B e sz n:Nat} {v:Value} {xs:List Value} (h:w.ownsRow B e sz v n xs) (hn:1≤n):∃g o,v=.slice (some ⟨g,0,none⟩) n o∧B≤g∧g<w.heap.size∧n≤o∧∀j u,xs[j]?=some u→w.cell? ⟨g,j,none⟩=some u:=by
 obtain ⟨-,⟨-,G⟩ | ⟨g,o,A,rfl,z,y,E,-,-,D⟩⟩:=h
 ·omega
 ·refine ⟨g,o,rfl,z,(Array.getElem?_eq_some_iff.1 y).1,E,fun j u hj=>?_⟩
  rw [cell_of_row _ _ _ _ _ _ y];rw [←D,List.getElem?_take] at hj
  split at hj
  ·rw [Array.getElem?_toList] at hj;exact hj
  ·cases hj
def UM (c:UInt8):List UInt8:=if c.toNat=92 then [92,92] else if c.toNat=34 then [92,34] else if c.toNat=10 then [92,110] else [c]
def Ub (s:List UInt8):List UInt8:=34::(s.flatMap UM++[34])
end Go.Proofs.YtmbofhpmockmbaaGreatDoor
