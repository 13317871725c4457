import Derived.Test.YtmbofhpmockmbaaGreatDoorMC14
import Derived.Test.YtmbofhpmockmbaaGreatDoorMC12
import Derived.Lib.AppendIntMem
namespace Go.Proofs.YtmbofhpmockmbaaGreatDoor
open Go.RowKit Go.Shelf
theorem VR {w:World} {B e sz n:Nat} {v:Value} {xs:List Value} (h:w.ownsRow B e sz v n xs) (hn:1≤n):∃g o,v=.slice (some ⟨g,0,none⟩) n o∧B≤g∧g<w.heap.size∧n≤o∧∀j u,xs[j]?=some u→w.cell? ⟨g,j,none⟩=some u:=by
 obtain ⟨-,⟨-,G⟩ | ⟨g,o,D,rfl,E,y,A,-,-,z⟩⟩:=h
 ·omega
 ·refine ⟨g,o,rfl,E,(Array.getElem?_eq_some_iff.1 y).1,A,fun j u hj=>?_⟩
  rw [cell_of_row _ _ _ _ _ _ y];rw [←z,List.getElem?_take] at hj
  split at hj
  ·rw [Array.getElem?_toList] at hj;exact hj
  ·cases hj
def qi (c:UInt8):List UInt8:=if c.toNat=92 then [92,92] else if c.toNat=34 then [92,34] else if c.toNat=10 then [92,110] else [c]
def UH (s:List UInt8):List UInt8:=34::(s.flatMap qi++[34])
def XW (w : World) : Prop := Zt w ∧ Lib.TabIs Tryz.prog w "internal/strconv.uint64pow10" .u64 Lib.pow10Tab
theorem XW.below {w w':World} {B:Nat} (h:XW w) (hb:Below B w w') (hB:w.heap.size≤B):XW w' :=
 ⟨h.1.below hb hB,Lib.tabBelow_of_tabIs h.2 w' (hb.mono hB)⟩
def U7 (k n:Int) (s:List UInt8):List UInt8:=if k=2 then Lib.itoa n else if k=3 then UH s else s
def Ut (k n:Int) (s:List UInt8):Prop:=(ZB (U7 k n s)).e=0∧((ZB (U7 k n s)).k:Int)=k∧(ZB (U7 k n s)).s=s∧((ZB (U7 k n s)).n:Int)=n
instance (k n:Int) (s:List UInt8):Decidable (Ut k n s):=by unfold Ut;infer_instance
end Go.Proofs.YtmbofhpmockmbaaGreatDoor
