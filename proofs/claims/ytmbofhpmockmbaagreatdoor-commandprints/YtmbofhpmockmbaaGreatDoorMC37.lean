import Derived.Test.YtmbofhpmockmbaaGreatDoorMC21
import Derived.Test.YtmbofhpmockmbaaGreatDoorMC36
import Derived.Test.YtmbofhpmockmbaaGreatDoorMC31
import Derived.Test.YtmbofhpmockmbaaGreatDoorSReadX
namespace Go.Proofs.YtmbofhpmockmbaaGreatDoor
open Go.RowKit Go.Shelf
mutual
def zay:St→Nat
 | .mk _ _ es b e _=>1+max (depthL es) (max (Vy b) (Vy e))
def Vy:List St→Nat
 | []=>0
 | x::xs=>max (zay x) (Vy xs)
end
abbrev qv (B:Nat) (w:World) (p:Pg) (v:Value):Prop:=xP (fun k=>B≤k) w p v
theorem qv.kept {B:Nat} {w w':World} {p:Pg} {v:Value} (h:qv B w p v) (hs:w.heap.size≤w'.heap.size) (hb:∀k,B≤k→k<w.heap.size→w'.heap[k]?=w.heap[k]?):qv B w' p v:=xP.kept h hs hb
theorem qv.mono {B B':Nat} {w:World} {p:Pg} {v:Value} (h:qv B w p v) (hb:B'≤B):qv B' w p v:=xP.wide h fun k hk=>by omega
abbrev zbF:Pg:=⟨[],[]⟩
abbrev zbG (w:World) (N:Nat) (a b:Value):World:=(w.setCell ⟨N,0,none⟩ a).setCell ⟨N,1,none⟩ b
end Go.Proofs.YtmbofhpmockmbaaGreatDoor
