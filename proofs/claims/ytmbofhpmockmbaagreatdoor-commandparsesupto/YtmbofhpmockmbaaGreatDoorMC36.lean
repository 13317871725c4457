import Derived.Test.YtmbofhpmockmbaaGreatDoorMC20
import Derived.Test.YtmbofhpmockmbaaGreatDoorMC35
import Derived.Test.YtmbofhpmockmbaaGreatDoorMC30
import Derived.Test.YtmbofhpmockmbaaGreatDoorSReadX
namespace Go.Proofs.YtmbofhpmockmbaaGreatDoor
open Go.RowKit Go.Shelf
mutual
def zaV:St→Nat
 | .mk _ _ es b e _=>1+max (depthL es) (max (VT b) (VT e))
def VT:List St→Nat
 | []=>0
 | x::xs=>max (zaV x) (VT xs)
end
abbrev qS (B:Nat) (w:World) (p:Pg) (v:Value):Prop:=xZ (fun k=>B≤k) w p v
theorem qS.kept {B:Nat} {w w':World} {p:Pg} {v:Value} (h:qS B w p v) (hs:w.heap.size≤w'.heap.size) (hb:∀k,B≤k→k<w.heap.size→w'.heap[k]?=w.heap[k]?):qS B w' p v:=xZ.kept h hs hb
theorem qS.mono {B B':Nat} {w:World} {p:Pg} {v:Value} (h:qS B w p v) (hb:B'≤B):qS B' w p v:=xZ.wide h fun k hk=>by omega
abbrev zb3:Pg:=⟨[],[]⟩
abbrev zb4 (w:World) (N:Nat) (a b:Value):World:=(w.setCell ⟨N,0,none⟩ a).setCell ⟨N,1,none⟩ b
end Go.Proofs.YtmbofhpmockmbaaGreatDoor
