import Derived.Test.YtbjndgachcdbcaaGreatDoorMC21
namespace Go.Proofs.YtbjndgachcdbcaaGreatDoor
open Go.RowKit Go.Shelf
def Uj (w:World) (hv:Value):Prop:=hv=.pointer none∨∃h,hv=.pointer (some ⟨h,0,none⟩)∧h<w.heap.size∧w.cell? ⟨h,0,none⟩=some (.bool false)
theorem Uj.below {w w':World} {hv:Value} (h:Uj w hv) (hb:Below w.heap.size w w'):Uj w' hv:=by
 rcases h with h | ⟨h,e,b,c⟩
 ·exact .inl h
 ·exact .inr ⟨h,e,Nat.lt_of_lt_of_le b hb.size,(zb hb b).trans c⟩
end Go.Proofs.YtbjndgachcdbcaaGreatDoor
