import Derived.Test.YtbjndgachcdbcaaGreatDoorHLives
namespace Go.Proofs.YtbjndgachcdbcaaGreatDoor
open Go.RowKit Go.Shelf
def VB (w:World) (hv:Value):Prop:=hv=.pointer none∨∃h,hv=.pointer (some ⟨h,0,none⟩)∧h<w.heap.size∧w.cell? ⟨h,0,none⟩=some (.bool false)
theorem VB.below {w w':World} {hv:Value} (h:VB w hv) (hb:Below w.heap.size w w'):VB w' hv:=by
 rcases h with h | ⟨h,e,b,c⟩
 ·exact .inl h
 ·exact .inr ⟨h,e,Nat.lt_of_lt_of_le b hb.size,(zh hb b).trans c⟩
end Go.Proofs.YtbjndgachcdbcaaGreatDoor
