import Derived.Test.YtmbofhpmockmbaaGreatDoorMC33
import Derived.Test.YtmbofhpmockmbaaGreatDoorMC15
import Derived.Test.YtmbofhpmockmbaaGreatDoorMC7
namespace Go.Proofs.YtmbofhpmockmbaaGreatDoor
open Go.RowKit Go.Shelf
def Yq (w:World):Prop:=XW w∧Z2 w∧YD w
theorem Yq.below {w w':World} (h:Yq w) (hb:Below w.heap.size w w'):Yq w':=by
 refine ⟨h.1.below hb (Nat.le_refl _),fun j v hj=>by rw [hb.cell (World.block_lt_of_cell? w _ (h.2.1 j v hj))];exact h.2.1 j v hj,?_⟩
 have:=h.2.2
 unfold YD at this ⊢
 rw [hb.cell (World.block_lt_of_cell? w _ this)];exact this
end Go.Proofs.YtmbofhpmockmbaaGreatDoor
