import Derived.Test.YtmbofhpmockmbaaGreatDoorXText2
import Derived.Test.YtmbofhpmockmbaaGreatDoorMC15
import Derived.Test.YtmbofhpmockmbaaGreatDoorMC7
namespace Go.Proofs.YtmbofhpmockmbaaGreatDoor
open Go.RowKit Go.Shelf
def y8 (w:World):Prop:=XK w∧ZW w∧Ym w
theorem y8.below {w w':World} (h:y8 w) (hb:Below w.heap.size w w'):y8 w':=by
 refine ⟨h.1.below hb (Nat.le_refl _),fun j v hj=>by rw [hb.cell (World.block_lt_of_cell? w _ (h.2.1 j v hj))];exact h.2.1 j v hj,?_⟩
 have:=h.2.2
 unfold Ym at this ⊢
 rw [hb.cell (World.block_lt_of_cell? w _ this)];exact this
end Go.Proofs.YtmbofhpmockmbaaGreatDoor
