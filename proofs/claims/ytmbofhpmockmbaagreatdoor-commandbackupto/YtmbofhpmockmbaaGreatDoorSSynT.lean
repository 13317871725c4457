import Derived.Test.YtmbofhpmockmbaaGreatDoorXText2
import Derived.Test.YtmbofhpmockmbaaGreatDoorMC14
import Derived.Test.YtmbofhpmockmbaaGreatDoorMC6
namespace Go.Proofs.YtmbofhpmockmbaaGreatDoor
open Go.RowKit Go.Shelf
def yR (w:World):Prop:=xX w∧ZL w∧y3 w
theorem yR.below {w w':World} (h:yR w) (hb:Below w.heap.size w w'):yR w':=by
 refine ⟨h.1.below hb (Nat.le_refl _),fun j v hj=>by rw [hb.cell (World.block_lt_of_cell? w _ (h.2.1 j v hj))];exact h.2.1 j v hj,?_⟩
 have:=h.2.2
 unfold y3 at this ⊢
 rw [hb.cell (World.block_lt_of_cell? w _ this)];exact this
end Go.Proofs.YtmbofhpmockmbaaGreatDoor
