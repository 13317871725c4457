import Derived.Test.YtpejpbbdgblbeaaGreatDoorMC41
import Derived.Deep.RegionWith
import Derived.Deep.CutRange
import Derived.Test.YtpejpbbdgblbeaaGreatDoorMC23
namespace Go.Proofs.YtpejpbbdgblbeaaGreatDoor
open Go.RowKit Go.Shelf
theorem yI.as {r g:Nat} {σ:RS} {w W:World} (h:yI r g σ w) (e:W.heap=w.heap):yI r g σ W:=h.keep (by rw [e]) (by rw [e])
theorem zd.as {r:Nat} {w W w':World} (h:zd r W w') (e1:W.heap=w.heap) (e2:W.os=w.os) (e3:W.tape=w.tape) (e4:W.output=w.output):zd r w w' :=
 ⟨h.os.trans e2,h.tape.trans e3,h.output.trans e4,by rw [←e1];exact h.size,fun k hk hr=>by rw [←e1];exact h.block k (by rw [e1];exact hk) hr⟩
end Go.Proofs.YtpejpbbdgblbeaaGreatDoor
