import Derived.Test.YtbjndgachcdbcaaGreatDoorXTabs2
import Derived.Test.YtbjndgachcdbcaaGreatDoorPModel
import Derived.Test.YtbjndgachcdbcaaGreatDoorLRow
import Derived.ChangeSame
import Derived.Deep.DeepHandedRow
import Derived.Deep.Slices
import Derived.JoinedOf
import Derived.JoinedCond
import Derived.SizedLaws
import Derived.MakeChecks
import Derived.Lay
import Derived.LaidOnce
namespace Go.Proofs.YtbjndgachcdbcaaGreatDoor
open Go.ChangeShapes Go.WideShapes Go.ChangeAt Go.RowKit
instance:Inhabited Vl:=⟨⟨0,0,[]⟩⟩
instance:Inhabited VD:=⟨⟨0,0,0,[],[]⟩⟩
section
variable {H:Type} {enc:TypeId × Value→H} {w:World} {fuel:Nat} {hd:Bool} {u:Value} {y:DataW H × List MemPlace}
end
section
variable {H:Type} {enc:TypeId × Value→H} {w:World}
end
end Go.Proofs.YtbjndgachcdbcaaGreatDoor
