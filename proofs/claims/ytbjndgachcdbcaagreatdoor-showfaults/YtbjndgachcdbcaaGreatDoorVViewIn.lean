import Derived.Test.YtbjndgachcdbcaaGreatDoorPStIn
import Derived.Test.YtbjndgachcdbcaaGreatDoorVLives
namespace Go.Proofs.YtbjndgachcdbcaaGreatDoor
open Go.ChangeShapes Go.WideShapes Go.ChangeAt Go.RowKit
instance:Inhabited Bn:=⟨⟨[],⟨0,0,[]⟩⟩⟩
instance:Inhabited Fr:=⟨⟨[],0,[]⟩⟩
instance:Inhabited Sp:=⟨⟨0,0,[],[],false⟩⟩
section
variable {H:Type} {enc:TypeId × Value→H} {w:World}
end
end Go.Proofs.YtbjndgachcdbcaaGreatDoor
