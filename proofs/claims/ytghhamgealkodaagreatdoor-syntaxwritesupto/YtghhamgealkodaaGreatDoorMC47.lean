import Derived.Test.YtghhamgealkodaaGreatDoorMC44
namespace Go.Proofs.YtghhamgealkodaaGreatDoor
open Go.RowKit Go.Shelf
end Go.Proofs.YtghhamgealkodaaGreatDoor
