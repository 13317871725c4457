import Derived.Test.YtcphojjpapgblaaGreatDoorMC35
namespace Go.Proofs.YtcphojjpapgblaaGreatDoor
open Go.RowKit Go.Shelf
end Go.Proofs.YtcphojjpapgblaaGreatDoor
