import Derived.Test.YtcphojjpapgblaaGreatDoorMC33
import Derived.BigQuiet
namespace Go.Proofs.YtcphojjpapgblaaGreatDoor
open Go.RowKit Go.Shelf
end Go.Proofs.YtcphojjpapgblaaGreatDoor
