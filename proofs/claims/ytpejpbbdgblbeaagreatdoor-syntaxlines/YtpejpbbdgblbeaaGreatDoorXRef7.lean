import Derived.Test.YtpejpbbdgblbeaaGreatDoorMC45
namespace Go.Proofs.YtpejpbbdgblbeaaGreatDoor
open Go.RowKit Go.Shelf
end Go.Proofs.YtpejpbbdgblbeaaGreatDoor
