import Derived.Test.YtpejpbbdgblbeaaGreatDoorMC48
namespace Go.Proofs.YtpejpbbdgblbeaaGreatDoor
open Go.RowKit Go.Shelf
end Go.Proofs.YtpejpbbdgblbeaaGreatDoor
