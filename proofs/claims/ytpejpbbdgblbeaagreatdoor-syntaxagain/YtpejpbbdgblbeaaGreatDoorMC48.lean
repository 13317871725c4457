import Derived.Test.YtpejpbbdgblbeaaGreatDoorMC38
import Derived.BigQuiet
namespace Go.Proofs.YtpejpbbdgblbeaaGreatDoor
open Go.RowKit Go.Shelf
end Go.Proofs.YtpejpbbdgblbeaaGreatDoor
