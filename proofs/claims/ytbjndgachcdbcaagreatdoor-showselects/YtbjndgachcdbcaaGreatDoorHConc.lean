import Derived.Test.YtbjndgachcdbcaaGreatDoorMC17
namespace Go.Proofs.YtbjndgachcdbcaaGreatDoor
open Go.RowKit Go.Shelf
end Go.Proofs.YtbjndgachcdbcaaGreatDoor
