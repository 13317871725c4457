import Derived.Test.YtbjndgachcdbcaaGreatDoorHShow2
namespace Go.Proofs.YtbjndgachcdbcaaGreatDoor
open Go.RowKit Go.Shelf
end Go.Proofs.YtbjndgachcdbcaaGreatDoor
