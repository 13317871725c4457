import Derived.Test.YtbjndgachcdbcaaGreatDoorVLines
namespace Go.Proofs.YtbjndgachcdbcaaGreatDoor
open Go.RowKit Go.Shelf
end Go.Proofs.YtbjndgachcdbcaaGreatDoor
