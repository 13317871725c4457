import Derived.Test.YtbjndgachcdbcaaGreatDoorLVSelects
namespace Go.Proofs.YtbjndgachcdbcaaGreatDoor
open Go.RowKit Go.Shelf
end Go.Proofs.YtbjndgachcdbcaaGreatDoor
