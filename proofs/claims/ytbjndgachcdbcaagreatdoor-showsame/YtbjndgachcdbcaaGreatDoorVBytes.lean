import Derived.Test.YtbjndgachcdbcaaGreatDoorVLines
namespace Go.Proofs.YtbjndgachcdbcaaGreatDoor
open Go.RowKit Go.Shelf
theorem vM (os:List Ob) (v:Vw):(ZC os v).length=2+v.look.frames.length+v.stops.length+(Y1 v.look.out).length:=by
 unfold ZC
 simp only [List.length_append,List.length_map,ZL,List.length_reverse,List.length_singleton];omega
end Go.Proofs.YtbjndgachcdbcaaGreatDoor
