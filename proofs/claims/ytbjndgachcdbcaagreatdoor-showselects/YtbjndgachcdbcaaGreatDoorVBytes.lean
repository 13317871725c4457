import Derived.Test.YtbjndgachcdbcaaGreatDoorVLines
namespace Go.Proofs.YtbjndgachcdbcaaGreatDoor
open Go.RowKit Go.Shelf
theorem X3 (os:List Ob) (v:Vw):(Zx os v).length=2+v.look.frames.length+v.stops.length+(y6 v.look.out).length:=by
 unfold Zx
 simp only [List.length_append,List.length_map,Zi,List.length_reverse,List.length_singleton];omega
end Go.Proofs.YtbjndgachcdbcaaGreatDoor
