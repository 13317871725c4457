import Derived.Test.YtbjndgachcdbcaaGreatDoorVFew
namespace Go.Proofs.YtbjndgachcdbcaaGreatDoor
open Go.RowKit Go.Shelf
theorem uS {m:Int} {os:List Ob} {w w':World} {e:Ending} (h:V9 m os w e w'):∃p er,e=.returned (.tuple #[.pointer p,.int .i64 er])∧Below w.heap.size w w'∧(p=none∨∃g o b,p=some ⟨g,0,none⟩∧zw (fun k=>w.heap.size≤k) w' (mostN m) os g o b):=by
 obtain ⟨c,⟨rfl,-⟩ | ⟨rfl,-⟩ | ⟨-,-,g,o,b,rfl,H⟩⟩:=h
 ·exact ⟨_,_,rfl,c,.inl rfl⟩
 ·exact ⟨_,_,rfl,c,.inl rfl⟩
 ·exact ⟨_,_,rfl,c,.inr ⟨g,o,b,rfl,H⟩⟩
end Go.Proofs.YtbjndgachcdbcaaGreatDoor
