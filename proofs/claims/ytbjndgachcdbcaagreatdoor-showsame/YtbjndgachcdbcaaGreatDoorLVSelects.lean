import Derived.Test.YtbjndgachcdbcaaGreatDoorVFew
namespace Go.Proofs.YtbjndgachcdbcaaGreatDoor
open Go.RowKit Go.Shelf
theorem Vo {m:Int} {os:List Ob} {w w':World} {e:Ending} (h:Vn m os w e w'):∃p er,e=.returned (.tuple #[.pointer p,.int .i64 er])∧Below w.heap.size w w'∧(p=none∨∃g c b,p=some ⟨g,0,none⟩∧zs (fun k=>w.heap.size≤k) w' (mostN m) os g c b):=by
 obtain ⟨o,⟨rfl,-⟩ | ⟨rfl,-⟩ | ⟨-,-,g,c,b,rfl,H⟩⟩:=h
 ·exact ⟨_,_,rfl,o,.inl rfl⟩
 ·exact ⟨_,_,rfl,o,.inl rfl⟩
 ·exact ⟨_,_,rfl,o,.inr ⟨g,c,b,rfl,H⟩⟩
end Go.Proofs.YtbjndgachcdbcaaGreatDoor
