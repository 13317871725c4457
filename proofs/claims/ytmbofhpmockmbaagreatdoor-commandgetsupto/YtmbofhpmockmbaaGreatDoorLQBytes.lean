import Derived.Test.YtmbofhpmockmbaaGreatDoorMC4
import Derived.Test.YtmbofhpmockmbaaGreatDoorQLives
import Derived.Test.YtmbofhpmockmbaaGreatDoorWMix
namespace Go.Proofs.YtmbofhpmockmbaaGreatDoor
open Go.RowKit Go.Shelf
theorem qs (w:World):(w.alloc (.cells #[] 5)).ownsRow w.heap.size 5 1 (.slice (some ⟨w.heap.size,0,none⟩) 0 0) 0 []:=World.ownsRow_made w #[] 0 (Nat.le_refl _) (Nat.zero_le _) rfl
abbrev ZO (k n:Int) (s:List UInt8):Obj:=.cells #[.int .i64 k,.int .i64 n,.string (za s)] 24 (0,0)
theorem Ux {k n:Int} {s:List UInt8} (hk:-9223372036854775808≤k∧k≤9223372036854775807) (hn:-9223372036854775808≤n∧n≤9223372036854775807) (hs:s.length≤1048576):(Yo k n s).length≤1048676:=by
 have z:=Zs hk.1 hk.2;have o:=Zs hn.1 hn.2;have y:=Zs (n:=(s.length:Int)) (by omega) (by omega)
 unfold Yo yQ
 simp only [List.length_append]
 have:(za s).data.toList.length=s.length:=rfl
 have:(Zo ((za s).size:Int)).length=(Zo (s.length:Int)).length:=rfl
 omega
end Go.Proofs.YtmbofhpmockmbaaGreatDoor
