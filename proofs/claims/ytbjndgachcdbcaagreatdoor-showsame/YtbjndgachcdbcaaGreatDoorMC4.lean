import Derived.RangeFuncNested
import Derived.RangeFuncBound
import Derived.RangeFuncCalls
import Derived.RangeFuncLeaves
import Derived.RangeFuncBox
import Derived.Lib.Bytealg
import Derived.Shelf.Abstract
import Derived.Shelf.RegionOpen
import Derived.WalkKit
import Derived.OwnWalkIn
import Derived.TacticsInMore
import Derived.LoopNIn
import Derived.LoopIn
import Derived.Maps.AppendAt
import Derived.Test.YtbjndgachcdbcaaGreatDoorXTk
import Derived.Sort.QuietIn
namespace Go.Proofs.YtbjndgachcdbcaaGreatDoor
open Go.RowKit Go.Shelf
set_option maxHeartbeats 16000000
set_option maxRecDepth 100000
attribute [local go_sem] Oper.semAt_some
structure Tk where
 k:Nat
 s:List UInt8
 n:Nat
 line:Nat
 at0:Nat
end Go.Proofs.YtbjndgachcdbcaaGreatDoor
namespace Go.Proofs.YtbjndgachcdbcaaGreatDoor
open Go.RowKit
set_option maxHeartbeats 16000000
set_option maxRecDepth 100000
end Go.Proofs.YtbjndgachcdbcaaGreatDoor
namespace Go.Proofs.YtbjndgachcdbcaaGreatDoor
open Go.RowKit Go.Shelf
set_option maxHeartbeats 16000000
set_option maxRecDepth 100000
attribute [local go_sem] Oper.semAt_some
theorem yW (l:List UInt8) (w:World) (hl:l.length≤281474976710656) :
  Calls Tryz.prog 35 #[.string (za l)] w fun e w'=>e=.returned (.string (za l))∧Below w.heap.size w w':=by
 go_enter Tryz.func35,Tryz.ntmps35
 go_wp2_with fail
 refine (Tryz.stringslite_Clone (za l) w hl).mono ?_;rintro e w1 ⟨rfl,b⟩;have c:Hid (Below w.heap.size w w1):=b;clear b;go_wp2
 go_ret
 exact ⟨rfl,c.out⟩
theorem yX (W:World) (cs:List Value) (t:TypeId):∀j u,cs[j]?=some u→(W.alloc (.cells cs.toArray t)).cell? ((⟨W.heap.size,0,none⟩:Addr).add j)=some u:=fun j u h=>by
 rw [show (⟨W.heap.size,0,none⟩:Addr).add j=⟨W.heap.size,j,none⟩ by simp [Addr.add];try omega,cell_of_row _ _ _ _ _ _ (World.alloc_heap_new W _)]
 simpa using h
attribute [local go_sem] Oper.semAt_some
end Go.Proofs.YtbjndgachcdbcaaGreatDoor
