import Derived.Test.YtmbofhpmockmbaaGreatDoorMC1
import Derived.Shelf.RegionOpenPlain
namespace Go.Proofs.YtmbofhpmockmbaaGreatDoor
open Go.RowKit Go.Shelf
set_option maxHeartbeats 16000000
set_option maxRecDepth 100000
theorem Y3:∀l:List UInt8,(Lib.indexByte l 32=-1∧zH l=(l,[]))∨∃i:Nat,Lib.indexByte l 32=i∧i<l.length∧zH l=(l.take i,l.drop (i+1))
 | []=>.inl ⟨rfl,rfl⟩
 | c::r=>by
  by_cases hc:c=32
  ·subst hc
   exact .inr ⟨0,rfl,by simp,rfl⟩
  ·have z:(c==32)=false:=by simpa using hc
   have y:(c != 32)=true:=by simpa using hc
   have x:zH (c::r)=(c::(zH r).1,(zH r).2):=by
    unfold zH
    rw [List.takeWhile_cons,List.dropWhile_cons,if_pos y,if_pos y]
   rcases Y3 r with ⟨e,o⟩ | ⟨i,e,o,A⟩
   ·refine .inl ⟨?_,by rw [x,o]⟩
    rw [Lib.indexByte,z,e];rfl
   ·refine .inr ⟨i+1,?_,by simp;omega,by rw [x,A];rfl⟩
    have h:((i:Int)==-1)=false:=beq_eq_false_iff_ne.2 (by omega)
    rw [Lib.indexByte,z,e,h]
    simp
theorem vy (l:List UInt8) (w:World) (hl:l.length<9223372036854775807) :
  Calls Tryz.prog 57 #[.string (za l),.string ⟨#[32]⟩] w fun e w'=>∃b,e=.returned (.tuple #[.string (za (zH l).1),.string (za (zH l).2),.bool b])∧Below w.heap.size w w':=by
 have h:=Tryz.stringslite_Index_one (za l) 32 w;have H:Hid ((za l).data.toList=l):=rfl;rw [show (za l).data.toList=l from rfl] at h
 rcases Y3 l with ⟨o,y⟩ | ⟨i,o,y,z⟩
 ·rw [o] at h
  have x:Hid (zH l=(l,[])):=y;clear o y
  go_enter Tryz.func57,Tryz.ntmps57
  go_wp2_with fail
  refine h.mono ?_;clear h;rintro e A ⟨rfl,rfl⟩;go_wp2
  go_ret3
  exact ⟨false,by rw [x.out];rfl,Below.refl _ _⟩
 ·rw [o] at h
  have x:Hid (zH l=(l.take i,l.drop (i+1))):=z;have I:(0:Int)≤(i:Int):=by omega
  have D:=fun W=>Xh W l i (by omega)
  have E:∀W,(Instr.slice 9 (.string (za l)) (some (.int .i64 ((i:Int)+1))) none none).run Tryz.prog W=.ok (.string (za (l.drop (i+1)))) W:=fun W=>yi W l (i+1) (by omega)
  have G:(i:Int)+1≤9223372036854775807:=by omega
  have mixed:Tryz.prog.follows Departure.mixedOrders=true:=by kernel_rfl
  clear o z
  go_enter Tryz.func57,Tryz.ntmps57
  go_wp2_with fail
  refine h.mono ?_;clear h;rintro e A ⟨rfl,rfl⟩;go_wp2_with fail
  go_region_o
  go_wp2
  go_ret3
  exact ⟨true,by rw [x.out];rfl,(Below.refl _ _).drew⟩
theorem Xy (l:List UInt8) (w:World) (hl:l.length<9223372036854775807) :
  Calls Tryz.prog 36 #[.string (za l),.string ⟨#[32]⟩] w fun e w'=>∃b,e=.returned (.tuple #[.string (za (zH l).1),.string (za (zH l).2),.bool b])∧Below w.heap.size w w':=by
 have h:=vy l w hl
 go_enter Tryz.func36,Tryz.ntmps36
 go_wp2_with fail
 refine h.mono ?_;clear h;rintro e x ⟨b,rfl,o⟩;go_wp2
 go_ret3
 exact ⟨b,rfl,o⟩
theorem xr (g:Nat) (l:List UInt8) (w:World) (hl:l.length<9223372036854775807) (hg:w.heap[g]?=some (.cells #[.string (za l)] 9 (0,0))) :
  Calls Tryz.prog 35 #[.pointer (some ⟨g,0,none⟩)] w fun e w'=>e=.returned (.string (za (zH l).1))∧w'.heap[g]?=some (.cells #[.string (za (zH l).2)] 9 (0,0))∧(∀j,j<w.heap.size→j≠g→w'.heap[j]?=w.heap[j]?)∧Below g w w':=by
 have A:=Xy l w hl;obtain ⟨z,-⟩:=zL hg;have y:Hid (w.heap[g]?=some (.cells #[.string (za l)] 9 (0,0))):=hg;clear hg
 go_enter Tryz.func35,Tryz.ntmps35
 go_wp2_with fail
 refine A.mono ?_;clear A z;rintro e x ⟨b,rfl,o⟩;have h:x.heap[g]?=_:=(o.block _ (yq y.out)).trans y.out;have D:Hid (Below w.heap.size w x∧x.heap[g]?=some (.cells #[.string (za l)] 9 (0,0))):=⟨o,h⟩;obtain ⟨z,H⟩:=zL h;clear o h;go_wp2
 go_ret
 obtain ⟨o,h⟩:=D.out;have G:=o.size;have E:=yq y.out;refine ⟨rfl,yL h _,fun j hj hne=>?_,(o.mono (by omega)).setCell (by simp) _⟩
 rw [Below.heap_setCell _ _ _ _ (by simp;omega)]
 exact o.block _ hj
end Go.Proofs.YtmbofhpmockmbaaGreatDoor
