import Derived.Test.YtmbofhpmockmbaaGreatDoorMC1
import Derived.Shelf.RegionOpenPlain
namespace Go.Proofs.YtmbofhpmockmbaaGreatDoor
open Go.RowKit Go.Shelf
set_option maxHeartbeats 16000000
set_option maxRecDepth 100000
theorem XB:∀l:List UInt8,(Lib.indexByte l 32=-1∧zW l=(l,[]))∨∃i:Nat,Lib.indexByte l 32=i∧i<l.length∧zW l=(l.take i,l.drop (i+1))
 | []=>.inl ⟨rfl,rfl⟩
 | c::r=>by
  by_cases hc:c=32
  ·subst hc
   exact .inr ⟨0,rfl,by simp,rfl⟩
  ·have E:(c==32)=false:=by simpa using hc
   have D:(c != 32)=true:=by simpa using hc
   have z:zW (c::r)=(c::(zW r).1,(zW r).2):=by
    unfold zW
    rw [List.takeWhile_cons,List.dropWhile_cons,if_pos D,if_pos D]
   rcases XB r with ⟨o,A⟩ | ⟨i,o,A,G⟩
   ·refine .inl ⟨?_,by rw [z,A]⟩
    rw [Lib.indexByte,E,o];rfl
   ·refine .inr ⟨i+1,?_,by simp;omega,by rw [z,G];rfl⟩
    have y:((i:Int)==-1)=false:=beq_eq_false_iff_ne.2 (by omega)
    rw [Lib.indexByte,E,o,y]
    simp
theorem uE (l:List UInt8) (w:World) (hl:l.length<9223372036854775807) :
  Calls Tryz.prog 57 #[.string (za l),.string ⟨#[32]⟩] w fun e w'=>∃b,e=.returned (.tuple #[.string (za (zW l).1),.string (za (zW l).2),.bool b])∧Below w.heap.size w w':=by
 have o:=Tryz.stringslite_Index_one (za l) 32 w;have K:Hid ((za l).data.toList=l):=rfl;rw [show (za l).data.toList=l from rfl] at o
 rcases XB l with ⟨y,z⟩ | ⟨i,y,z,D⟩
 ·rw [y] at o
  have A:Hid (zW l=(l,[])):=z;clear y z
  go_enter Tryz.func57,Tryz.ntmps57
  go_wp2_with fail
  refine o.mono ?_;clear o;rintro e I ⟨rfl,rfl⟩;go_wp2
  go_ret3
  exact ⟨false,by rw [A.out];rfl,Below.refl _ _⟩
 ·rw [y] at o
  have A:Hid (zW l=(l.take i,l.drop (i+1))):=D;have J:(0:Int)≤(i:Int):=by omega
  have G:=fun W=>Vd W l i (by omega)
  have E:∀W,(Instr.slice 9 (.string (za l)) (some (.int .i64 ((i:Int)+1))) none none).run Tryz.prog W=.ok (.string (za (l.drop (i+1)))) W:=fun W=>yW W l (i+1) (by omega)
  have H:(i:Int)+1≤9223372036854775807:=by omega
  have mixed:Tryz.prog.follows Departure.mixedOrders=true:=by kernel_rfl
  clear y D
  go_enter Tryz.func57,Tryz.ntmps57
  go_wp2_with fail
  refine o.mono ?_;clear o;rintro e I ⟨rfl,rfl⟩;go_wp2_with fail
  go_region_o
  go_wp2
  go_ret3
  exact ⟨true,by rw [A.out];rfl,(Below.refl _ _).drew⟩
theorem Vw (l:List UInt8) (w:World) (hl:l.length<9223372036854775807) :
  Calls Tryz.prog 36 #[.string (za l),.string ⟨#[32]⟩] w fun e w'=>∃b,e=.returned (.tuple #[.string (za (zW l).1),.string (za (zW l).2),.bool b])∧Below w.heap.size w w':=by
 have o:=uE l w hl
 go_enter Tryz.func36,Tryz.ntmps36
 go_wp2_with fail
 refine o.mono ?_;clear o;rintro e z ⟨b,rfl,y⟩;go_wp2
 go_ret3
 exact ⟨b,rfl,y⟩
theorem XV (g:Nat) (l:List UInt8) (w:World) (hl:l.length<9223372036854775807) (hg:w.heap[g]?=some (.cells #[.string (za l)] 9 (0,0))) :
  Calls Tryz.prog 35 #[.pointer (some ⟨g,0,none⟩)] w fun e w'=>e=.returned (.string (za (zW l).1))∧w'.heap[g]?=some (.cells #[.string (za (zW l).2)] 9 (0,0))∧(∀j,j<w.heap.size→j≠g→w'.heap[j]?=w.heap[j]?)∧Below g w w':=by
 have E:=Vw l w hl;obtain ⟨D,-⟩:=zV hg;have z:Hid (w.heap[g]?=some (.cells #[.string (za l)] 9 (0,0))):=hg;clear hg
 go_enter Tryz.func35,Tryz.ntmps35
 go_wp2_with fail
 refine E.mono ?_;clear E D;rintro e A ⟨b,rfl,y⟩;have o:A.heap[g]?=_:=(y.block _ (Zl z.out)).trans z.out;have G:Hid (Below w.heap.size w A∧A.heap[g]?=some (.cells #[.string (za l)] 9 (0,0))):=⟨y,o⟩;obtain ⟨D,J⟩:=zV o;clear y o;go_wp2
 go_ret
 obtain ⟨y,o⟩:=G.out;have I:=y.size;have H:=Zl z.out;refine ⟨rfl,YH o _,fun j hj hne=>?_,(y.mono (by omega)).setCell (by simp) _⟩
 rw [Below.heap_setCell _ _ _ _ (by simp;omega)]
 exact y.block _ hj
end Go.Proofs.YtmbofhpmockmbaaGreatDoor
