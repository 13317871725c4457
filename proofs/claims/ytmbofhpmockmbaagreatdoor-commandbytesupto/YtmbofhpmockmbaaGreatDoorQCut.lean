import Derived.Test.YtmbofhpmockmbaaGreatDoorMC1
import Derived.Shelf.RegionOpenPlain
namespace Go.Proofs.YtmbofhpmockmbaaGreatDoor
open Go.RowKit Go.Shelf
set_option maxHeartbeats 16000000
set_option maxRecDepth 100000
theorem xX:∀l:List UInt8,(Lib.indexByte l 32=-1∧zP l=(l,[]))∨∃i:Nat,Lib.indexByte l 32=i∧i<l.length∧zP l=(l.take i,l.drop (i+1))
 | []=>.inl ⟨rfl,rfl⟩
 | c::r=>by
  by_cases hc:c=32
  ·subst hc
   exact .inr ⟨0,rfl,by simp,rfl⟩
  ·have A:(c==32)=false:=by simpa using hc
   have y:(c != 32)=true:=by simpa using hc
   have D:zP (c::r)=(c::(zP r).1,(zP r).2):=by
    unfold zP
    rw [List.takeWhile_cons,List.dropWhile_cons,if_pos y,if_pos y]
   rcases xX r with ⟨e,z⟩ | ⟨i,e,z,E⟩
   ·refine .inl ⟨?_,by rw [D,z]⟩
    rw [Lib.indexByte,A,e];rfl
   ·refine .inr ⟨i+1,?_,by simp;omega,by rw [D,E];rfl⟩
    have o:((i:Int)==-1)=false:=beq_eq_false_iff_ne.2 (by omega)
    rw [Lib.indexByte,A,e,o]
    simp
theorem VY (l:List UInt8) (w:World) (hl:l.length<9223372036854775807) :
  Calls Tryz.prog 57 #[.string (za l),.string ⟨#[32]⟩] w fun e w'=>∃b,e=.returned (.tuple #[.string (za (zP l).1),.string (za (zP l).2),.bool b])∧Below w.heap.size w w':=by
 have o:=Tryz.stringslite_Index_one (za l) 32 w;have J:Hid ((za l).data.toList=l):=rfl;rw [show (za l).data.toList=l from rfl] at o
 rcases xX l with ⟨y,A⟩ | ⟨i,y,A,D⟩
 ·rw [y] at o
  have z:Hid (zP l=(l,[])):=A;clear y A
  go_enter Tryz.func57,Tryz.ntmps57
  go_wp2_with fail
  refine o.mono ?_;clear o;rintro e H ⟨rfl,rfl⟩;go_wp2
  go_ret3
  exact ⟨false,by rw [z.out];rfl,Below.refl _ _⟩
 ·rw [y] at o
  have z:Hid (zP l=(l.take i,l.drop (i+1))):=D;have K:(0:Int)≤(i:Int):=by omega
  have E:=fun W=>vt W l i (by omega)
  have G:∀W,(Instr.slice 9 (.string (za l)) (some (.int .i64 ((i:Int)+1))) none none).run Tryz.prog W=.ok (.string (za (l.drop (i+1)))) W:=fun W=>yK W l (i+1) (by omega)
  have I:(i:Int)+1≤9223372036854775807:=by omega
  have mixed:Tryz.prog.follows Departure.mixedOrders=true:=by kernel_rfl
  clear y D
  go_enter Tryz.func57,Tryz.ntmps57
  go_wp2_with fail
  refine o.mono ?_;clear o;rintro e H ⟨rfl,rfl⟩;go_wp2_with fail
  go_region_o
  go_wp2
  go_ret3
  exact ⟨true,by rw [z.out];rfl,(Below.refl _ _).drew⟩
theorem vL (l:List UInt8) (w:World) (hl:l.length<9223372036854775807) :
  Calls Tryz.prog 36 #[.string (za l),.string ⟨#[32]⟩] w fun e w'=>∃b,e=.returned (.tuple #[.string (za (zP l).1),.string (za (zP l).2),.bool b])∧Below w.heap.size w w':=by
 have o:=VY l w hl
 go_enter Tryz.func36,Tryz.ntmps36
 go_wp2_with fail
 refine o.mono ?_;clear o;rintro e z ⟨b,rfl,y⟩;go_wp2
 go_ret3
 exact ⟨b,rfl,y⟩
theorem Xo (g:Nat) (l:List UInt8) (w:World) (hl:l.length<9223372036854775807) (hg:w.heap[g]?=some (.cells #[.string (za l)] 9 (0,0))) :
  Calls Tryz.prog 35 #[.pointer (some ⟨g,0,none⟩)] w fun e w'=>e=.returned (.string (za (zP l).1))∧w'.heap[g]?=some (.cells #[.string (za (zP l).2)] 9 (0,0))∧(∀j,j<w.heap.size→j≠g→w'.heap[j]?=w.heap[j]?)∧Below g w w':=by
 have D:=vL l w hl;obtain ⟨E,-⟩:=zN hg;have A:Hid (w.heap[g]?=some (.cells #[.string (za l)] 9 (0,0))):=hg;clear hg
 go_enter Tryz.func35,Tryz.ntmps35
 go_wp2_with fail
 refine D.mono ?_;clear D E;rintro e z ⟨b,rfl,y⟩;have o:z.heap[g]?=_:=(y.block _ (ZW A.out)).trans A.out;have H:Hid (Below w.heap.size w z∧z.heap[g]?=some (.cells #[.string (za l)] 9 (0,0))):=⟨y,o⟩;obtain ⟨E,I⟩:=zN o;clear y o;go_wp2
 go_ret
 obtain ⟨y,o⟩:=H.out;have J:=y.size;have G:=ZW A.out;refine ⟨rfl,Yk o _,fun j hj hne=>?_,(y.mono (by omega)).setCell (by simp) _⟩
 rw [Below.heap_setCell _ _ _ _ (by simp;omega)]
 exact y.block _ hj
end Go.Proofs.YtmbofhpmockmbaaGreatDoor
