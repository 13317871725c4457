import Derived.Test.YtmbofhpmockmbaaGreatDoorWAll
namespace Go.Proofs.YtmbofhpmockmbaaGreatDoor
open Go.RowKit
set_option maxHeartbeats 16000000
set_option maxRecDepth 100000
theorem vk (n:Int) (h0:-9223372036854775808≤n) (h1:n≤9223372036854775807) (w:World) :
  Calls Tryz.prog 69 #[.int .i64 n] w fun e w'=>e=.returned (.int .u64 (Lib.zigzag n))∧w=w':=by
 by_cases hn:n<0
 ·have o:((Lib.zigzag n:Nat):Int)=-(n+1)*2+1:=by unfold Lib.zigzag;rw [if_neg (by omega)];omega
  have y:Hid (((Lib.zigzag n:Nat):Int)=-(n+1)*2+1):=o;clear o
  go_enter Tryz.func69,Tryz.ntmps69
  go_wp2
  go_ret
  rw [y.out];exact ⟨rfl,rfl⟩
 ·have o:=Lib.zigzag_nonneg (x:=n) (by omega)
  have y:Hid (((Lib.zigzag n:Nat):Int)=n*2):=o;clear o
  go_enter Tryz.func69,Tryz.ntmps69
  go_wp2
  go_ret
  rw [y.out];exact ⟨rfl,rfl⟩
theorem Yn (n:Int) (h0:-9223372036854775808≤n) (h1:n≤9223372036854775807) (w:World) :
  Calls Tryz.prog 47 #[.int .i64 n] w fun e w'=>e=.returned (.string ⟨(Zo n).toArray⟩)∧Below w.heap.size w w':=by
 obtain ⟨i0,Y,R,M,Q⟩:=info_parts Yc;obtain ⟨x,U⟩:∃x,x=Lib.zigzag n:=⟨_,rfl⟩;have T:x<18446744073709551616:=by rw [U];exact Lib.zigzag_lt h0 h1
 have W:=Lib.uvarint_length64 T;have HX:Hid (x=Lib.zigzag n):=U
 unfold Zo
 rw [←U];clear U
 go_enter Tryz.func47,Tryz.ntmps47
 go_wp2_with (go_at_call 69;refine (vk _ h0 h1 _).mono ?_;rintro e w' ⟨rfl,rfl⟩;rw [←HX.out])
 go_loopw [3,4] (fun vx vb wr=>∃(y:Nat) (D:List UInt8),vx=.int .u64 y∧y≤x∧Lib.uvarint x=D++Lib.uvarint y∧wr.ownsRow w.heap.size 5 1 vb D.length (Lib.byteCells D)∧Below w.heap.size w wr)
  (fun vx _ _=>(intOf vx).toNat)
 case atStart=>exact ⟨x,[],rfl,Nat.le_refl _,rfl,World.ownsRow_nil _ _ _ _,Below.refl _ _⟩
 case round =>
  obtain ⟨y,D,rfl,hy,o,A,G⟩:=hrel
  have ad:D.length+(Lib.uvarint y).length≤10:=by
   have h2:=congrArg List.length o;rw [List.length_append] at h2;omega
  have ab:=Lib.uvarint_pos y;have X:Hid (Lib.uvarint x=D++Lib.uvarint y):=o;clear o
  by_cases h128:128≤y
  ·go_wp2_with (at_builtin;refine wpList_append_own _ rfl _ _ 39 rfl w.heap.size 5 i0 (.int .u8 0) 1 1 Tryz.underlying39 Y R M Q rfl (by decide) _ _ _ rfl (A.alloc _) ⟨wr.heap.size,0,none⟩ 1 1 [Value.int .u8 ((y:Int) % 128+128)] rfl rfl ?c1 ?c2 ?c3 ?c4 ?c5 ?_)
   case c1 =>
    intro j u J
    match j,J with
    | 0,J=>simp at J;subst J;simp [Addr.add]
   case c2=>intro u O;simp at O;subst O;rfl
   case c3=>unfold maxLen;omega
   case c4=>omega
   case c5=>have:=G.size;simp;omega
   intro Z w1 z E _;have I:Below w.heap.size w w1:=(G.alloc (by have:=G.size;omega) _).grown E (by have:=G.size;simp;omega) (fun k hk=>(A.lt k hk).1)
   go_wp2
   go_roundw
   case rel =>
    refine ⟨y / 128,D++[(y % 128+128).toUInt8],by go_num,by omega,by rw [X.out,Lib.uvarint_big h128];simp,?_,I⟩
    have ec:((y % 128+128:Nat):Int)=(y:Int) % 128+128:=by omega
    rw [Lib.byteCells_snoc D (by omega),List.length_append,List.length_singleton,ec]
    exact z
   case measure=>simp [intOf];omega
  ·have L:Lib.uvarint y=[y.toUInt8]:=Lib.uvarint_small (by omega)
   have HM:Hid (Lib.uvarint y=[y.toUInt8]):=L;clear L
   go_wp2_with (at_builtin;refine wpList_append_own _ rfl _ _ 39 rfl w.heap.size 5 i0 (.int .u8 0) 1 1 Tryz.underlying39 Y R M Q rfl (by decide) _ _ _ rfl (A.alloc _) ⟨wr.heap.size,0,none⟩ 1 1 [Value.int .u8 (y:Int)] rfl rfl ?c1 ?c2 ?c3 ?c4 ?c5 ?_)
   case c1 =>
    intro j u J
    match j,J with
    | 0,J=>simp at J;subst J;simp [Addr.add]
   case c2=>intro u O;simp at O;subst O;rfl
   case c3=>unfold maxLen;omega
   case c4=>omega
   case c5=>have:=G.size;simp;omega
   intro Z w1 z E _;have I:Below w.heap.size w w1:=(G.alloc (by have:=G.size;omega) _).grown E (by have:=G.size;simp;omega) (fun k hk=>(A.lt k hk).1)
   have H:w1.ownsRow w.heap.size 5 1 Z (Lib.uvarint x).length (Lib.byteCells (Lib.uvarint x)):=by
    rw [X.out,HM.out,Lib.byteCells_snoc D (by omega),List.length_append,List.length_singleton]
    exact z
   obtain ⟨base,V,rfl,K,-,-,-⟩:=Yy H;have aa:=yw w1 base (Lib.uvarint x) V K;clear H z K E;go_wp2
   go_ret
   exact ⟨rfl,I⟩
theorem V9 (a:List UInt8) (s:ByteArray):(⟨a.toArray⟩++s:ByteArray)=⟨(a++s.data.toList).toArray⟩:=by
 apply ByteArray.ext
 rw [ByteArray.data_append]
 simp
theorem vo (s:ByteArray) (w:World) (hs:s.size≤140737488351232) :
  Calls Tryz.prog 48 #[.string s] w fun e w'=>e=.returned (.string ⟨(yQ s).toArray⟩)∧Below w.heap.size w w':=by
 have o:=Zs (n:=(s.size:Int)) (by omega) (by omega)
 go_enter Tryz.func48,Tryz.ntmps48
 go_wp2_with fail
 refine (Yn s.size (by omega) (by omega) w).mono ?_
 rintro e z ⟨rfl,y⟩;go_wp2
 go_ret
 exact ⟨by unfold yQ;rw [←V9];rfl,y⟩
end Go.Proofs.YtmbofhpmockmbaaGreatDoor
