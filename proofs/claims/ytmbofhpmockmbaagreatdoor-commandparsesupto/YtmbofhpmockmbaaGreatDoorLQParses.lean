import Derived.Test.YtmbofhpmockmbaaGreatDoorMC49
import Derived.Test.YtmbofhpmockmbaaGreatDoorMC46
import Derived.Test.YtmbofhpmockmbaaGreatDoorMC47
import Derived.Test.YtmbofhpmockmbaaGreatDoorMC30
namespace Go.Proofs.YtmbofhpmockmbaaGreatDoor
open Go.RowKit Go.Shelf
set_option maxHeartbeats 16000000
set_option maxRecDepth 100000
theorem Ud (l:List UInt8) (hl:l.length≤1048576) (w:World) (hQ:QT w) :
  Calls Tryz.prog 4 #[.string (za l)] w fun e w'=>e=.returned (.bool true)∧Below w.heap.size w w':=by
 have HQ:Hid (QT w):=hQ
 obtain ⟨a,b,s,E,U⟩:∃(a b:Int) (s:List UInt8) (E:Int),(Zt Zy a b s∧Zv a b s=l∧E=0)∨((∀k n s,Zt Zy k n s→Zv k n s≠l)∧a=0∧b=0∧s=[]∧E=6):=by
  by_cases h:∃k n s,Zt Zy k n s∧Zv k n s=l
  ·obtain ⟨k,n,s,z,y⟩:=h
   exact ⟨k,n,s,0,.inl ⟨z,y,rfl⟩⟩
  ·exact ⟨0,0,[],6,.inr ⟨fun k n s z y=>h ⟨k,n,s,z,y⟩,rfl,rfl,rfl,rfl⟩⟩
 have o:∀k n s,Zt Zy k n s→Zv k n s=l→zZ l=(k,n,s):=fun k n s z y=>by
  have:=zai V5 z
  rwa [y] at this
 have A:∀k n t,Zt Zy k n t→Zv k n t=l→k=a∧n=b∧t=s∧E=0:=fun k n t z y=>by
  rcases U with ⟨D,K,h5⟩ | ⟨D,-⟩
  ·have e:=(o _ _ _ z y).symm.trans (o _ _ _ D K)
   cases e
   exact ⟨rfl,rfl,rfl,h5⟩
  ·exact absurd y (D _ _ _ z)
 have c1:Calls Tryz.prog 14 #[.string (za l)] w fun e w'=>e=.returned (.tuple #[.agg #[.int .i64 a,.int .i64 b,.string (za s)],.int .i64 E])∧Below w.heap.size w w':=(vy l w (by omega) HQ.out).mono fun e w' ⟨h,hb⟩=>⟨by
  rcases h with ⟨k,n,t,-,z,y,D⟩ | ⟨z,y⟩
  ·obtain ⟨rfl,rfl,rfl,rfl⟩:=A _ _ _ z y
   exact D
  ·rcases U with ⟨D,K,-⟩ | ⟨-,rfl,rfl,rfl,rfl⟩
   ·exact absurd ⟨D,K⟩ (z _ _ _ (o _ _ _ D K))
   ·exact y,hb⟩
 have C2:Hid (∀W,Calls Tryz.prog 15 #[.string (za l)] W fun e w'=>e=.returned (.tuple #[.agg #[.int .i64 a,.int .i64 b,.string (za s)],.int .i64 E])∧Below W.heap.size W w'):=fun W=>(vW l hl W).mono fun e w' ⟨h,hb⟩=>⟨by
  rcases h with ⟨k,n,t,z,y,D⟩ | ⟨z,y⟩
  ·obtain ⟨rfl,rfl,rfl,rfl⟩:=A _ _ _ z y
   exact D
  ·rcases U with ⟨D,K,-⟩ | ⟨-,rfl,rfl,rfl,rfl⟩
   ·exact absurd K (z _ _ _ D)
   ·exact y,hb⟩
 have C3:Hid (∀W,Below w.heap.size w W→Calls Tryz.prog 13 #[] W fun e w'=>e=.returned (.bool true)∧Below W.heap.size W w'):=fun W hW=>Ub W (HQ.out.below hW)
 clear hQ U o A
 go_enter Tryz.func4,Tryz.ntmps4
 go_wp2_with fail
 refine c1.mono ?_;clear c1;rintro e V ⟨rfl,J⟩;obtain ⟨w3,O,M,X,p3⟩:=y8 V (.cells #[.int .i64 a,.int .i64 b,.string (za s)] 24 (0,0));have G:Hid (w3.heap[V.heap.size]?=some (.cells #[.int .i64 a,.int .i64 b,.string (za s)] 24 (0,0))∧Below w.heap.size w w3∧w.heap.size≤V.heap.size):=⟨p3,yb J M,J.size⟩;have c2:=C2.out w3;have L:=O.symm;clear J C2 O M X p3;go_wp2_with fail
 refine c2.mono ?_;clear c2 L;rintro e w4 ⟨rfl,H⟩;obtain ⟨Y,N,I,Z,p5⟩:=y8 w4 (.cells #[.int .i64 a,.int .i64 b,.string (za s)] 24 (0,0));have q3:Y.heap[V.heap.size]?=some (.cells #[.int .i64 a,.int .i64 b,.string (za s)] 24 (0,0)):=(I.block _ (by have:=y7 G.out.1;have:=H.size;omega)).trans ((H.block _ (y7 G.out.1)).trans G.out.1)
 have T:Hid (Below w.heap.size w Y):=yb (yb G.out.2.1 H) I;have c3:=C3.out Y T.out;obtain ⟨a0,a1,a2,-⟩:=zw q3;obtain ⟨b0,b1,b2,-⟩:=zw p5;have R:=N.symm;clear H N I Z p5 q3 G C3;have ab:(s==s)=true:=beq_self_eq_true s;go_wp2_with fail
 refine c3.mono ?_;clear c3 a0 a1 a2 b0 b1 b2 R;rintro e w6 ⟨rfl,Q⟩;have aa:Hid (Below w.heap.size w w6):=yb T.out Q;clear Q;go_wp2
 exact bodyPost_ret (v:=.bool true) (by simp [results,Tryz.results4,go_sem]) rfl ⟨rfl,aa.out⟩
end Go.Proofs.YtmbofhpmockmbaaGreatDoor
