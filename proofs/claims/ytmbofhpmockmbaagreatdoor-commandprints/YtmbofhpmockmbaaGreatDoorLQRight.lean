import Derived.Test.YtmbofhpmockmbaaGreatDoorMC24
import Derived.Test.YtmbofhpmockmbaaGreatDoorMC1
import Derived.Test.YtmbofhpmockmbaaGreatDoorMC33
import Derived.Test.YtmbofhpmockmbaaGreatDoorMC48
namespace Go.Proofs.YtmbofhpmockmbaaGreatDoor
open Go.RowKit Go.Shelf
set_option maxHeartbeats 16000000
set_option maxRecDepth 100000
def QQ (X:List UInt8→Prop) (s:List UInt8):Prop:=s.length≤255∧X s
def yC (X:List UInt8→Prop) (k n:Int) (s:List UInt8):Prop :=
 YO k n s∧0≤n∧n≤4294967296∧(k=10→1≤n∧(s=[]∨QQ X s))∧(k=11∨k=17→QQ X s)∧(12≤k∧k≤14→1≤n)
theorem X4 (X:List UInt8→Prop) (k n:Int) (s:List UInt8):ZP X k n s↔yC X k n s:=by
 by_cases hk:k<1∨17<k
 ·refine ⟨fun h=>absurd (yU k hk) h.1,fun h=>?_⟩
  have:=h.1
  unfold YO at this
  exfalso
  rcases this with ⟨y,-⟩ | ⟨y,-⟩ | ⟨y,-⟩ | y <;> omega
 ·have o:∀k:Int,(ofKind k).2.2.1=false→(ofKind k).2.2.2.2.1=false→ofKind k≠yT→(1≤k∧k≤8∨k=15∨k=16)→(ZP X k n s↔yC X k n s):=by
   intro k a b c d
   unfold ZP yC YO
   rw [a,b];refine ⟨fun h=>⟨.inl ⟨d,h.2.1 rfl,h.2.2.1 rfl⟩,by rw [h.2.1 rfl];omega,by rw [h.2.1 rfl];omega,fun e=>by omega,fun e=>by omega,fun e=>by omega⟩,fun h=>?_⟩
   have A:n=0∧s=[]:=by
    rcases h.1 with y | ⟨y,-⟩ | ⟨y,-⟩ | y
    ·exact y.2
    ·omega
    ·omega
    ·omega
   exact ⟨c,fun _=>A.1,fun _=>A.2,fun e=>(by cases e),fun e=>(by cases e)⟩
  have D:∀k:Int,(ofKind k).2.2.1=true→(ofKind k).2.2.2.2.1=false→ofKind k≠yT→(k=9∧(ofKind k).2.2.2.1=0∨12≤k∧k≤14∧(ofKind k).2.2.2.1=1)→(ZP X k n s↔yC X k n s):=by
   intro k a b c d
   unfold ZP yC YO
   rw [a,b];refine ⟨fun h=>?_,fun h=>?_⟩
   ·have A:=h.2.2.2.1 rfl
    exact ⟨.inr (.inl ⟨by omega,h.2.2.1 rfl⟩),by omega,by omega,fun e=>by omega,fun e=>by omega,fun e=>by omega⟩
   ·have A:s=[]:=by
     rcases h.1 with ⟨y,-⟩ | y | ⟨y,-⟩ | y
     ·omega
     ·exact y.2
     ·omega
     ·omega
    have z:=h.2.2.2.2.2;have I:=h.2.1;have H:=h.2.2.1;exact ⟨c,fun e=>(by cases e),fun _=>A,fun _=>⟨by omega,H⟩,fun e=>(by cases e)⟩
  have E:∀k:Int,(ofKind k).2.2.1=false→(ofKind k).2.2.2.2.1=true→(ofKind k).2.2.2.2.2=[]→ofKind k≠yT→(k=11∨k=17)→(ZP X k n s↔yC X k n s):=by
   intro k a b m c d
   unfold ZP yC YO QQ
   rw [a,b,m];refine ⟨fun h=>?_,fun h=>?_⟩
   ·have A:=h.2.1 rfl
    have z:s.length≤255∧X s:=by
     rcases h.2.2.2.2 rfl with z | z
     ·exact absurd rfl z.2
     ·exact z
    exact ⟨.inr (.inr (.inl ⟨d,A⟩)),by omega,by omega,fun e=>by omega,fun _=>z,fun e=>by omega⟩
   ·have A:n=0:=by
     rcases h.1 with y | ⟨y,-⟩ | y | y
     ·exact y.2.1
     ·omega
     ·exact y.2
     ·omega
    exact ⟨c,fun _=>A,fun e=>(by cases e),fun e=>(by cases e),fun _=>.inr (h.2.2.2.2.1 d)⟩
  have G:ZP X 10 n s↔yC X 10 n s:=by
   unfold ZP yC YO QQ
   rw [k10];refine ⟨fun h=>?_,fun h=>?_⟩
   ·have A:=h.2.2.2.1 rfl
    refine ⟨.inr (.inr (.inr rfl)),by simp only at A;omega,A.2,fun _=>⟨A.1,?_⟩,fun e=>by omega,fun e=>by omega⟩
    rcases h.2.2.2.2 rfl with z | z
    ·exact .inl z.1
    ·exact .inr z
   ·obtain ⟨A,z⟩:=h.2.2.2.1 rfl
    refine ⟨by decide,fun e=>(by cases e),fun e=>(by cases e),fun _=>⟨A,h.2.2.1⟩,fun _=>?_⟩
    rcases z with z | z
    ·exact .inl ⟨z,by decide⟩
    ·exact .inr z
  exact Xv (P:=fun k=>(ZP X k n s↔yC X k n s))
   (o 1 (by decide) (by decide) (by decide) (by omega)) (o 2 (by decide) (by decide) (by decide) (by omega)) (o 3 (by decide) (by decide) (by decide) (by omega)) (o 4 (by decide) (by decide) (by decide) (by omega))
   (o 5 (by decide) (by decide) (by decide) (by omega)) (o 6 (by decide) (by decide) (by decide) (by omega)) (o 7 (by decide) (by decide) (by decide) (by omega)) (o 8 (by decide) (by decide) (by decide) (by omega))
   (D 9 (by decide) (by decide) (by decide) (by decide)) G (E 11 (by decide) (by decide) (by decide) (by decide) (by decide)) (D 12 (by decide) (by decide) (by decide) (by decide)) (D 13 (by decide) (by decide) (by decide) (by decide))
   (D 14 (by decide) (by decide) (by decide) (by decide)) (o 15 (by decide) (by decide) (by decide) (by omega)) (o 16 (by decide) (by decide) (by decide) (by omega)) (E 17 (by decide) (by decide) (by decide) (by decide) (by decide)) k (by omega) (by omega)
theorem VL (s:List UInt8) (w:World) :
  Calls Tryz.prog 55 #[.string (za s)] w fun e w'=>Ua e (QQ ZE s)∧Below w.heap.size w w':=by
 have E:=uC s w;have U:(za s).size=s.length:=rfl
 go_enter Tryz.func55,Tryz.ntmps55
 go_wp2_with fail
 refine E.mono ?_;clear E;rintro e K ⟨x,at0,y,v,rfl,G,-,D,A⟩;obtain ⟨L,Q,R,M,N,T,O,rfl⟩:=D.agg;have o:Hid (Below w.heap.size w K):=A;have H:Hid (ZE s↔y=0):=Vq G;clear G D A
 by_cases h0:y=0
 ·subst h0
  by_cases h1:s.length≤255
  ·have I:(s.length:Int)≤255:=by omega
   have z:Hid (QQ ZE s):=⟨h1,H.out.2 rfl⟩;clear h1;go_wp2
   go_ret
   exact ⟨⟨true,rfl,by simp [z.out]⟩,o.out.alloc o.out.size _⟩
  ·have J:Hid (decide ((s.length:Int)≤255)=false):=decide_eq_false (by omega)
   have z:Hid (¬ QQ ZE s):=fun h=>h1 h.1
   clear h1;go_wp2
   go_ret
   exact ⟨⟨false,by show Ending.returned (.bool (decide ((s.length:Int)≤255)))=_;rw [J.out],by simp [z.out]⟩,o.out.alloc o.out.size _⟩
 ·have I:¬ (y:Int)=0:=by omega
  have z:Hid (¬ QQ ZE s):=fun h=>h0 (H.out.1 h.2)
  clear h0;go_wp2
  go_ret
  exact ⟨⟨false,rfl,by simp [z.out]⟩,o.out.alloc o.out.size _⟩
theorem xi (k n:Int) (s:List UInt8) (w:World) :
  Calls Tryz.prog 28 #[yi k n s] w fun e w'=>Ua e (ZP ZE k n s)∧Below w.heap.size w w':=by
 obtain ⟨V,N,L,Y,p1⟩:=Yg w (.cells #[.int .i64 k,.int .i64 n,.string (za s)] 24 (0,0));have cf:=qk k n s V;obtain ⟨Q,R,U,-⟩:=zv p1;have Z:Hid (V.heap[w.heap.size]?=some (.cells #[.int .i64 k,.int .i64 n,.string (za s)] 24 (0,0))∧Below w.heap.size w V):=⟨p1,L⟩;have K:Hid (ZP ZE k n s↔yC ZE k n s):=X4 ZE k n s;have CW:Hid (∀W,Calls Tryz.prog 55 #[.string (za s)] W fun e w'=>Ua e (QQ ZE s)∧Below W.heap.size W w'):=fun W=>VL s W
 have J:=N.symm
 unfold yi at cf ⊢
 clear N L Y p1
 go_enter Tryz.func28,Tryz.ntmps28
 go_wp2_with fail
 refine cf.mono ?_;clear cf J Q R U;rintro e w2 ⟨⟨q,rfl,z⟩,E⟩;have o:Hid (Below w.heap.size w w2):=Z8 Z.out.2 E;obtain ⟨Q,R,U,-⟩:=zv ((E.block _ (Yf Z.out.1)).trans Z.out.1);have A:Hid (q=true↔YO k n s):=z;clear z E
 by_cases hbad:q=false∨n<0∨4294967296<n
 ·have O:Hid (¬ ZP ZE k n s):=fun h=>by
   have h:=K.out.1 h;rcases hbad with D | D | D
   ·have:=A.out.2 h.1
    rw [D] at this;cases this
   ·have:=h.2.1;omega
   ·have:=h.2.2.1;omega
  cases q with
  | false =>
   clear A;go_wp2
   go_ret
   exact ⟨⟨false,rfl,by simp [O.out]⟩,o.out⟩
  | true =>
   clear A
   by_cases hn:n<0
   ·go_wp2
    go_ret
    exact ⟨⟨false,rfl,by simp [O.out]⟩,o.out⟩
   ·have aa:4294967296<n:=by
     rcases hbad with D | D | D
     ·cases D
     ·omega
     ·exact D
    go_wp2
    go_ret
    exact ⟨⟨false,rfl,by simp [O.out]⟩,o.out⟩
 ·have z:q=true:=by cases q <;> simp_all
  subst z;have ai:¬ n<0:=by omega
  have af:¬ 4294967296<n:=by omega
  have T:Hid (YO k n s):=A.out.1 rfl;clear A hbad;have I:=CW.out w2
  by_cases h10:k=10
  ·subst h10
   have G:Hid (ZP ZE 10 n s↔1≤n∧(s=[]∨QQ ZE s)):=by
    show _↔_
    rw [K.out];exact ⟨fun h=>h.2.2.2.1 rfl,fun h=>⟨T.out,by omega,by omega,fun _=>h,fun e=>by omega,fun e=>by omega⟩⟩
   by_cases h1:1≤n
   ·cases s with
    | nil =>
     have HY:Hid (ZP ZE 10 n []):=G.out.2 ⟨h1,.inl rfl⟩;clear I;go_wp2
     go_ret
     exact ⟨⟨true,rfl,by simp [HY.out]⟩,o.out⟩
    | cons s0 ss =>
     go_wp2_with fail
     refine I.mono ?_;clear I;rintro e X ⟨⟨q,rfl,z⟩,y⟩;have H:Hid (Below w.heap.size w X):=Z8 o.out y
     have A:Hid (q=true↔ZP ZE 10 n (s0::ss)):=by
      show _↔_
      rw [z,G.out];exact ⟨fun h=>⟨h1,.inr h⟩,fun h=>h.2.resolve_left (by simp)⟩
     clear z y Q R U;have M:Hid (Ua (.returned (.bool q)) (ZP ZE 10 n (s0::ss))):=⟨q,rfl,A.out⟩;clear A;go_wp2
     go_ret
     exact ⟨M.out,H.out⟩
   ·have O:Hid (¬ ZP ZE 10 n s):=fun h=>h1 (G.out.1 h).1
    clear I;go_wp2
    go_ret
    exact ⟨⟨false,rfl,by simp [O.out]⟩,o.out⟩
  ·by_cases h11:k=11∨k=17
   ·have G:Hid (ZP ZE k n s↔QQ ZE s):=by
     show _↔_
     rw [K.out];exact ⟨fun h=>h.2.2.2.2.1 h11,fun h=>⟨T.out,by omega,by omega,fun e=>by omega,fun _=>h,fun e=>by omega⟩⟩
    rcases h11 with rfl | rfl <;>
     (go_wp2_with fail
      refine I.mono ?_;clear I;rintro e X ⟨⟨q,rfl,z⟩,y⟩;have H:Hid (Below w.heap.size w X):=Z8 o.out y;have M:Hid (Ua (.returned (.bool q)) (ZP ZE _ n s)):=⟨q,rfl,z.trans G.out.symm⟩;clear z y Q R U;go_wp2
      go_ret
      exact ⟨M.out,H.out⟩)
   ·clear I
    by_cases h12:12≤k∧k≤14
    ·have G:Hid (ZP ZE k n s↔1≤n):=by
      show _↔_
      rw [K.out];exact ⟨fun h=>h.2.2.2.2.2 h12,fun h=>⟨T.out,by omega,by omega,fun e=>by omega,fun e=>absurd e h11,fun _=>h⟩⟩
     have hk:k=12∨k=13∨k=14:=by omega
     have M:Hid (Ua (.returned (.bool (decide (1≤n)))) (ZP ZE k n s)):=⟨_,rfl,by rw [G.out];simp⟩
     rcases hk with rfl | rfl | rfl <;>
      (go_wp2
       go_ret
       exact ⟨M.out,o.out⟩)
    ·have HY:Hid (ZP ZE k n s):=K.out.2 ⟨T.out,by omega,by omega,fun e=>absurd e h10,fun e=>absurd e h11,fun e=>absurd e h12⟩
     have ag:¬ k=11:=fun e=>h11 (.inl e)
     have ad:¬ k=17:=fun e=>h11 (.inr e)
     have ah:¬ k=12:=by omega
     have ab:¬ k=13:=by omega
     have ae:¬ k=14:=by omega
     go_wp2
     go_ret
     exact ⟨⟨true,rfl,by simp [HY.out]⟩,o.out⟩
theorem vE (k n:Int) (s:List UInt8) (w:World) :
  Calls Tryz.prog 12 #[yi k n s] w fun e w'=>(ZP ZE k n s∧e=.returned (.int .i64 0)∨¬ ZP ZE k n s∧e=.returned (.int .i64 2))∧Below w.heap.size w w':=by
 obtain ⟨J,A,z,H,K⟩:=Yg w (.cells #[.int .i64 k,.int .i64 n,.string (za s)] 24 (0,0));have I:=xi k n s J;obtain ⟨L,Q,N,-⟩:=zv K;have G:Hid (Below w.heap.size w J):=z;have y:=A.symm
 unfold yi at I ⊢
 clear A z H K
 go_enter Tryz.func12,Tryz.ntmps12
 go_wp2_with fail
 refine I.mono ?_;clear I y L Q N;rintro e M ⟨⟨q,rfl,E⟩,o⟩;have D:Hid (Below w.heap.size w M):=Z8 G.out o;cases q with
 | true =>
  have O:Hid (ZP ZE k n s):=E.1 rfl;clear E o;go_wp2
  go_ret
  exact ⟨.inl ⟨O.out,rfl⟩,D.out⟩
 | false =>
  have R:Hid (¬ ZP ZE k n s):=fun h=>by have:=E.2 h;cases this
  clear E o;go_wp2
  go_ret
  exact ⟨.inr ⟨R.out,rfl⟩,D.out⟩
end Go.Proofs.YtmbofhpmockmbaaGreatDoor
