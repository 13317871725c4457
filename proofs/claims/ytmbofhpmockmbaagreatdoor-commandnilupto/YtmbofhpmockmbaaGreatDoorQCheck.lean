import Derived.Test.YtmbofhpmockmbaaGreatDoorMC4
import Derived.Test.YtmbofhpmockmbaaGreatDoorSExprX
import Derived.Test.YtmbofhpmockmbaaGreatDoorSConcE
import Derived.Test.YtmbofhpmockmbaaGreatDoorSSynT
namespace Go.Proofs.YtmbofhpmockmbaaGreatDoor
open Go.RowKit Go.Shelf
set_option maxHeartbeats 16000000
set_option maxRecDepth 100000
def yi (s:List UInt8):Prop:=∃x at0,zV s x at0 0
theorem vR {l:List UInt8} {x:Ex} {at0 err:Nat} (h:zV l x at0 err):yi l↔err=0:=by
 refine ⟨fun ⟨x',a',h'⟩=>(XJ h h').2.2,fun e=>?_⟩
 subst e;exact ⟨x,at0,h⟩
def x8 (r:Wq) (s:List UInt8):Prop:=r.2.2.2.2.1=true→(s=[]∧r.2.2.2.2.2≠[])∨(s.length≤255∧yi s)
theorem uj (r:Wq) (s:List UInt8) (w:World) (hS:y8 w) :
  Calls Tryz.prog 33 #[wV r,.string (za s)] w fun e w'=>(∃q:Bool,e=.returned (.bool q)∧(q=true↔x8 r s))∧Below w.heap.size w w':=by
 obtain ⟨a,b,c,d,f,g⟩:=r;have HS:Hid (y8 w):=hS;obtain ⟨T,I,y,aa,U⟩:=yd w (.cells #[.int .i64 a,.string (za b),.bool c,.int .i64 d,.bool f,.string (za g)] 55 (0,0));have H:=Uv s T (hS.below y).1.1 (hS.below y).2.1 (hS.below y).2.2;obtain ⟨S,Q,R,O,W,V,-⟩:=zr U;have o:Hid (Below w.heap.size w T):=y;have E:=I.symm
 unfold wV
 simp only;clear hS y I U;cases f with
 | false =>
  have D:Hid (x8 (a,b,c,d,false,g) s):=fun h=>by cases h
  clear H
  go_enter Tryz.func33,Tryz.ntmps33
  go_wp2
  go_ret
  exact ⟨⟨true,rfl,by simp [D.out]⟩,o.out⟩
 | true =>
  by_cases h0:s=[]
  ·subst h0
   by_cases h1:g=[]
   ·subst h1
    have D:Hid (x8 (a,b,c,d,true,[]) []↔yi []):=by show _↔_;simp [x8]
    go_enter Tryz.func33,Tryz.ntmps33
    go_wp2_with fail
    refine H.mono ?_;clear H S Q R O W V E;rintro e M ⟨x,L,G,v,rfl,J,K,A⟩;obtain ⟨Y,b',c',X,d1,Z,k',rfl⟩:=K.agg;have z:Hid (Below w.heap.size w M):=ZC o.out A;have N:Hid (yi []↔G=0):=vR J;clear J K A;go_wp2
    go_ret
    exact ⟨⟨_,rfl,by rw [D.out,N.out];simp⟩,z.out.alloc z.out.size _⟩
   ·obtain ⟨g0,gs,rfl⟩:=List.exists_cons_of_ne_nil h1
    have D:Hid (x8 (a,b,c,d,true,g0::gs) []):=fun _=>.inl ⟨rfl,h1⟩
    clear H
    go_enter Tryz.func33,Tryz.ntmps33
    go_wp2
    go_ret
    exact ⟨⟨true,rfl,by simp [D.out]⟩,o.out⟩
  ·by_cases h1:255<s.length
   ·have D:Hid (¬ x8 (a,b,c,d,true,g) s):=fun h=>by
     rcases h rfl with h | h
     ·exact h0 h.1
     ·omega
    have h2:(255:Int)<s.length:=by omega
    clear H
    go_enter Tryz.func33,Tryz.ntmps33
    go_wp2
    go_ret
    exact ⟨⟨false,rfl,by simp [D.out]⟩,o.out⟩
   ·have D:Hid (x8 (a,b,c,d,true,g) s↔yi s):=by
     show _↔_
     refine ⟨fun h=>?_,fun h _=>.inr ⟨by omega,h⟩⟩
     rcases h rfl with h | h
     ·exact absurd h.1 h0
     ·exact h.2
    have h2:¬ (255:Int)<s.length:=by omega
    go_enter Tryz.func33,Tryz.ntmps33
    go_wp2_with fail
    refine H.mono ?_;clear H S Q R O W V E;rintro e M ⟨x,L,G,v,rfl,J,K,A⟩;obtain ⟨Y,b',c',X,d1,Z,k',rfl⟩:=K.agg;have z:Hid (Below w.heap.size w M):=ZC o.out A;have N:Hid (yi s↔G=0):=vR J;clear J K A;go_wp2
    go_ret
    exact ⟨⟨_,rfl,by rw [D.out,N.out];simp⟩,z.out.alloc z.out.size _⟩
theorem vj (k:Int) (h:ofKind k≠yy):(ofKind k).1=k∧(ofKind k).1≠0:=by
 by_cases hk:k<1∨17<k
 ·exact absurd (Yf k hk) h
 ·have e:(ofKind k).1=k:=Xr (P:=fun k=>(ofKind k).1=k) (by decide) (by decide) (by decide) (by decide) (by decide) (by decide) (by decide) (by decide) (by decide) (by decide) (by decide) (by decide) (by decide) (by decide) (by decide) (by decide) (by decide) k (by omega) (by omega)
  exact ⟨e,by omega⟩
theorem Vx (k n:Int) (s:List UInt8) (w:World) (hS:y8 w) :
  Calls Tryz.prog 11 #[ZJ k n s] w fun e w'=>(yw yi k n s∧e=.returned (.int .i64 0)∨¬ yw yi k n s∧e=.returned (.int .i64 2))∧Below w.heap.size w w':=by
 have HS:Hid (y8 w):=hS;obtain ⟨w1,af,o,ap,y⟩:=yd w (.cells #[.int .i64 k,.int .i64 n,.string (za s)] 24 (0,0));have cw:=YF k w1;obtain ⟨K,O,R,-⟩:=zl y;have HP:Hid (Below w.heap.size w w1∧w1.heap[w.heap.size]?=some (.cells #[.int .i64 k,.int .i64 n,.string (za s)] 24 (0,0))):=⟨o,y⟩;have ah:=af.symm
 unfold ZJ
 clear hS o af y ap
 go_enter Tryz.func11,Tryz.ntmps11
 go_wp2_with fail
 refine cw.mono ?_;clear cw K O R ah;rintro e X ⟨rfl,A⟩;have H:Hid (yw yi k n s↔ofKind k≠yy∧((ofKind k).2.2.1=false→n=0)∧((ofKind k).2.2.2.2.1=false→s=[])∧((ofKind k).2.2.1=true→(ofKind k).2.2.2.1≤n∧n≤4294967296)∧x8 (ofKind k) s):=Iff.rfl;have HO:Hid (ofKind k≠yy→(ofKind k).1=k∧(ofKind k).1≠0):=vj k;have V:Hid (∀W,Calls Tryz.prog 31 #[wV (ofKind k),ZJ k n s] W fun e w'=>e=.returned (.bool (decide (k=(ofKind k).1∧((ofKind k).2.2.1=false→n=0)∧((ofKind k).2.2.2.2.1=false→s=[]))))∧Below W.heap.size W w'):=fun W=>X0 _ k n s W
 have Z:Hid (∀W,Calls Tryz.prog 32 #[wV (ofKind k),.int .i64 n] W fun e w'=>e=.returned (.bool (decide ((ofKind k).2.2.1=true→(ofKind k).2.2.2.1≤n∧n≤4294967296)))∧Below W.heap.size W w'):=fun W=>V7 _ n W
 have C3:Hid (∀W,y8 W→Calls Tryz.prog 33 #[wV (ofKind k),.string (za s)] W fun e w'=>(∃q:Bool,e=.returned (.bool q)∧(q=true↔x8 (ofKind k) s))∧Below W.heap.size W w'):=fun W hW=>uj _ s W hW
 generalize ofKind k=r at H HO V Z C3 ⊢;obtain ⟨a,b,c,d,f,g⟩:=r
 unfold wV at V Z C3
 unfold ZJ at V
 unfold wV
 simp only at V Z C3 H HO ⊢
 by_cases hr:(a,b,c,d,f,g)=yy
 ·have J:Hid (¬ yw yi k n s):=fun h=>(H.out.1 h).1 hr
  unfold yy at hr
  simp only [Prod.mk.injEq] at hr;obtain ⟨rfl,rfl,rfl,rfl,rfl,rfl⟩:=hr;obtain ⟨o,y⟩:=HP.out;have am:Hid (Below w.heap.size w X):=ZC o A;clear o y A V Z C3 HO H;go_wp2
  go_ret
  exact ⟨.inr ⟨J.out,rfl⟩,am.out.alloc am.out.size _⟩
 ·have ai:=(HO.out hr).1
  have ha:=(HO.out hr).2;obtain ⟨w3,ag,U,ao,D⟩:=yd X (.cells #[.int .i64 a,.string (za b),.bool c,.int .i64 d,.bool f,.string (za g)] 55 (0,0));obtain ⟨o,y⟩:=HP.out;have N:w3.heap[w.heap.size]?=some (.cells #[.int .i64 k,.int .i64 n,.string (za s)] 24 (0,0)):=((ZC A U).block _ (yj y)).trans y;have z:Below w.heap.size w w3:=ZC o (ZC A U);have aq:Hid (Below w.heap.size w w3):=z;have av:Hid (y8 w3):=HS.out.below z;have an:Hid (w3.heap[w.heap.size]?=some (.cells #[.int .i64 k,.int .i64 n,.string (za s)] 24 (0,0))∧w3.heap[X.heap.size]?=some (.cells #[.int .i64 a,.string (za b),.bool c,.int .i64 d,.bool f,.string (za g)] 55 (0,0))):=⟨N,D⟩;have ae:=ag.symm;clear o ag U ao A y z HP;obtain ⟨K,O,R,-⟩:=zl N;obtain ⟨r0,r1,r2,r3,r4,r5,-⟩:=zr D;clear N D;have au:(a==0)=false:=by simpa using ha
  obtain ⟨pa,T⟩:∃p:Bool,p=decide (k=a∧(c=false→n=0)∧(f=false→s=[])):=⟨_,rfl⟩;obtain ⟨pn,L⟩:∃p:Bool,p=decide (c=true→d≤n∧n≤4294967296):=⟨_,rfl⟩;rw [←T] at V;rw [←L] at Z;have M:Hid (pa=true↔(c=false→n=0)∧(f=false→s=[])):=by show _↔_;rw [T,decide_eq_true_eq];exact ⟨fun h=>h.2,fun h=>⟨ai.symm,h⟩⟩
  have ab:Hid (pn=true↔(c=true→d≤n∧n≤4294967296)):=by show _↔_;rw [L,decide_eq_true_eq]
  have cA:=V.out w3;clear T L ai;go_wp2_with fail
  refine cA.mono ?_;clear cA ae K O R r0 r1 r2 r3 r4 r5;rintro e Y ⟨rfl,G⟩;obtain ⟨y,D⟩:=an.out;have S:Y.heap[w.heap.size]?=_:=(G.block _ (yj y)).trans y;have Q:Y.heap[X.heap.size]?=_:=(G.block _ (yj D)).trans D;have ar:Hid (Y.heap[w.heap.size]?=some (.cells #[.int .i64 k,.int .i64 n,.string (za s)] 24 (0,0))∧Y.heap[X.heap.size]?=some (.cells #[.int .i64 a,.string (za b),.bool c,.int .i64 d,.bool f,.string (za g)] 55 (0,0))):=⟨S,Q⟩;have ak:Hid (Below w.heap.size w Y):=ZC aq.out G;obtain ⟨K,O,R,-⟩:=zl S;obtain ⟨r0,r1,r2,r3,r4,r5,-⟩:=zr Q;clear y D S Q G;cases pa with
  | false =>
   have J:Hid (¬ yw yi k n s):=fun h=>by have:=M.out.2 ⟨(H.out.1 h).2.1,(H.out.1 h).2.2.1⟩;cases this
   go_wp2
   go_ret
   exact ⟨.inr ⟨J.out,rfl⟩,ak.out⟩
  | true =>
   have cN:=Z.out Y;go_wp2_with fail
   refine cN.mono ?_;clear cN K O R r0 r1 r2 r3 r4 r5;rintro e w5 ⟨rfl,E⟩;obtain ⟨y,D⟩:=ar.out;have ad:w5.heap[w.heap.size]?=_:=(E.block _ (yj y)).trans y;have al:w5.heap[X.heap.size]?=_:=(E.block _ (yj D)).trans D;have I:Hid (Below w.heap.size w w5):=ZC ak.out E;obtain ⟨K,O,R,-⟩:=zl ad;obtain ⟨r0,r1,r2,r3,r4,r5,-⟩:=zr al;clear y D ad al E;cases pn with
   | false =>
    have J:Hid (¬ yw yi k n s):=fun h=>by have:=ab.out.2 (H.out.1 h).2.2.2.1;cases this
    go_wp2
    go_ret
    exact ⟨.inr ⟨J.out,rfl⟩,I.out⟩
   | true =>
    have cS:=C3.out w5 (HS.out.below I.out);go_wp2_with fail
    refine cS.mono ?_;clear cS K O R r0 r1 r2 r3 r4 r5;rintro e w6 ⟨⟨q,rfl,hq⟩,aa⟩;have aj:Hid (Below w.heap.size w w6):=ZC I.out aa
    have HQ:Hid (q=true↔yw yi k n s):=by
     show _↔_
     rw [hq,H.out];exact ⟨fun h=>⟨hr,(M.out.1 (by trivial)).1,(M.out.1 (by trivial)).2,ab.out.1 (by trivial),h⟩,fun h=>h.2.2.2.2⟩
    clear hq aa;cases q with
    | false =>
     have J:Hid (¬ yw yi k n s):=fun h=>by have:=HQ.out.2 h;cases this
     clear HQ;go_wp2
     go_ret
     exact ⟨.inr ⟨J.out,rfl⟩,aj.out⟩
    | true =>
     have HY:Hid (yw yi k n s):=HQ.out.1 rfl;clear HQ;go_wp2
     go_ret
     exact ⟨.inl ⟨HY.out,rfl⟩,aj.out⟩
end Go.Proofs.YtmbofhpmockmbaaGreatDoor
