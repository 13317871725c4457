import Derived.Test.YtmbofhpmockmbaaGreatDoorMC4
import Derived.Test.YtmbofhpmockmbaaGreatDoorSExprX
import Derived.Test.YtmbofhpmockmbaaGreatDoorSConcE
import Derived.Test.YtmbofhpmockmbaaGreatDoorSSynT
namespace Go.Proofs.YtmbofhpmockmbaaGreatDoor
open Go.RowKit Go.Shelf
set_option maxHeartbeats 16000000
set_option maxRecDepth 100000
def ZN (s:List UInt8):Prop:=∃x at0,zS s x at0 0
theorem XY {l:List UInt8} {x:Ex} {at0 err:Nat} (h:zS l x at0 err):ZN l↔err=0:=by
 refine ⟨fun ⟨x',a',h'⟩=>(xW h h').2.2,fun e=>?_⟩
 subst e;exact ⟨x,at0,h⟩
def xq (r:Wq) (s:List UInt8):Prop:=r.2.2.2.2.1=true→(s=[]∧r.2.2.2.2.2≠[])∨(s.length≤255∧ZN s)
theorem Vd (r:Wq) (s:List UInt8) (w:World) (hS:yR w) :
  Calls Tryz.prog 33 #[wV r,.string (za s)] w fun e w'=>(∃q:Bool,e=.returned (.bool q)∧(q=true↔xq r s))∧Below w.heap.size w w':=by
 obtain ⟨a,b,c,d,f,g⟩:=r;have HS:Hid (yR w):=hS;obtain ⟨O,J,y,aa,U⟩:=yd w (.cells #[.int .i64 a,.string (za b),.bool c,.int .i64 d,.bool f,.string (za g)] 55 (0,0));have H:=V6 s O (hS.below y).1.1 (hS.below y).2.1 (hS.below y).2.2;obtain ⟨R,V,Q,W,T,S,-⟩:=zq U;have A:Hid (Below w.heap.size w O):=y;have E:=J.symm
 unfold wV
 simp only;clear hS y J U;cases f with
 | false =>
  have D:Hid (xq (a,b,c,d,false,g) s):=fun h=>by cases h
  clear H
  go_enter Tryz.func33,Tryz.ntmps33
  go_wp2
  go_ret
  exact ⟨⟨true,rfl,by simp [D.out]⟩,A.out⟩
 | true =>
  by_cases h0:s=[]
  ·subst h0
   by_cases h1:g=[]
   ·subst h1
    have D:Hid (xq (a,b,c,d,true,[]) []↔ZN []):=by show _↔_;simp [xq]
    go_enter Tryz.func33,Tryz.ntmps33
    go_wp2_with fail
    refine H.mono ?_;clear H R V Q W T S E;rintro e M ⟨x,L,G,v,rfl,I,K,o⟩;obtain ⟨a',Y,c',d0,d1,X,Z,rfl⟩:=K.agg;have z:Hid (Below w.heap.size w M):=Zs A.out o;have N:Hid (ZN []↔G=0):=XY I;clear I K o;go_wp2
    go_ret
    exact ⟨⟨_,rfl,by rw [D.out,N.out];simp⟩,z.out.alloc z.out.size _⟩
   ·obtain ⟨g0,gs,rfl⟩:=List.exists_cons_of_ne_nil h1
    have D:Hid (xq (a,b,c,d,true,g0::gs) []):=fun _=>.inl ⟨rfl,h1⟩
    clear H
    go_enter Tryz.func33,Tryz.ntmps33
    go_wp2
    go_ret
    exact ⟨⟨true,rfl,by simp [D.out]⟩,A.out⟩
  ·by_cases h1:255<s.length
   ·have D:Hid (¬ xq (a,b,c,d,true,g) s):=fun h=>by
     rcases h rfl with h | h
     ·exact h0 h.1
     ·omega
    have h2:(255:Int)<s.length:=by omega
    clear H
    go_enter Tryz.func33,Tryz.ntmps33
    go_wp2
    go_ret
    exact ⟨⟨false,rfl,by simp [D.out]⟩,A.out⟩
   ·have D:Hid (xq (a,b,c,d,true,g) s↔ZN s):=by
     show _↔_
     refine ⟨fun h=>?_,fun h _=>.inr ⟨by omega,h⟩⟩
     rcases h rfl with h | h
     ·exact absurd h.1 h0
     ·exact h.2
    have h2:¬ (255:Int)<s.length:=by omega
    go_enter Tryz.func33,Tryz.ntmps33
    go_wp2_with fail
    refine H.mono ?_;clear H R V Q W T S E;rintro e M ⟨x,L,G,v,rfl,I,K,o⟩;obtain ⟨a',Y,c',d0,d1,X,Z,rfl⟩:=K.agg;have z:Hid (Below w.heap.size w M):=Zs A.out o;have N:Hid (ZN s↔G=0):=XY I;clear I K o;go_wp2
    go_ret
    exact ⟨⟨_,rfl,by rw [D.out,N.out];simp⟩,z.out.alloc z.out.size _⟩
theorem Xx (k:Int) (h:ofKind k≠yg):(ofKind k).1=k∧(ofKind k).1≠0:=by
 by_cases hk:k<1∨17<k
 ·exact absurd (yh k hk) h
 ·have e:(ofKind k).1=k:=Yd (P:=fun k=>(ofKind k).1=k) (by decide) (by decide) (by decide) (by decide) (by decide) (by decide) (by decide) (by decide) (by decide) (by decide) (by decide) (by decide) (by decide) (by decide) (by decide) (by decide) (by decide) k (by omega) (by omega)
  exact ⟨e,by omega⟩
theorem Y2 (k n:Int) (s:List UInt8) (w:World) (hS:yR w) :
  Calls Tryz.prog 11 #[ZS k n s] w fun e w'=>(ZG ZN k n s∧e=.returned (.int .i64 0)∨¬ ZG ZN k n s∧e=.returned (.int .i64 2))∧Below w.heap.size w w':=by
 have HS:Hid (yR w):=hS;obtain ⟨w1,ag,x,ap,o⟩:=yd w (.cells #[.int .i64 k,.int .i64 n,.string (za s)] 24 (0,0));have cw:=Yg k w1;obtain ⟨L,U,Q,-⟩:=zp o;have HP:Hid (Below w.heap.size w w1∧w1.heap[w.heap.size]?=some (.cells #[.int .i64 k,.int .i64 n,.string (za s)] 24 (0,0))):=⟨x,o⟩;have aa:=ag.symm
 unfold ZS
 clear hS x ag o ap
 go_enter Tryz.func11,Tryz.ntmps11
 go_wp2_with fail
 refine cw.mono ?_;clear cw L U Q aa;rintro e Y ⟨rfl,z⟩;have G:Hid (ZG ZN k n s↔ofKind k≠yg∧((ofKind k).2.2.1=false→n=0)∧((ofKind k).2.2.2.2.1=false→s=[])∧((ofKind k).2.2.1=true→(ofKind k).2.2.2.1≤n∧n≤4294967296)∧xq (ofKind k) s):=Iff.rfl;have HO:Hid (ofKind k≠yg→(ofKind k).1=k∧(ofKind k).1≠0):=Xx k;have M:Hid (∀W,Calls Tryz.prog 31 #[wV (ofKind k),ZS k n s] W fun e w'=>e=.returned (.bool (decide (k=(ofKind k).1∧((ofKind k).2.2.1=false→n=0)∧((ofKind k).2.2.2.2.1=false→s=[]))))∧Below W.heap.size W w'):=fun W=>Xi _ k n s W
 have X:Hid (∀W,Calls Tryz.prog 32 #[wV (ofKind k),.int .i64 n] W fun e w'=>e=.returned (.bool (decide ((ofKind k).2.2.1=true→(ofKind k).2.2.2.1≤n∧n≤4294967296)))∧Below W.heap.size W w'):=fun W=>vV _ n W
 have C3:Hid (∀W,yR W→Calls Tryz.prog 33 #[wV (ofKind k),.string (za s)] W fun e w'=>(∃q:Bool,e=.returned (.bool q)∧(q=true↔xq (ofKind k) s))∧Below W.heap.size W w'):=fun W hW=>Vd _ s W hW
 generalize ofKind k=r at G HO M X C3 ⊢;obtain ⟨a,b,c,d,f,g⟩:=r
 unfold wV at M X C3
 unfold ZS at M
 unfold wV
 simp only at M X C3 G HO ⊢
 by_cases hr:(a,b,c,d,f,g)=yg
 ·have R:Hid (¬ ZG ZN k n s):=fun h=>(G.out.1 h).1 hr
  unfold yg at hr
  simp only [Prod.mk.injEq] at hr;obtain ⟨rfl,rfl,rfl,rfl,rfl,rfl⟩:=hr;obtain ⟨x,o⟩:=HP.out;have ae:Hid (Below w.heap.size w Y):=Zs x z;clear x o z M X C3 HO G;go_wp2
  go_ret
  exact ⟨.inr ⟨R.out,rfl⟩,ae.out.alloc ae.out.size _⟩
 ·have Z:=(HO.out hr).1
  have ha:=(HO.out hr).2;obtain ⟨w3,af,J,am,A⟩:=yd Y (.cells #[.int .i64 a,.string (za b),.bool c,.int .i64 d,.bool f,.string (za g)] 55 (0,0));obtain ⟨x,o⟩:=HP.out;have O:w3.heap[w.heap.size]?=some (.cells #[.int .i64 k,.int .i64 n,.string (za s)] 24 (0,0)):=((Zs z J).block _ (yq o)).trans o;have y:Below w.heap.size w w3:=Zs x (Zs z J);have an:Hid (Below w.heap.size w w3):=y;have au:Hid (yR w3):=HS.out.below y;have aq:Hid (w3.heap[w.heap.size]?=some (.cells #[.int .i64 k,.int .i64 n,.string (za s)] 24 (0,0))∧w3.heap[Y.heap.size]?=some (.cells #[.int .i64 a,.string (za b),.bool c,.int .i64 d,.bool f,.string (za g)] 55 (0,0))):=⟨O,A⟩;have ai:=af.symm;clear x af J am z o y HP;obtain ⟨L,U,Q,-⟩:=zp O;obtain ⟨r0,r1,r2,r3,r4,r5,-⟩:=zq A;clear O A;have ar:(a==0)=false:=by simpa using ha
  obtain ⟨pa,T⟩:∃p:Bool,p=decide (k=a∧(c=false→n=0)∧(f=false→s=[])):=⟨_,rfl⟩;obtain ⟨pn,N⟩:∃p:Bool,p=decide (c=true→d≤n∧n≤4294967296):=⟨_,rfl⟩;rw [←T] at M;rw [←N] at X;have H:Hid (pa=true↔(c=false→n=0)∧(f=false→s=[])):=by show _↔_;rw [T,decide_eq_true_eq];exact ⟨fun h=>h.2,fun h=>⟨Z.symm,h⟩⟩
  have ak:Hid (pn=true↔(c=true→d≤n∧n≤4294967296)):=by show _↔_;rw [N,decide_eq_true_eq]
  have cA:=M.out w3;clear T N Z;go_wp2_with fail
  refine cA.mono ?_;clear cA ai L U Q r0 r1 r2 r3 r4 r5;rintro e V ⟨rfl,E⟩;obtain ⟨o,A⟩:=aq.out;have I:V.heap[w.heap.size]?=_:=(E.block _ (yq o)).trans o;have K:V.heap[Y.heap.size]?=_:=(E.block _ (yq A)).trans A;have ao:Hid (V.heap[w.heap.size]?=some (.cells #[.int .i64 k,.int .i64 n,.string (za s)] 24 (0,0))∧V.heap[Y.heap.size]?=some (.cells #[.int .i64 a,.string (za b),.bool c,.int .i64 d,.bool f,.string (za g)] 55 (0,0))):=⟨I,K⟩;have al:Hid (Below w.heap.size w V):=Zs an.out E;obtain ⟨L,U,Q,-⟩:=zp I;obtain ⟨r0,r1,r2,r3,r4,r5,-⟩:=zq K;clear o A I K E;cases pa with
  | false =>
   have R:Hid (¬ ZG ZN k n s):=fun h=>by have:=H.out.2 ⟨(G.out.1 h).2.1,(G.out.1 h).2.2.1⟩;cases this
   go_wp2
   go_ret
   exact ⟨.inr ⟨R.out,rfl⟩,al.out⟩
  | true =>
   have cN:=X.out V;go_wp2_with fail
   refine cN.mono ?_;clear cN L U Q r0 r1 r2 r3 r4 r5;rintro e w5 ⟨rfl,D⟩;obtain ⟨o,A⟩:=ao.out;have ab:w5.heap[w.heap.size]?=_:=(D.block _ (yq o)).trans o;have aj:w5.heap[Y.heap.size]?=_:=(D.block _ (yq A)).trans A;have S:Hid (Below w.heap.size w w5):=Zs al.out D;obtain ⟨L,U,Q,-⟩:=zp ab;obtain ⟨r0,r1,r2,r3,r4,r5,-⟩:=zq aj;clear o A ab aj D;cases pn with
   | false =>
    have R:Hid (¬ ZG ZN k n s):=fun h=>by have:=ak.out.2 (G.out.1 h).2.2.2.1;cases this
    go_wp2
    go_ret
    exact ⟨.inr ⟨R.out,rfl⟩,S.out⟩
   | true =>
    have cS:=C3.out w5 (HS.out.below S.out);go_wp2_with fail
    refine cS.mono ?_;clear cS L U Q r0 r1 r2 r3 r4 r5;rintro e w6 ⟨⟨q,rfl,hq⟩,ah⟩;have ad:Hid (Below w.heap.size w w6):=Zs S.out ah
    have HQ:Hid (q=true↔ZG ZN k n s):=by
     show _↔_
     rw [hq,G.out];exact ⟨fun h=>⟨hr,(H.out.1 (by trivial)).1,(H.out.1 (by trivial)).2,ak.out.1 (by trivial),h⟩,fun h=>h.2.2.2.2⟩
    clear hq ah;cases q with
    | false =>
     have R:Hid (¬ ZG ZN k n s):=fun h=>by have:=HQ.out.2 h;cases this
     clear HQ;go_wp2
     go_ret
     exact ⟨.inr ⟨R.out,rfl⟩,ad.out⟩
    | true =>
     have HY:Hid (ZG ZN k n s):=HQ.out.1 rfl;clear HQ;go_wp2
     go_ret
     exact ⟨.inl ⟨HY.out,rfl⟩,ad.out⟩
end Go.Proofs.YtmbofhpmockmbaaGreatDoor
