import Derived.Test.YtmbofhpmockmbaaGreatDoorMC4
import Derived.Test.YtmbofhpmockmbaaGreatDoorSExprX
import Derived.Test.YtmbofhpmockmbaaGreatDoorSConcE
import Derived.Test.YtmbofhpmockmbaaGreatDoorSSynT
namespace Go.Proofs.YtmbofhpmockmbaaGreatDoor
open Go.RowKit Go.Shelf
set_option maxHeartbeats 16000000
set_option maxRecDepth 100000
def ZN (s:List UInt8):Prop:=∃x at0,zS s x at0 0
theorem XY {l:List UInt8} {x:Ex} {at0 err:Nat} (h:zS l x at0 err):ZN l↔err=0:=by
 refine ⟨fun ⟨x',a',h'⟩=>(xW h h').2.2,fun e=>?_⟩
 subst e;exact ⟨x,at0,h⟩
def xq (r:Wq) (s:List UInt8):Prop:=r.2.2.2.2.1=true→(s=[]∧r.2.2.2.2.2≠[])∨(s.length≤255∧ZN s)
theorem Vd (r:Wq) (s:List UInt8) (w:World) (hS:yR w) :
  Calls Tryz.prog 33 #[wV r,.string (za s)] w fun e w'=>(∃q:Bool,e=.returned (.bool q)∧(q=true↔xq r s))∧Below w.heap.size w w':=by
 obtain ⟨a,b,c,d,f,g⟩:=r;have HS:Hid (yR w):=hS;obtain ⟨O,J,y,Y,R⟩:=yd w (.cells #[.int .i64 a,.string (za b),.bool c,.int .i64 d,.bool f,.string (za g)] 55 (0,0));have G:=V6 s O (hS.below y).1.1 (hS.below y).2.1 (hS.below y).2.2;obtain ⟨T,S,U,Q,W,V,-⟩:=zq R;have z:Hid (Below w.heap.size w O):=y;have E:=J.symm
 unfold wV
 simp only;clear hS y J R;cases f with
 | false =>
  have D:Hid (xq (a,b,c,d,false,g) s):=fun h=>by cases h
  clear G
  go_enter Tryz.func33,Tryz.ntmps33
  go_wp2
  go_ret
  exact ⟨⟨true,rfl,by simp [D.out]⟩,z.out⟩
 | true =>
  by_cases h0:s=[]
  ·subst h0
   by_cases h1:g=[]
   ·subst h1
    have D:Hid (xq (a,b,c,d,true,[]) []↔ZN []):=by show _↔_;simp [xq]
    go_enter Tryz.func33,Tryz.ntmps33
    go_wp2_with fail
    refine G.mono ?_;clear G T S U Q W V E;rintro e N ⟨x,L,H,v,rfl,I,K,o⟩;obtain ⟨a',b',c',d0,d1,d2,X,rfl⟩:=K.agg;have A:Hid (Below w.heap.size w N):=Zs z.out o;have M:Hid (ZN []↔H=0):=XY I;clear I K o;go_wp2
    go_ret
    exact ⟨⟨_,rfl,by rw [D.out,M.out];simp⟩,A.out.alloc A.out.size _⟩
   ·obtain ⟨Z,gs,rfl⟩:=List.exists_cons_of_ne_nil h1
    have D:Hid (xq (a,b,c,d,true,Z::gs) []):=fun _=>.inl ⟨rfl,h1⟩
    clear G
    go_enter Tryz.func33,Tryz.ntmps33
    go_wp2
    go_ret
    exact ⟨⟨true,rfl,by simp [D.out]⟩,z.out⟩
  ·by_cases h1:255<s.length
   ·have D:Hid (¬ xq (a,b,c,d,true,g) s):=fun h=>by
     rcases h rfl with h | h
     ·exact h0 h.1
     ·omega
    have h2:(255:Int)<s.length:=by omega
    clear G
    go_enter Tryz.func33,Tryz.ntmps33
    go_wp2
    go_ret
    exact ⟨⟨false,rfl,by simp [D.out]⟩,z.out⟩
   ·have D:Hid (xq (a,b,c,d,true,g) s↔ZN s):=by
     show _↔_
     refine ⟨fun h=>?_,fun h _=>.inr ⟨by omega,h⟩⟩
     rcases h rfl with h | h
     ·exact absurd h.1 h0
     ·exact h.2
    have h2:¬ (255:Int)<s.length:=by omega
    go_enter Tryz.func33,Tryz.ntmps33
    go_wp2_with fail
    refine G.mono ?_;clear G T S U Q W V E;rintro e N ⟨x,L,H,v,rfl,I,K,o⟩;obtain ⟨a',b',c',d0,d1,d2,X,rfl⟩:=K.agg;have A:Hid (Below w.heap.size w N):=Zs z.out o;have M:Hid (ZN s↔H=0):=XY I;clear I K o;go_wp2
    go_ret
    exact ⟨⟨_,rfl,by rw [D.out,M.out];simp⟩,A.out.alloc A.out.size _⟩
theorem Xx (k:Int) (h:ofKind k≠yg):(ofKind k).1=k∧(ofKind k).1≠0:=by
 by_cases hk:k<1∨17<k
 ·exact absurd (yh k hk) h
 ·have e:(ofKind k).1=k:=Yd (P:=fun k=>(ofKind k).1=k) (by decide) (by decide) (by decide) (by decide) (by decide) (by decide) (by decide) (by decide) (by decide) (by decide) (by decide) (by decide) (by decide) (by decide) (by decide) (by decide) (by decide) k (by omega) (by omega)
  exact ⟨e,by omega⟩
theorem Y2 (k n:Int) (s:List UInt8) (w:World) (hS:yR w) :
  Calls Tryz.prog 11 #[ZS k n s] w fun e w'=>(ZG ZN k n s∧e=.returned (.int .i64 0)∨¬ ZG ZN k n s∧e=.returned (.int .i64 2))∧Below w.heap.size w w':=by
 have HS:Hid (yR w):=hS;obtain ⟨w1,ag,x,an,o⟩:=yd w (.cells #[.int .i64 k,.int .i64 n,.string (za s)] 24 (0,0));have cw:=Yg k w1;obtain ⟨J,I,K,-⟩:=zp o;have HP:Hid (Below w.heap.size w w1∧w1.heap[w.heap.size]?=some (.cells #[.int .i64 k,.int .i64 n,.string (za s)] 24 (0,0))):=⟨x,o⟩;have am:=ag.symm
 unfold ZS
 clear hS x ag o an
 go_enter Tryz.func11,Tryz.ntmps11
 go_wp2_with fail
 refine cw.mono ?_;clear cw J I K am;rintro e X ⟨rfl,y⟩;have G:Hid (ZG ZN k n s↔ofKind k≠yg∧((ofKind k).2.2.1=false→n=0)∧((ofKind k).2.2.2.2.1=false→s=[])∧((ofKind k).2.2.1=true→(ofKind k).2.2.2.1≤n∧n≤4294967296)∧xq (ofKind k) s):=Iff.rfl;have HO:Hid (ofKind k≠yg→(ofKind k).1=k∧(ofKind k).1≠0):=Xx k;have Q:Hid (∀W,Calls Tryz.prog 31 #[wV (ofKind k),ZS k n s] W fun e w'=>e=.returned (.bool (decide (k=(ofKind k).1∧((ofKind k).2.2.1=false→n=0)∧((ofKind k).2.2.2.2.1=false→s=[]))))∧Below W.heap.size W w'):=fun W=>Xi _ k n s W
 have Y:Hid (∀W,Calls Tryz.prog 32 #[wV (ofKind k),.int .i64 n] W fun e w'=>e=.returned (.bool (decide ((ofKind k).2.2.1=true→(ofKind k).2.2.2.1≤n∧n≤4294967296)))∧Below W.heap.size W w'):=fun W=>vV _ n W
 have Z:Hid (∀W,yR W→Calls Tryz.prog 33 #[wV (ofKind k),.string (za s)] W fun e w'=>(∃q:Bool,e=.returned (.bool q)∧(q=true↔xq (ofKind k) s))∧Below W.heap.size W w'):=fun W hW=>Vd _ s W hW
 generalize ofKind k=r at G HO Q Y Z ⊢;obtain ⟨a,b,c,d,f,g⟩:=r
 unfold wV at Q Y Z
 unfold ZS at Q
 unfold wV
 simp only at Q Y Z G HO ⊢
 by_cases hr:(a,b,c,d,f,g)=yg
 ·have U:Hid (¬ ZG ZN k n s):=fun h=>(G.out.1 h).1 hr
  unfold yg at hr
  simp only [Prod.mk.injEq] at hr;obtain ⟨rfl,rfl,rfl,rfl,rfl,rfl⟩:=hr;obtain ⟨x,o⟩:=HP.out;have ah:Hid (Below w.heap.size w X):=Zs x y;clear x o y Q Y Z HO G;go_wp2
  go_ret
  exact ⟨.inr ⟨U.out,rfl⟩,ah.out.alloc ah.out.size _⟩
 ·have ad:=(HO.out hr).1
  have ha:=(HO.out hr).2;obtain ⟨w3,aa,T,ao,z⟩:=yd X (.cells #[.int .i64 a,.string (za b),.bool c,.int .i64 d,.bool f,.string (za g)] 55 (0,0));obtain ⟨x,o⟩:=HP.out;have S:w3.heap[w.heap.size]?=some (.cells #[.int .i64 k,.int .i64 n,.string (za s)] 24 (0,0)):=((Zs y T).block _ (yq o)).trans o;have A:Below w.heap.size w w3:=Zs x (Zs y T);have aq:Hid (Below w.heap.size w w3):=A;have av:Hid (yR w3):=HS.out.below A;have ap:Hid (w3.heap[w.heap.size]?=some (.cells #[.int .i64 k,.int .i64 n,.string (za s)] 24 (0,0))∧w3.heap[X.heap.size]?=some (.cells #[.int .i64 a,.string (za b),.bool c,.int .i64 d,.bool f,.string (za g)] 55 (0,0))):=⟨S,z⟩;have aj:=aa.symm;clear x aa T ao y o A HP;obtain ⟨J,I,K,-⟩:=zp S;obtain ⟨r0,r1,r2,r3,r4,r5,-⟩:=zq z;clear S z;have au:(a==0)=false:=by simpa using ha
  obtain ⟨pa,N⟩:∃p:Bool,p=decide (k=a∧(c=false→n=0)∧(f=false→s=[])):=⟨_,rfl⟩;obtain ⟨pn,L⟩:∃p:Bool,p=decide (c=true→d≤n∧n≤4294967296):=⟨_,rfl⟩;rw [←N] at Q;rw [←L] at Y;have O:Hid (pa=true↔(c=false→n=0)∧(f=false→s=[])):=by show _↔_;rw [N,decide_eq_true_eq];exact ⟨fun h=>h.2,fun h=>⟨ad.symm,h⟩⟩
  have al:Hid (pn=true↔(c=true→d≤n∧n≤4294967296)):=by show _↔_;rw [L,decide_eq_true_eq]
  have cA:=Q.out w3;clear N L ad;go_wp2_with fail
  refine cA.mono ?_;clear cA aj J I K r0 r1 r2 r3 r4 r5;rintro e V ⟨rfl,E⟩;obtain ⟨o,z⟩:=ap.out;have M:V.heap[w.heap.size]?=_:=(E.block _ (yq o)).trans o;have H:V.heap[X.heap.size]?=_:=(E.block _ (yq z)).trans z;have ar:Hid (V.heap[w.heap.size]?=some (.cells #[.int .i64 k,.int .i64 n,.string (za s)] 24 (0,0))∧V.heap[X.heap.size]?=some (.cells #[.int .i64 a,.string (za b),.bool c,.int .i64 d,.bool f,.string (za g)] 55 (0,0))):=⟨M,H⟩;have ai:Hid (Below w.heap.size w V):=Zs aq.out E;obtain ⟨J,I,K,-⟩:=zp M;obtain ⟨r0,r1,r2,r3,r4,r5,-⟩:=zq H;clear o z M H E;cases pa with
  | false =>
   have U:Hid (¬ ZG ZN k n s):=fun h=>by have:=O.out.2 ⟨(G.out.1 h).2.1,(G.out.1 h).2.2.1⟩;cases this
   go_wp2
   go_ret
   exact ⟨.inr ⟨U.out,rfl⟩,ai.out⟩
  | true =>
   have cN:=Y.out V;go_wp2_with fail
   refine cN.mono ?_;clear cN J I K r0 r1 r2 r3 r4 r5;rintro e w5 ⟨rfl,D⟩;obtain ⟨o,z⟩:=ar.out;have af:w5.heap[w.heap.size]?=_:=(D.block _ (yq o)).trans o;have ae:w5.heap[X.heap.size]?=_:=(D.block _ (yq z)).trans z;have R:Hid (Below w.heap.size w w5):=Zs ai.out D;obtain ⟨J,I,K,-⟩:=zp af;obtain ⟨r0,r1,r2,r3,r4,r5,-⟩:=zq ae;clear o z af ae D;cases pn with
   | false =>
    have U:Hid (¬ ZG ZN k n s):=fun h=>by have:=al.out.2 (G.out.1 h).2.2.2.1;cases this
    go_wp2
    go_ret
    exact ⟨.inr ⟨U.out,rfl⟩,R.out⟩
   | true =>
    have cS:=Z.out w5 (HS.out.below R.out);go_wp2_with fail
    refine cS.mono ?_;clear cS J I K r0 r1 r2 r3 r4 r5;rintro e w6 ⟨⟨q,rfl,hq⟩,ak⟩;have ab:Hid (Below w.heap.size w w6):=Zs R.out ak
    have HQ:Hid (q=true↔ZG ZN k n s):=by
     show _↔_
     rw [hq,G.out];exact ⟨fun h=>⟨hr,(O.out.1 (by trivial)).1,(O.out.1 (by trivial)).2,al.out.1 (by trivial),h⟩,fun h=>h.2.2.2.2⟩
    clear hq ak;cases q with
    | false =>
     have U:Hid (¬ ZG ZN k n s):=fun h=>by have:=HQ.out.2 h;cases this
     clear HQ;go_wp2
     go_ret
     exact ⟨.inr ⟨U.out,rfl⟩,ab.out⟩
    | true =>
     have HY:Hid (ZG ZN k n s):=HQ.out.1 rfl;clear HQ;go_wp2
     go_ret
     exact ⟨.inl ⟨HY.out,rfl⟩,ab.out⟩
end Go.Proofs.YtmbofhpmockmbaaGreatDoor
