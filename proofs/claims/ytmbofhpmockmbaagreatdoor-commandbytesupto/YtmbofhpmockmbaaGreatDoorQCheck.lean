import Derived.Test.YtmbofhpmockmbaaGreatDoorMC4
import Derived.Test.YtmbofhpmockmbaaGreatDoorSExprX
import Derived.Test.YtmbofhpmockmbaaGreatDoorSConcE
import Derived.Test.YtmbofhpmockmbaaGreatDoorSSynT
namespace Go.Proofs.YtmbofhpmockmbaaGreatDoor
open Go.RowKit Go.Shelf
set_option maxHeartbeats 16000000
set_option maxRecDepth 100000
def yt (s:List UInt8):Prop:=∃x at0,zY s x at0 0
theorem Vo {l:List UInt8} {x:Ex} {at0 err:Nat} (h:zY l x at0 err):yt l↔err=0:=by
 refine ⟨fun ⟨x',a',h'⟩=>(X4 h h').2.2,fun e=>?_⟩
 subst e;exact ⟨x,at0,h⟩
def Xn (r:Wq) (s:List UInt8):Prop:=r.2.2.2.2.1=true→(s=[]∧r.2.2.2.2.2≠[])∨(s.length≤255∧yt s)
theorem uL (r:Wq) (s:List UInt8) (w:World) (hS:Yq w) :
  Calls Tryz.prog 33 #[wV r,.string (za s)] w fun e w'=>(∃q:Bool,e=.returned (.bool q)∧(q=true↔Xn r s))∧Below w.heap.size w w':=by
 obtain ⟨a,b,c,d,f,g⟩:=r;have HS:Hid (Yq w):=hS;obtain ⟨R,I,o,aa,W⟩:=yn w (.cells #[.int .i64 a,.string (za b),.bool c,.int .i64 d,.bool f,.string (za g)] 55 (0,0));have H:=U0 s R (hS.below o).1.1 (hS.below o).2.1 (hS.below o).2.2;obtain ⟨T,U,V,O,Q,X,-⟩:=zr W;have y:Hid (Below w.heap.size w R):=o;have E:=I.symm
 unfold wV
 simp only;clear hS o I W;cases f with
 | false =>
  have D:Hid (Xn (a,b,c,d,false,g) s):=fun h=>by cases h
  clear H
  go_enter Tryz.func33,Tryz.ntmps33
  go_wp2
  go_ret
  exact ⟨⟨true,rfl,by simp [D.out]⟩,y.out⟩
 | true =>
  by_cases h0:s=[]
  ·subst h0
   by_cases h1:g=[]
   ·subst h1
    have D:Hid (Xn (a,b,c,d,true,[]) []↔yt []):=by show _↔_;simp [Xn]
    go_enter Tryz.func33,Tryz.ntmps33
    go_wp2_with fail
    refine H.mono ?_;clear H T U V O Q X E;rintro e L ⟨x,M,G,v,rfl,J,K,z⟩;obtain ⟨Z,b',c',d0,d1,d2,k',rfl⟩:=K.agg;have A:Hid (Below w.heap.size w L):=Zw y.out z;have N:Hid (yt []↔G=0):=Vo J;clear J K z;go_wp2
    go_ret
    exact ⟨⟨_,rfl,by rw [D.out,N.out];simp⟩,A.out.alloc A.out.size _⟩
   ·obtain ⟨g0,gs,rfl⟩:=List.exists_cons_of_ne_nil h1
    have D:Hid (Xn (a,b,c,d,true,g0::gs) []):=fun _=>.inl ⟨rfl,h1⟩
    clear H
    go_enter Tryz.func33,Tryz.ntmps33
    go_wp2
    go_ret
    exact ⟨⟨true,rfl,by simp [D.out]⟩,y.out⟩
  ·by_cases h1:255<s.length
   ·have D:Hid (¬ Xn (a,b,c,d,true,g) s):=fun h=>by
     rcases h rfl with h | h
     ·exact h0 h.1
     ·omega
    have Y:(255:Int)<s.length:=by omega
    clear H
    go_enter Tryz.func33,Tryz.ntmps33
    go_wp2
    go_ret
    exact ⟨⟨false,rfl,by simp [D.out]⟩,y.out⟩
   ·have D:Hid (Xn (a,b,c,d,true,g) s↔yt s):=by
     show _↔_
     refine ⟨fun h=>?_,fun h _=>.inr ⟨by omega,h⟩⟩
     rcases h rfl with h | h
     ·exact absurd h.1 h0
     ·exact h.2
    have Y:¬ (255:Int)<s.length:=by omega
    go_enter Tryz.func33,Tryz.ntmps33
    go_wp2_with fail
    refine H.mono ?_;clear H T U V O Q X E;rintro e L ⟨x,M,G,v,rfl,J,K,z⟩;obtain ⟨Z,b',c',d0,d1,d2,k',rfl⟩:=K.agg;have A:Hid (Below w.heap.size w L):=Zw y.out z;have N:Hid (yt s↔G=0):=Vo J;clear J K z;go_wp2
    go_ret
    exact ⟨⟨_,rfl,by rw [D.out,N.out];simp⟩,A.out.alloc A.out.size _⟩
theorem vK (k:Int) (h:ofKind k≠yI):(ofKind k).1=k∧(ofKind k).1≠0:=by
 by_cases hk:k<1∨17<k
 ·exact absurd (Yw k hk) h
 ·have e:(ofKind k).1=k:=XK (P:=fun k=>(ofKind k).1=k) (by decide) (by decide) (by decide) (by decide) (by decide) (by decide) (by decide) (by decide) (by decide) (by decide) (by decide) (by decide) (by decide) (by decide) (by decide) (by decide) (by decide) k (by omega) (by omega)
  exact ⟨e,by omega⟩
theorem VX (k n:Int) (s:List UInt8) (w:World) (hS:Yq w) :
  Calls Tryz.prog 11 #[Zz k n s] w fun e w'=>(yG yt k n s∧e=.returned (.int .i64 0)∨¬ yG yt k n s∧e=.returned (.int .i64 2))∧Below w.heap.size w w':=by
 have HS:Hid (Yq w):=hS;obtain ⟨w1,ab,o,ar,y⟩:=yn w (.cells #[.int .i64 k,.int .i64 n,.string (za s)] 24 (0,0));have cw:=YX k w1;obtain ⟨O,Q,R,-⟩:=zh y;have HP:Hid (Below w.heap.size w w1∧w1.heap[w.heap.size]?=some (.cells #[.int .i64 k,.int .i64 n,.string (za s)] 24 (0,0))):=⟨o,y⟩;have ak:=ab.symm
 unfold Zz
 clear hS o ab y ar
 go_enter Tryz.func11,Tryz.ntmps11
 go_wp2_with fail
 refine cw.mono ?_;clear cw O Q R ak;rintro e Z ⟨rfl,A⟩;have H:Hid (yG yt k n s↔ofKind k≠yI∧((ofKind k).2.2.1=false→n=0)∧((ofKind k).2.2.2.2.1=false→s=[])∧((ofKind k).2.2.1=true→(ofKind k).2.2.2.1≤n∧n≤4294967296)∧Xn (ofKind k) s):=Iff.rfl;have HO:Hid (ofKind k≠yI→(ofKind k).1=k∧(ofKind k).1≠0):=vK k;have N:Hid (∀W,Calls Tryz.prog 31 #[wV (ofKind k),Zz k n s] W fun e w'=>e=.returned (.bool (decide (k=(ofKind k).1∧((ofKind k).2.2.1=false→n=0)∧((ofKind k).2.2.2.2.1=false→s=[]))))∧Below W.heap.size W w'):=fun W=>vu _ k n s W
 have C2:Hid (∀W,Calls Tryz.prog 32 #[wV (ofKind k),.int .i64 n] W fun e w'=>e=.returned (.bool (decide ((ofKind k).2.2.1=true→(ofKind k).2.2.2.1≤n∧n≤4294967296)))∧Below W.heap.size W w'):=fun W=>uz _ n W
 have C3:Hid (∀W,Yq W→Calls Tryz.prog 33 #[wV (ofKind k),.string (za s)] W fun e w'=>(∃q:Bool,e=.returned (.bool q)∧(q=true↔Xn (ofKind k) s))∧Below W.heap.size W w'):=fun W hW=>uL _ s W hW
 generalize ofKind k=r at H HO N C2 C3 ⊢;obtain ⟨a,b,c,d,f,g⟩:=r
 unfold wV at N C2 C3
 unfold Zz at N
 unfold wV
 simp only at N C2 C3 H HO ⊢
 by_cases hr:(a,b,c,d,f,g)=yI
 ·have L:Hid (¬ yG yt k n s):=fun h=>(H.out.1 h).1 hr
  unfold yI at hr
  simp only [Prod.mk.injEq] at hr;obtain ⟨rfl,rfl,rfl,rfl,rfl,rfl⟩:=hr;obtain ⟨o,y⟩:=HP.out;have ag:Hid (Below w.heap.size w Z):=Zw o A;clear o y A N C2 C3 HO H;go_wp2
  go_ret
  exact ⟨.inr ⟨L.out,rfl⟩,ag.out.alloc ag.out.size _⟩
 ·have aj:=(HO.out hr).1
  have ha:=(HO.out hr).2;obtain ⟨w3,af,U,ao,z⟩:=yn Z (.cells #[.int .i64 a,.string (za b),.bool c,.int .i64 d,.bool f,.string (za g)] 55 (0,0));obtain ⟨o,y⟩:=HP.out;have J:w3.heap[w.heap.size]?=some (.cells #[.int .i64 k,.int .i64 n,.string (za s)] 24 (0,0)):=((Zw A U).block _ (ZW y)).trans y;have D:Below w.heap.size w w3:=Zw o (Zw A U);have ap:Hid (Below w.heap.size w w3):=D;have au:Hid (Yq w3):=HS.out.below D;have aq:Hid (w3.heap[w.heap.size]?=some (.cells #[.int .i64 k,.int .i64 n,.string (za s)] 24 (0,0))∧w3.heap[Z.heap.size]?=some (.cells #[.int .i64 a,.string (za b),.bool c,.int .i64 d,.bool f,.string (za g)] 55 (0,0))):=⟨J,z⟩;have al:=af.symm;clear o af U ao A y D HP;obtain ⟨O,Q,R,-⟩:=zh J;obtain ⟨r0,r1,r2,r3,r4,r5,-⟩:=zr z;clear J z;have av:(a==0)=false:=by simpa using ha
  obtain ⟨pa,V⟩:∃p:Bool,p=decide (k=a∧(c=false→n=0)∧(f=false→s=[])):=⟨_,rfl⟩;obtain ⟨pn,M⟩:∃p:Bool,p=decide (c=true→d≤n∧n≤4294967296):=⟨_,rfl⟩;rw [←V] at N;rw [←M] at C2;have I:Hid (pa=true↔(c=false→n=0)∧(f=false→s=[])):=by show _↔_;rw [V,decide_eq_true_eq];exact ⟨fun h=>h.2,fun h=>⟨aj.symm,h⟩⟩
  have am:Hid (pn=true↔(c=true→d≤n∧n≤4294967296)):=by show _↔_;rw [M,decide_eq_true_eq]
  have cA:=N.out w3;clear V M aj;go_wp2_with fail
  refine cA.mono ?_;clear cA al O Q R r0 r1 r2 r3 r4 r5;rintro e Y ⟨rfl,G⟩;obtain ⟨y,z⟩:=aq.out;have K:Y.heap[w.heap.size]?=_:=(G.block _ (ZW y)).trans y;have X:Y.heap[Z.heap.size]?=_:=(G.block _ (ZW z)).trans z;have an:Hid (Y.heap[w.heap.size]?=some (.cells #[.int .i64 k,.int .i64 n,.string (za s)] 24 (0,0))∧Y.heap[Z.heap.size]?=some (.cells #[.int .i64 a,.string (za b),.bool c,.int .i64 d,.bool f,.string (za g)] 55 (0,0))):=⟨K,X⟩;have ah:Hid (Below w.heap.size w Y):=Zw ap.out G;obtain ⟨O,Q,R,-⟩:=zh K;obtain ⟨r0,r1,r2,r3,r4,r5,-⟩:=zr X;clear y z K X G;cases pa with
  | false =>
   have L:Hid (¬ yG yt k n s):=fun h=>by have:=I.out.2 ⟨(H.out.1 h).2.1,(H.out.1 h).2.2.1⟩;cases this
   go_wp2
   go_ret
   exact ⟨.inr ⟨L.out,rfl⟩,ah.out⟩
  | true =>
   have cN:=C2.out Y;go_wp2_with fail
   refine cN.mono ?_;clear cN O Q R r0 r1 r2 r3 r4 r5;rintro e w5 ⟨rfl,E⟩;obtain ⟨y,z⟩:=an.out;have ad:w5.heap[w.heap.size]?=_:=(E.block _ (ZW y)).trans y;have ai:w5.heap[Z.heap.size]?=_:=(E.block _ (ZW z)).trans z;have T:Hid (Below w.heap.size w w5):=Zw ah.out E;obtain ⟨O,Q,R,-⟩:=zh ad;obtain ⟨r0,r1,r2,r3,r4,r5,-⟩:=zr ai;clear y z ad ai E;cases pn with
   | false =>
    have L:Hid (¬ yG yt k n s):=fun h=>by have:=am.out.2 (H.out.1 h).2.2.2.1;cases this
    go_wp2
    go_ret
    exact ⟨.inr ⟨L.out,rfl⟩,T.out⟩
   | true =>
    have cS:=C3.out w5 (HS.out.below T.out);go_wp2_with fail
    refine cS.mono ?_;clear cS O Q R r0 r1 r2 r3 r4 r5;rintro e w6 ⟨⟨q,rfl,hq⟩,aa⟩;have ae:Hid (Below w.heap.size w w6):=Zw T.out aa
    have HQ:Hid (q=true↔yG yt k n s):=by
     show _↔_
     rw [hq,H.out];exact ⟨fun h=>⟨hr,(I.out.1 (by trivial)).1,(I.out.1 (by trivial)).2,am.out.1 (by trivial),h⟩,fun h=>h.2.2.2.2⟩
    clear hq aa;cases q with
    | false =>
     have L:Hid (¬ yG yt k n s):=fun h=>by have:=HQ.out.2 h;cases this
     clear HQ;go_wp2
     go_ret
     exact ⟨.inr ⟨L.out,rfl⟩,ae.out⟩
    | true =>
     have HY:Hid (yG yt k n s):=HQ.out.1 rfl;clear HQ;go_wp2
     go_ret
     exact ⟨.inl ⟨HY.out,rfl⟩,ae.out⟩
end Go.Proofs.YtmbofhpmockmbaaGreatDoor
