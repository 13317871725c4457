import Derived.Test.YtmbofhpmockmbaaGreatDoorMC4
import Derived.Test.YtmbofhpmockmbaaGreatDoorSExprX
import Derived.Test.YtmbofhpmockmbaaGreatDoorSConcE
import Derived.Test.YtmbofhpmockmbaaGreatDoorSSynT
namespace Go.Proofs.YtmbofhpmockmbaaGreatDoor
open Go.RowKit Go.Shelf
set_option maxHeartbeats 16000000
set_option maxRecDepth 100000
def yt (s:List UInt8):Prop:=∃x at0,zY s x at0 0
theorem Vo {l:List UInt8} {x:Ex} {at0 err:Nat} (h:zY l x at0 err):yt l↔err=0:=by
 refine ⟨fun ⟨x',a',h'⟩=>(X4 h h').2.2,fun e=>?_⟩
 subst e;exact ⟨x,at0,h⟩
def Xn (r:Wq) (s:List UInt8):Prop:=r.2.2.2.2.1=true→(s=[]∧r.2.2.2.2.2≠[])∨(s.length≤255∧yt s)
theorem uL (r:Wq) (s:List UInt8) (w:World) (hS:Yq w) :
  Calls Tryz.prog 33 #[wV r,.string (za s)] w fun e w'=>(∃q:Bool,e=.returned (.bool q)∧(q=true↔Xn r s))∧Below w.heap.size w w':=by
 obtain ⟨a,b,c,d,f,g⟩:=r;have HS:Hid (Yq w):=hS;obtain ⟨X,K,A,aa,Q⟩:=yn w (.cells #[.int .i64 a,.string (za b),.bool c,.int .i64 d,.bool f,.string (za g)] 55 (0,0));have G:=UV s X (hS.below A).1.1 (hS.below A).2.1 (hS.below A).2.2;obtain ⟨V,R,U,T,W,O,-⟩:=zr Q;have o:Hid (Below w.heap.size w X):=A;have E:=K.symm
 unfold wV
 simp only;clear hS A K Q;cases f with
 | false =>
  have D:Hid (Xn (a,b,c,d,false,g) s):=fun h=>by cases h
  clear G
  go_enter Tryz.func33,Tryz.ntmps33
  go_wp2
  go_ret
  exact ⟨⟨true,rfl,by simp [D.out]⟩,o.out⟩
 | true =>
  by_cases h0:s=[]
  ·subst h0
   by_cases h1:g=[]
   ·subst h1
    have D:Hid (Xn (a,b,c,d,true,[]) []↔yt []):=by show _↔_;simp [Xn]
    go_enter Tryz.func33,Tryz.ntmps33
    go_wp2_with fail
    refine G.mono ?_;clear G V R U T W O E;rintro e L ⟨x,N,H,v,rfl,I,J,z⟩;obtain ⟨a',b',c',d0,d1,d2,Z,rfl⟩:=J.agg;have y:Hid (Below w.heap.size w L):=Zw o.out z;have M:Hid (yt []↔H=0):=Vo I;clear I J z;go_wp2
    go_ret
    exact ⟨⟨_,rfl,by rw [D.out,M.out];simp⟩,y.out.alloc y.out.size _⟩
   ·obtain ⟨g0,Y,rfl⟩:=List.exists_cons_of_ne_nil h1
    have D:Hid (Xn (a,b,c,d,true,g0::Y) []):=fun _=>.inl ⟨rfl,h1⟩
    clear G
    go_enter Tryz.func33,Tryz.ntmps33
    go_wp2
    go_ret
    exact ⟨⟨true,rfl,by simp [D.out]⟩,o.out⟩
  ·by_cases h1:255<s.length
   ·have D:Hid (¬ Xn (a,b,c,d,true,g) s):=fun h=>by
     rcases h rfl with h | h
     ·exact h0 h.1
     ·omega
    have h2:(255:Int)<s.length:=by omega
    clear G
    go_enter Tryz.func33,Tryz.ntmps33
    go_wp2
    go_ret
    exact ⟨⟨false,rfl,by simp [D.out]⟩,o.out⟩
   ·have D:Hid (Xn (a,b,c,d,true,g) s↔yt s):=by
     show _↔_
     refine ⟨fun h=>?_,fun h _=>.inr ⟨by omega,h⟩⟩
     rcases h rfl with h | h
     ·exact absurd h.1 h0
     ·exact h.2
    have h2:¬ (255:Int)<s.length:=by omega
    go_enter Tryz.func33,Tryz.ntmps33
    go_wp2_with fail
    refine G.mono ?_;clear G V R U T W O E;rintro e L ⟨x,N,H,v,rfl,I,J,z⟩;obtain ⟨a',b',c',d0,d1,d2,Z,rfl⟩:=J.agg;have y:Hid (Below w.heap.size w L):=Zw o.out z;have M:Hid (yt s↔H=0):=Vo I;clear I J z;go_wp2
    go_ret
    exact ⟨⟨_,rfl,by rw [D.out,M.out];simp⟩,y.out.alloc y.out.size _⟩
theorem vK (k:Int) (h:ofKind k≠yI):(ofKind k).1=k∧(ofKind k).1≠0:=by
 by_cases hk:k<1∨17<k
 ·exact absurd (Yw k hk) h
 ·have e:(ofKind k).1=k:=XK (P:=fun k=>(ofKind k).1=k) (by decide) (by decide) (by decide) (by decide) (by decide) (by decide) (by decide) (by decide) (by decide) (by decide) (by decide) (by decide) (by decide) (by decide) (by decide) (by decide) (by decide) k (by omega) (by omega)
  exact ⟨e,by omega⟩
theorem VX (k n:Int) (s:List UInt8) (w:World) (hS:Yq w) :
  Calls Tryz.prog 11 #[Zz k n s] w fun e w'=>(yG yt k n s∧e=.returned (.int .i64 0)∨¬ yG yt k n s∧e=.returned (.int .i64 2))∧Below w.heap.size w w':=by
 have HS:Hid (Yq w):=hS;obtain ⟨w1,ak,y,aq,o⟩:=yn w (.cells #[.int .i64 k,.int .i64 n,.string (za s)] 24 (0,0));have cw:=YX k w1;obtain ⟨U,J,L,-⟩:=zh o;have HP:Hid (Below w.heap.size w w1∧w1.heap[w.heap.size]?=some (.cells #[.int .i64 k,.int .i64 n,.string (za s)] 24 (0,0))):=⟨y,o⟩;have af:=ak.symm
 unfold Zz
 clear hS y ak o aq
 go_enter Tryz.func11,Tryz.ntmps11
 go_wp2_with fail
 refine cw.mono ?_;clear cw U J L af;rintro e Z ⟨rfl,A⟩;have H:Hid (yG yt k n s↔ofKind k≠yI∧((ofKind k).2.2.1=false→n=0)∧((ofKind k).2.2.2.2.1=false→s=[])∧((ofKind k).2.2.1=true→(ofKind k).2.2.2.1≤n∧n≤4294967296)∧Xn (ofKind k) s):=Iff.rfl;have HO:Hid (ofKind k≠yI→(ofKind k).1=k∧(ofKind k).1≠0):=vK k;have R:Hid (∀W,Calls Tryz.prog 31 #[wV (ofKind k),Zz k n s] W fun e w'=>e=.returned (.bool (decide (k=(ofKind k).1∧((ofKind k).2.2.1=false→n=0)∧((ofKind k).2.2.2.2.1=false→s=[]))))∧Below W.heap.size W w'):=fun W=>vu _ k n s W
 have C2:Hid (∀W,Calls Tryz.prog 32 #[wV (ofKind k),.int .i64 n] W fun e w'=>e=.returned (.bool (decide ((ofKind k).2.2.1=true→(ofKind k).2.2.2.1≤n∧n≤4294967296)))∧Below W.heap.size W w'):=fun W=>uz _ n W
 have C3:Hid (∀W,Yq W→Calls Tryz.prog 33 #[wV (ofKind k),.string (za s)] W fun e w'=>(∃q:Bool,e=.returned (.bool q)∧(q=true↔Xn (ofKind k) s))∧Below W.heap.size W w'):=fun W hW=>uL _ s W hW
 generalize ofKind k=r at H HO R C2 C3 ⊢;obtain ⟨a,b,c,d,f,g⟩:=r
 unfold wV at R C2 C3
 unfold Zz at R
 unfold wV
 simp only at R C2 C3 H HO ⊢
 by_cases hr:(a,b,c,d,f,g)=yI
 ·have T:Hid (¬ yG yt k n s):=fun h=>(H.out.1 h).1 hr
  unfold yI at hr
  simp only [Prod.mk.injEq] at hr;obtain ⟨rfl,rfl,rfl,rfl,rfl,rfl⟩:=hr;obtain ⟨y,o⟩:=HP.out;have aa:Hid (Below w.heap.size w Z):=Zw y A;clear y o A R C2 C3 HO H;go_wp2
  go_ret
  exact ⟨.inr ⟨T.out,rfl⟩,aa.out.alloc aa.out.size _⟩
 ·have aj:=(HO.out hr).1
  have ha:=(HO.out hr).2;obtain ⟨w3,ag,M,ao,z⟩:=yn Z (.cells #[.int .i64 a,.string (za b),.bool c,.int .i64 d,.bool f,.string (za g)] 55 (0,0));obtain ⟨y,o⟩:=HP.out;have N:w3.heap[w.heap.size]?=some (.cells #[.int .i64 k,.int .i64 n,.string (za s)] 24 (0,0)):=((Zw A M).block _ (ZW o)).trans o;have D:Below w.heap.size w w3:=Zw y (Zw A M);have ap:Hid (Below w.heap.size w w3):=D;have au:Hid (Yq w3):=HS.out.below D;have ar:Hid (w3.heap[w.heap.size]?=some (.cells #[.int .i64 k,.int .i64 n,.string (za s)] 24 (0,0))∧w3.heap[Z.heap.size]?=some (.cells #[.int .i64 a,.string (za b),.bool c,.int .i64 d,.bool f,.string (za g)] 55 (0,0))):=⟨N,z⟩;have al:=ag.symm;clear y ag M ao A o D HP;obtain ⟨U,J,L,-⟩:=zh N;obtain ⟨r0,r1,r2,r3,r4,r5,-⟩:=zr z;clear N z;have av:(a==0)=false:=by simpa using ha
  obtain ⟨pa,X⟩:∃p:Bool,p=decide (k=a∧(c=false→n=0)∧(f=false→s=[])):=⟨_,rfl⟩;obtain ⟨pn,K⟩:∃p:Bool,p=decide (c=true→d≤n∧n≤4294967296):=⟨_,rfl⟩;rw [←X] at R;rw [←K] at C2;have Q:Hid (pa=true↔(c=false→n=0)∧(f=false→s=[])):=by show _↔_;rw [X,decide_eq_true_eq];exact ⟨fun h=>h.2,fun h=>⟨aj.symm,h⟩⟩
  have am:Hid (pn=true↔(c=true→d≤n∧n≤4294967296)):=by show _↔_;rw [K,decide_eq_true_eq]
  have cA:=R.out w3;clear X K aj;go_wp2_with fail
  refine cA.mono ?_;clear cA al U J L r0 r1 r2 r3 r4 r5;rintro e Y ⟨rfl,E⟩;obtain ⟨o,z⟩:=ar.out;have I:Y.heap[w.heap.size]?=_:=(E.block _ (ZW o)).trans o;have O:Y.heap[Z.heap.size]?=_:=(E.block _ (ZW z)).trans z;have an:Hid (Y.heap[w.heap.size]?=some (.cells #[.int .i64 k,.int .i64 n,.string (za s)] 24 (0,0))∧Y.heap[Z.heap.size]?=some (.cells #[.int .i64 a,.string (za b),.bool c,.int .i64 d,.bool f,.string (za g)] 55 (0,0))):=⟨I,O⟩;have ah:Hid (Below w.heap.size w Y):=Zw ap.out E;obtain ⟨U,J,L,-⟩:=zh I;obtain ⟨r0,r1,r2,r3,r4,r5,-⟩:=zr O;clear o z I O E;cases pa with
  | false =>
   have T:Hid (¬ yG yt k n s):=fun h=>by have:=Q.out.2 ⟨(H.out.1 h).2.1,(H.out.1 h).2.2.1⟩;cases this
   go_wp2
   go_ret
   exact ⟨.inr ⟨T.out,rfl⟩,ah.out⟩
  | true =>
   have cN:=C2.out Y;go_wp2_with fail
   refine cN.mono ?_;clear cN U J L r0 r1 r2 r3 r4 r5;rintro e w5 ⟨rfl,G⟩;obtain ⟨o,z⟩:=an.out;have ai:w5.heap[w.heap.size]?=_:=(G.block _ (ZW o)).trans o;have ad:w5.heap[Z.heap.size]?=_:=(G.block _ (ZW z)).trans z;have V:Hid (Below w.heap.size w w5):=Zw ah.out G;obtain ⟨U,J,L,-⟩:=zh ai;obtain ⟨r0,r1,r2,r3,r4,r5,-⟩:=zr ad;clear o z ai ad G;cases pn with
   | false =>
    have T:Hid (¬ yG yt k n s):=fun h=>by have:=am.out.2 (H.out.1 h).2.2.2.1;cases this
    go_wp2
    go_ret
    exact ⟨.inr ⟨T.out,rfl⟩,V.out⟩
   | true =>
    have cS:=C3.out w5 (HS.out.below V.out);go_wp2_with fail
    refine cS.mono ?_;clear cS U J L r0 r1 r2 r3 r4 r5;rintro e w6 ⟨⟨q,rfl,hq⟩,ae⟩;have ab:Hid (Below w.heap.size w w6):=Zw V.out ae
    have HQ:Hid (q=true↔yG yt k n s):=by
     show _↔_
     rw [hq,H.out];exact ⟨fun h=>⟨hr,(Q.out.1 (by trivial)).1,(Q.out.1 (by trivial)).2,am.out.1 (by trivial),h⟩,fun h=>h.2.2.2.2⟩
    clear hq ae;cases q with
    | false =>
     have T:Hid (¬ yG yt k n s):=fun h=>by have:=HQ.out.2 h;cases this
     clear HQ;go_wp2
     go_ret
     exact ⟨.inr ⟨T.out,rfl⟩,ab.out⟩
    | true =>
     have HY:Hid (yG yt k n s):=HQ.out.1 rfl;clear HQ;go_wp2
     go_ret
     exact ⟨.inl ⟨HY.out,rfl⟩,ab.out⟩
end Go.Proofs.YtmbofhpmockmbaaGreatDoor
