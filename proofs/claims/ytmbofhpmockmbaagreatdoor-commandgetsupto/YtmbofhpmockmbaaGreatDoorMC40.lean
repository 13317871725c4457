import Derived.Test.YtmbofhpmockmbaaGreatDoorSReadX
import Derived.Test.YtmbofhpmockmbaaGreatDoorMC16
import Derived.Test.YtmbofhpmockmbaaGreatDoorMC4
import Derived.Test.YtmbofhpmockmbaaGreatDoorSExprX
import Derived.Test.YtmbofhpmockmbaaGreatDoorMC19
import Derived.Test.YtmbofhpmockmbaaGreatDoorQCut
import Derived.Lib.AtoiAllCases
namespace Go.Proofs.YtmbofhpmockmbaaGreatDoor
open Go.RowKit Go.Shelf
set_option maxHeartbeats 16000000
set_option maxRecDepth 100000
def xM (f:Nat) (l:List UInt8):Ex × Nat × Nat :=
 if (Yj l).2.2≠0 then (yO,(Yj l).2.1,(Yj l).2.2) else
 match zd f 1 (Yj l).1 with
 | none=>(yO,0,99)
 | some res=>match Zw res with
  | .error a=>(yO,a,6)
  | .ok y=>if 24<zo y then (yO,0,7) else (y,0,0)
theorem Uu {l:List UInt8} {x:Ex} {a e:Nat} (f:Nat) (hl:l.length≤4096) (h:Zb l x a e) (hd:(xM f l).2.2≠99):xM f l=(x,a,e):=by
 unfold Zb at h
 rw [VW hl] at h
 unfold xM at hd ⊢
 by_cases hc:(Yj l).2.2≠0
 ·rw [if_pos hc] at h ⊢
  obtain ⟨rfl,rfl,rfl⟩:=h
  rfl
 ·rw [if_neg hc] at h hd ⊢
  obtain ⟨A,res,z,o⟩:=h;cases hp:zd f 1 (Yj l).1 with
  | none=>rw [hp] at hd;exact absurd rfl hd
  | some r2 =>
   obtain rfl:=yu hp z;cases hw:Zw r2 with
   | error a=>rw [hw] at o;obtain ⟨rfl,rfl,rfl⟩:=o;simp only [hw]
   | ok y =>
    rw [hw] at o;simp only [hw] at o ⊢
    by_cases hdp:24<zo y
    ·rw [if_pos hdp] at o ⊢;obtain ⟨rfl,rfl,rfl⟩:=o;rfl
    ·rw [if_neg hdp] at o ⊢;obtain ⟨rfl,rfl,rfl⟩:=o;rfl
theorem vO {l:List UInt8} {x x':Ex} {a a' e e':Nat} (h:Zb l x a e) (h':Zb l x' a' e'):x=x'∧a=a'∧e=e':=by
 unfold Zb at h h'
 by_cases hc:(zS l).2.2≠0
 ·rw [if_pos hc] at h h'
  exact ⟨h.1.trans h'.1.symm,h.2.1.trans h'.2.1.symm,h.2.2.trans h'.2.2.symm⟩
 ·rw [if_neg hc] at h h'
  obtain ⟨f,r,D,z⟩:=h;obtain ⟨E,G,A,o⟩:=h';obtain rfl:=yu D A;cases hw:Zw r with
  | error b =>
   rw [hw] at z o;exact ⟨z.1.trans o.1.symm,z.2.1.trans o.2.1.symm,z.2.2.trans o.2.2.symm⟩
  | ok y =>
   rw [hw] at z o;simp only at z o
   by_cases hd:24<zo y
   ·rw [if_pos hd] at z o
    exact ⟨z.1.trans o.1.symm,z.2.1.trans o.2.1.symm,z.2.2.trans o.2.2.symm⟩
   ·rw [if_neg hd] at z o
    exact ⟨z.1.trans o.1.symm,z.2.1.trans o.2.1.symm,z.2.2.trans o.2.2.symm⟩
def yC (s:List UInt8):Prop:=∃x at0,Zb s x at0 0
theorem V0 {l:List UInt8} {x:Ex} {at0 err:Nat} (h:Zb l x at0 err):yC l↔err=0:=by
 refine ⟨fun ⟨x',a',h'⟩=>(vO h h').2.2,fun e=>?_⟩
 subst e;exact ⟨x,at0,h⟩
def XW (r:Wq) (s:List UInt8):Prop:=r.2.2.2.2.1=true→(s=[]∧r.2.2.2.2.2≠[])∨(s.length≤255∧yC s)
theorem Uv (r:Wq) (s:List UInt8) (w:World) (hS:YQ w) :
  Calls Tryz.prog 33 #[wV r,.string (za s)] w fun e w'=>(∃q:Bool,e=.returned (.bool q)∧(q=true↔XW r s))∧Below w.heap.size w w':=by
 obtain ⟨a,b,c,d,f,g⟩:=r;have HS:Hid (YQ w):=hS;obtain ⟨Q,I,y,aa,X⟩:=ZY w (.cells #[.int .i64 a,.string (za b),.bool c,.int .i64 d,.bool f,.string (za g)] 55 (0,0));have H:=qF s Q (hS.below y).1.1 (hS.below y).2.1 (hS.below y).2.2;obtain ⟨T,V,W,R,U,Y,-⟩:=zu X;have z:Hid (Below w.heap.size w Q):=y;have E:=I.symm
 unfold wV
 simp only;clear hS y I X;cases f with
 | false =>
  have D:Hid (XW (a,b,c,d,false,g) s):=fun h=>by cases h
  clear H
  go_enter Tryz.func33,Tryz.ntmps33
  go_wp2
  go_ret
  exact ⟨⟨true,rfl,by simp [D.out]⟩,z.out⟩
 | true =>
  by_cases h0:s=[]
  ·subst h0
   by_cases h1:g=[]
   ·subst h1
    have D:Hid (XW (a,b,c,d,true,[]) []↔yC []):=by show _↔_;simp [XW]
    go_enter Tryz.func33,Tryz.ntmps33
    go_wp2_with fail
    refine H.mono ?_;clear H T V W R U Y E;rintro e L ⟨x,O,G,v,rfl,K,J,o⟩;obtain ⟨a',b',c',d0,d1,Z,k',rfl⟩:=J.agg;have A:Hid (Below w.heap.size w L):=ZA z.out o;have M:Hid (yC []↔G=0):=V0 K;clear K J o;go_wp2
    go_ret
    exact ⟨⟨_,rfl,by rw [D.out,M.out];simp⟩,A.out.alloc A.out.size _⟩
   ·obtain ⟨g0,gs,rfl⟩:=List.exists_cons_of_ne_nil h1
    have D:Hid (XW (a,b,c,d,true,g0::gs) []):=fun _=>.inl ⟨rfl,h1⟩
    clear H
    go_enter Tryz.func33,Tryz.ntmps33
    go_wp2
    go_ret
    exact ⟨⟨true,rfl,by simp [D.out]⟩,z.out⟩
  ·by_cases h1:255<s.length
   ·have D:Hid (¬ XW (a,b,c,d,true,g) s):=fun h=>by
     rcases h rfl with h | h
     ·exact h0 h.1
     ·omega
    have h2:(255:Int)<s.length:=by omega
    clear H
    go_enter Tryz.func33,Tryz.ntmps33
    go_wp2
    go_ret
    exact ⟨⟨false,rfl,by simp [D.out]⟩,z.out⟩
   ·have D:Hid (XW (a,b,c,d,true,g) s↔yC s):=by
     show _↔_
     refine ⟨fun h=>?_,fun h _=>.inr ⟨by omega,h⟩⟩
     rcases h rfl with h | h
     ·exact absurd h.1 h0
     ·exact h.2
    have h2:¬ (255:Int)<s.length:=by omega
    go_enter Tryz.func33,Tryz.ntmps33
    go_wp2_with fail
    refine H.mono ?_;clear H T V W R U Y E;rintro e L ⟨x,O,G,v,rfl,K,J,o⟩;obtain ⟨a',b',c',d0,d1,Z,k',rfl⟩:=J.agg;have A:Hid (Below w.heap.size w L):=ZA z.out o;have M:Hid (yC s↔G=0):=V0 K;clear K J o;go_wp2
    go_ret
    exact ⟨⟨_,rfl,by rw [D.out,M.out];simp⟩,A.out.alloc A.out.size _⟩
theorem Vx (k:Int) (h:ofKind k≠yU):(ofKind k).1=k∧(ofKind k).1≠0:=by
 by_cases hk:k<1∨17<k
 ·exact absurd (YV k hk) h
 ·have e:(ofKind k).1=k:=vr (P:=fun k=>(ofKind k).1=k) (by decide) (by decide) (by decide) (by decide) (by decide) (by decide) (by decide) (by decide) (by decide) (by decide) (by decide) (by decide) (by decide) (by decide) (by decide) (by decide) (by decide) k (by omega) (by omega)
  exact ⟨e,by omega⟩
theorem uF (k n:Int) (s:List UInt8) (w:World) (hS:YQ w) :
  Calls Tryz.prog 11 #[ZH k n s] w fun e w'=>(yP yC k n s∧e=.returned (.int .i64 0)∨¬ yP yC k n s∧e=.returned (.int .i64 2))∧Below w.heap.size w w':=by
 have HS:Hid (YQ w):=hS;obtain ⟨w1,ae,o,ao,y⟩:=ZY w (.cells #[.int .i64 k,.int .i64 n,.string (za s)] 24 (0,0));have cw:=xt k w1;obtain ⟨K,L,M,-⟩:=ze y;have HP:Hid (Below w.heap.size w w1∧w1.heap[w.heap.size]?=some (.cells #[.int .i64 k,.int .i64 n,.string (za s)] 24 (0,0))):=⟨o,y⟩;have ah:=ae.symm
 unfold ZH
 clear hS o ae y ao
 go_enter Tryz.func11,Tryz.ntmps11
 go_wp2_with fail
 refine cw.mono ?_;clear cw K L M ah;rintro e Z ⟨rfl,z⟩;have H:Hid (yP yC k n s↔ofKind k≠yU∧((ofKind k).2.2.1=false→n=0)∧((ofKind k).2.2.2.2.1=false→s=[])∧((ofKind k).2.2.1=true→(ofKind k).2.2.2.1≤n∧n≤4294967296)∧XW (ofKind k) s):=Iff.rfl;have HO:Hid (ofKind k≠yU→(ofKind k).1=k∧(ofKind k).1≠0):=Vx k;have U:Hid (∀W,Calls Tryz.prog 31 #[wV (ofKind k),ZH k n s] W fun e w'=>e=.returned (.bool (decide (k=(ofKind k).1∧((ofKind k).2.2.1=false→n=0)∧((ofKind k).2.2.2.2.1=false→s=[]))))∧Below W.heap.size W w'):=fun W=>Ve _ k n s W
 have C2:Hid (∀W,Calls Tryz.prog 32 #[wV (ofKind k),.int .i64 n] W fun e w'=>e=.returned (.bool (decide ((ofKind k).2.2.1=true→(ofKind k).2.2.2.1≤n∧n≤4294967296)))∧Below W.heap.size W w'):=fun W=>Uh _ n W
 have C3:Hid (∀W,YQ W→Calls Tryz.prog 33 #[wV (ofKind k),.string (za s)] W fun e w'=>(∃q:Bool,e=.returned (.bool q)∧(q=true↔XW (ofKind k) s))∧Below W.heap.size W w'):=fun W hW=>Uv _ s W hW
 generalize ofKind k=r at H HO U C2 C3 ⊢;obtain ⟨a,b,c,d,f,g⟩:=r
 unfold wV at U C2 C3
 unfold ZH at U
 unfold wV
 simp only at U C2 C3 H HO ⊢
 by_cases hr:(a,b,c,d,f,g)=yU
 ·have J:Hid (¬ yP yC k n s):=fun h=>(H.out.1 h).1 hr
  unfold yU at hr
  simp only [Prod.mk.injEq] at hr;obtain ⟨rfl,rfl,rfl,rfl,rfl,rfl⟩:=hr;obtain ⟨o,y⟩:=HP.out;have ak:Hid (Below w.heap.size w Z):=ZA o z;clear o y z U C2 C3 HO H;go_wp2
  go_ret
  exact ⟨.inr ⟨J.out,rfl⟩,ak.out.alloc ak.out.size _⟩
 ·have aj:=(HO.out hr).1
  have ha:=(HO.out hr).2;obtain ⟨w3,am,Y,ap,A⟩:=ZY Z (.cells #[.int .i64 a,.string (za b),.bool c,.int .i64 d,.bool f,.string (za g)] 55 (0,0));obtain ⟨o,y⟩:=HP.out;have X:w3.heap[w.heap.size]?=some (.cells #[.int .i64 k,.int .i64 n,.string (za s)] 24 (0,0)):=((ZA z Y).block _ (Zl y)).trans y;have D:Below w.heap.size w w3:=ZA o (ZA z Y);have aq:Hid (Below w.heap.size w w3):=D;have au:Hid (YQ w3):=HS.out.below D;have ar:Hid (w3.heap[w.heap.size]?=some (.cells #[.int .i64 k,.int .i64 n,.string (za s)] 24 (0,0))∧w3.heap[Z.heap.size]?=some (.cells #[.int .i64 a,.string (za b),.bool c,.int .i64 d,.bool f,.string (za g)] 55 (0,0))):=⟨X,A⟩;have af:=am.symm;clear o am Y ap z y D HP;obtain ⟨K,L,M,-⟩:=ze X;obtain ⟨r0,r1,r2,r3,r4,r5,-⟩:=zu A;clear X A;have av:(a==0)=false:=by simpa using ha
  obtain ⟨pa,O⟩:∃p:Bool,p=decide (k=a∧(c=false→n=0)∧(f=false→s=[])):=⟨_,rfl⟩;obtain ⟨pn,V⟩:∃p:Bool,p=decide (c=true→d≤n∧n≤4294967296):=⟨_,rfl⟩;rw [←O] at U;rw [←V] at C2;have Q:Hid (pa=true↔(c=false→n=0)∧(f=false→s=[])):=by show _↔_;rw [O,decide_eq_true_eq];exact ⟨fun h=>h.2,fun h=>⟨aj.symm,h⟩⟩
  have ai:Hid (pn=true↔(c=true→d≤n∧n≤4294967296)):=by show _↔_;rw [V,decide_eq_true_eq]
  have cA:=U.out w3;clear O V aj;go_wp2_with fail
  refine cA.mono ?_;clear cA af K L M r0 r1 r2 r3 r4 r5;rintro e w4 ⟨rfl,E⟩;obtain ⟨y,A⟩:=ar.out;have T:w4.heap[w.heap.size]?=_:=(E.block _ (Zl y)).trans y;have I:w4.heap[Z.heap.size]?=_:=(E.block _ (Zl A)).trans A;have an:Hid (w4.heap[w.heap.size]?=some (.cells #[.int .i64 k,.int .i64 n,.string (za s)] 24 (0,0))∧w4.heap[Z.heap.size]?=some (.cells #[.int .i64 a,.string (za b),.bool c,.int .i64 d,.bool f,.string (za g)] 55 (0,0))):=⟨T,I⟩;have ad:Hid (Below w.heap.size w w4):=ZA aq.out E;obtain ⟨K,L,M,-⟩:=ze T;obtain ⟨r0,r1,r2,r3,r4,r5,-⟩:=zu I;clear y A T I E;cases pa with
  | false =>
   have J:Hid (¬ yP yC k n s):=fun h=>by have:=Q.out.2 ⟨(H.out.1 h).2.1,(H.out.1 h).2.2.1⟩;cases this
   go_wp2
   go_ret
   exact ⟨.inr ⟨J.out,rfl⟩,ad.out⟩
  | true =>
   have cN:=C2.out w4;go_wp2_with fail
   refine cN.mono ?_;clear cN K L M r0 r1 r2 r3 r4 r5;rintro e w5 ⟨rfl,G⟩;obtain ⟨y,A⟩:=an.out;have aa:w5.heap[w.heap.size]?=_:=(G.block _ (Zl y)).trans y;have al:w5.heap[Z.heap.size]?=_:=(G.block _ (Zl A)).trans A;have R:Hid (Below w.heap.size w w5):=ZA ad.out G;obtain ⟨K,L,M,-⟩:=ze aa;obtain ⟨r0,r1,r2,r3,r4,r5,-⟩:=zu al;clear y A aa al G;cases pn with
   | false =>
    have J:Hid (¬ yP yC k n s):=fun h=>by have:=ai.out.2 (H.out.1 h).2.2.2.1;cases this
    go_wp2
    go_ret
    exact ⟨.inr ⟨J.out,rfl⟩,R.out⟩
   | true =>
    have cS:=C3.out w5 (HS.out.below R.out);go_wp2_with fail
    refine cS.mono ?_;clear cS K L M r0 r1 r2 r3 r4 r5;rintro e w6 ⟨⟨q,rfl,hq⟩,ab⟩;have ag:Hid (Below w.heap.size w w6):=ZA R.out ab
    have HQ:Hid (q=true↔yP yC k n s):=by
     show _↔_
     rw [hq,H.out];exact ⟨fun h=>⟨hr,(Q.out.1 (by trivial)).1,(Q.out.1 (by trivial)).2,ai.out.1 (by trivial),h⟩,fun h=>h.2.2.2.2⟩
    clear hq ab;cases q with
    | false =>
     have J:Hid (¬ yP yC k n s):=fun h=>by have:=HQ.out.2 h;cases this
     clear HQ;go_wp2
     go_ret
     exact ⟨.inr ⟨J.out,rfl⟩,ag.out⟩
    | true =>
     have HY:Hid (yP yC k n s):=HQ.out.1 rfl;clear HQ;go_wp2
     go_ret
     exact ⟨.inl ⟨HY.out,rfl⟩,ag.out⟩
def QT (w:World):Prop:=YQ w∧∃u v,w.cell? ⟨1,0,none⟩=some (.iface u v)
theorem QT.below {w w':World} (h:QT w) (hb:Below w.heap.size w w'):QT w':=by
 obtain ⟨y,u,v,o⟩:=h;exact ⟨y.below hb,u,v,by rw [hb.cell (World.block_lt_of_cell? w _ o)];exact o⟩
theorem uG (l:List UInt8) (w:World) (hl:l.length≤100000000) (hT:QT w) :
  Calls Tryz.prog 39 #[.string (za l)] w fun e w'=>∃v,e=.returned (.tuple #[.int .i64 (yT l),v])∧Below w.heap.size w w':=by
 obtain ⟨G,u,v,E⟩:=hT;obtain ⟨I,J,z⟩:=G.1.1.range;have H:(za l).size=l.length:=rfl;cases h:Lib.atoiAll l with
 | ok x =>
  have o:yT l=x:=by unfold yT;rw [h]
  rw [o];refine (Tryz.strconv_Atoi_ok (za l) (by omega) x h w).mono ?_
  rintro e A ⟨rfl,D⟩;refine ⟨_,rfl,?_⟩;rcases D with rfl | ⟨t,rfl⟩
  ·exact Below.refl _ _
  ·exact Lib.bytesWorld_below _ _ _
 | «syntax» =>
  have o:yT l=0:=by unfold yT;rw [h]
  rw [o];refine (Tryz.strconv_Atoi_syntax (za l) (by omega) h _ w E (.inr ⟨_,_,rfl⟩)).mono ?_
  rintro e A ⟨N,rfl,-,-,y⟩;exact ⟨_,rfl,y⟩
 | range =>
  have o:yT l=Lib.atoiSat l:=by unfold yT;rw [h]
  rw [o];refine (Tryz.strconv_Atoi_range (za l) (by omega) h _ w z (.inr ⟨_,_,rfl⟩)).mono ?_
  rintro e A ⟨N,rfl,-,-,y⟩;exact ⟨_,rfl,y⟩
end Go.Proofs.YtmbofhpmockmbaaGreatDoor
