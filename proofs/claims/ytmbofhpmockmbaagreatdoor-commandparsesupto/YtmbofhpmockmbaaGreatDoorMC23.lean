import Derived.Test.YtmbofhpmockmbaaGreatDoorSReadX
import Derived.Test.YtmbofhpmockmbaaGreatDoorMC7
import Derived.Test.YtmbofhpmockmbaaGreatDoorMC1
import Derived.Test.YtmbofhpmockmbaaGreatDoorMC10
import Derived.Shelf.RegionOpenPlain
import Derived.Lib.AtoiAllCases
namespace Go.Proofs.YtmbofhpmockmbaaGreatDoor
open Go.RowKit Go.Shelf
set_option maxHeartbeats 16000000
set_option maxRecDepth 100000
theorem zbe (l:List UInt8) (w:World) (ht:Z4 w) (hl:yL w) (he:Xp w) :
  Calls Tryz.prog 56 #[.string (za l)] w fun e w' =>
   ∃(x:Ex) (at0 h:Nat) (v:Value),e=.returned (.tuple #[v,.int .i64 at0,.int .i64 h])∧zT l x at0 h∧zO w.heap.size w' x v∧Below w.heap.size w w':=by
 have I:Below w.heap.size w (w.alloc zL):=(Below.refl w.heap.size w).alloc (Nat.le_refl _) _;have K:=zba l (w.alloc zL) (ht.below I (Nat.le_refl _)) (fun j v hj=>zd (hl j v hj) _) (zd he _)
 go_enter Tryz.func56,Tryz.ntmps56
 go_wp2_with fail
 refine K.mono ?_;clear K;rintro e w1 ⟨x,at0,h,v,rfl,J,E,o⟩;obtain ⟨a,b,c,A,y,z,k,rfl⟩:=E.agg;have G:(w.alloc zL).heap.size=w.heap.size+1:=by simp
 rw [G] at E o;have H:w1.heap[w.heap.size]?=some zL:=(o.block w.heap.size (by omega)).trans (World.alloc_heap_new w _)
 obtain ⟨q0,Y,X,Z,W,V⟩:=ze H;obtain ⟨Q,U,N,O,M⟩:=zj H (.int .i64 a) (.string b) (.int .i64 c) (.slice A y z) (.int .i64 k);have D:Below w.heap.size w w1:=I.trans (o.mono (by omega))
 have T:Hid (Below w.heap.size w (set5 w1 w.heap.size (.int .i64 a) (.string b) (.int .i64 c) (.slice A y z) (.int .i64 k))) :=
  ((((D.setCell (p:=⟨w.heap.size,0,none⟩) (by simp) _).setCell (p:=⟨w.heap.size,1,none⟩) (by simp) _).setCell (p:=⟨w.heap.size,2,none⟩) (by simp) _).setCell (p:=⟨w.heap.size,3,none⟩) (by simp) _).setCell (p:=⟨w.heap.size,4,none⟩) (by simp) _
 have R:Hid (zO w.heap.size (set5 w1 w.heap.size (.int .i64 a) (.string b) (.int .i64 c) (.slice A y z) (.int .i64 k)) x (.agg #[.int .i64 a,.string b,.int .i64 c,.slice A y z,.int .i64 k])) :=
  zO.mono (zO.kept E (w':=set5 w1 w.heap.size (.int .i64 a) (.string b) (.int .i64 c) (.slice A y z) (.int .i64 k)) (by simp) fun j hj _=>zi _ _ _ _ _ _ _ (by omega)) (by omega)
 have L:Hid (zT l x at0 h):=J;clear I D E o J H ht hl he;go_wp2
 exact bodyPost_ret (v:=.tuple #[.agg #[.int .i64 a,.string b,.int .i64 c,.slice A y z,.int .i64 k],.int .i64 at0,.int .i64 h]) (by simp [results,Tryz.results56,go_sem,Q,U,N,O,M]) rfl ⟨x,at0,h,_,rfl,L.out,R.out,T.out⟩
def Xh (f:Nat) (l:List UInt8):Ex × Nat × Nat :=
 if (xj l).2.2≠0 then (Z5,(xj l).2.1,(xj l).2.2) else
 match zh f 1 (xj l).1 with
 | none=>(Z5,0,99)
 | some res=>match Zx res with
  | .error a=>(Z5,a,6)
  | .ok y=>if 24<depthE y then (Z5,0,7) else (y,0,0)
theorem uz {l:List UInt8} {x:Ex} {a e:Nat} (f:Nat) (hl:l.length≤4096) (h:zT l x a e) (hd:(Xh f l).2.2≠99):Xh f l=(x,a,e):=by
 unfold zT at h
 rw [UZ hl] at h
 unfold Xh at hd ⊢
 by_cases hc:(xj l).2.2≠0
 ·rw [if_pos hc] at h ⊢
  obtain ⟨rfl,rfl,rfl⟩:=h
  rfl
 ·rw [if_neg hc] at h hd ⊢
  obtain ⟨A,res,z,o⟩:=h;cases hp:zh f 1 (xj l).1 with
  | none=>rw [hp] at hd;exact absurd rfl hd
  | some r2 =>
   obtain rfl:=Yk hp z;cases hw:Zx r2 with
   | error a=>rw [hw] at o;obtain ⟨rfl,rfl,rfl⟩:=o;simp only [hw]
   | ok y =>
    rw [hw] at o;simp only [hw] at o ⊢
    by_cases hdp:24<depthE y
    ·rw [if_pos hdp] at o ⊢;obtain ⟨rfl,rfl,rfl⟩:=o;rfl
    ·rw [if_neg hdp] at o ⊢;obtain ⟨rfl,rfl,rfl⟩:=o;rfl
theorem uA {l:List UInt8} {x x':Ex} {a a' e e':Nat} (h:zT l x a e) (h':zT l x' a' e'):x=x'∧a=a'∧e=e':=by
 unfold zT at h h'
 by_cases hc:(zp l).2.2≠0
 ·rw [if_pos hc] at h h'
  exact ⟨h.1.trans h'.1.symm,h.2.1.trans h'.2.1.symm,h.2.2.trans h'.2.2.symm⟩
 ·rw [if_neg hc] at h h'
  obtain ⟨f,r,D,z⟩:=h;obtain ⟨E,G,A,o⟩:=h';obtain rfl:=Yk D A;cases hw:Zx r with
  | error b =>
   rw [hw] at z o;exact ⟨z.1.trans o.1.symm,z.2.1.trans o.2.1.symm,z.2.2.trans o.2.2.symm⟩
  | ok y =>
   rw [hw] at z o;simp only at z o
   by_cases hd:24<depthE y
   ·rw [if_pos hd] at z o
    exact ⟨z.1.trans o.1.symm,z.2.1.trans o.2.1.symm,z.2.2.trans o.2.2.symm⟩
   ·rw [if_neg hd] at z o
    exact ⟨z.1.trans o.1.symm,z.2.1.trans o.2.1.symm,z.2.2.trans o.2.2.symm⟩
def Zy (s:List UInt8):Prop:=∃x at0,zT s x at0 0
theorem VL {l:List UInt8} {x:Ex} {at0 err:Nat} (h:zT l x at0 err):Zy l↔err=0:=by
 refine ⟨fun ⟨x',a',h'⟩=>(uA h h').2.2,fun e=>?_⟩
 subst e;exact ⟨x,at0,h⟩
def VM (r:Wq) (s:List UInt8):Prop:=r.2.2.2.2.1=true→(s=[]∧r.2.2.2.2.2≠[])∨(s.length≤255∧Zy s)
theorem QM (r:Wq) (s:List UInt8) (w:World) (hS:xX w) :
  Calls Tryz.prog 33 #[wV r,.string (za s)] w fun e w'=>(∃q:Bool,e=.returned (.bool q)∧(q=true↔VM r s))∧Below w.heap.size w w':=by
 obtain ⟨a,b,c,d,f,g⟩:=r;have HS:Hid (xX w):=hS;obtain ⟨W,K,y,aa,Q⟩:=y8 w (.cells #[.int .i64 a,.string (za b),.bool c,.int .i64 d,.bool f,.string (za g)] 55 (0,0));have G:=zbe s W (hS.below y).1.1 (hS.below y).2.1 (hS.below y).2.2;obtain ⟨R,U,T,O,N,V,-⟩:=zG Q;have o:Hid (Below w.heap.size w W):=y;have E:=K.symm
 unfold wV
 simp only;clear hS y K Q;cases f with
 | false =>
  have D:Hid (VM (a,b,c,d,false,g) s):=fun h=>by cases h
  clear G
  go_enter Tryz.func33,Tryz.ntmps33
  go_wp2
  go_ret
  exact ⟨⟨true,rfl,by simp [D.out]⟩,o.out⟩
 | true =>
  by_cases h0:s=[]
  ·subst h0
   by_cases h1:g=[]
   ·subst h1
    have D:Hid (VM (a,b,c,d,true,[]) []↔Zy []):=by show _↔_;simp [VM]
    go_enter Tryz.func33,Tryz.ntmps33
    go_wp2_with fail
    refine G.mono ?_;clear G R U T O N V E;rintro e L ⟨x,at0,H,v,rfl,J,I,A⟩;obtain ⟨Y,b',c',d0,X,Z,k',rfl⟩:=I.agg;have z:Hid (Below w.heap.size w L):=yb o.out A;have M:Hid (Zy []↔H=0):=VL J;clear J I A;go_wp2
    go_ret
    exact ⟨⟨_,rfl,by rw [D.out,M.out];simp⟩,z.out.alloc z.out.size _⟩
   ·obtain ⟨g0,gs,rfl⟩:=List.exists_cons_of_ne_nil h1
    have D:Hid (VM (a,b,c,d,true,g0::gs) []):=fun _=>.inl ⟨rfl,h1⟩
    clear G
    go_enter Tryz.func33,Tryz.ntmps33
    go_wp2
    go_ret
    exact ⟨⟨true,rfl,by simp [D.out]⟩,o.out⟩
  ·by_cases h1:255<s.length
   ·have D:Hid (¬ VM (a,b,c,d,true,g) s):=fun h=>by
     rcases h rfl with h | h
     ·exact h0 h.1
     ·omega
    have h2:(255:Int)<s.length:=by omega
    clear G
    go_enter Tryz.func33,Tryz.ntmps33
    go_wp2
    go_ret
    exact ⟨⟨false,rfl,by simp [D.out]⟩,o.out⟩
   ·have D:Hid (VM (a,b,c,d,true,g) s↔Zy s):=by
     show _↔_
     refine ⟨fun h=>?_,fun h _=>.inr ⟨by omega,h⟩⟩
     rcases h rfl with h | h
     ·exact absurd h.1 h0
     ·exact h.2
    have h2:¬ (255:Int)<s.length:=by omega
    go_enter Tryz.func33,Tryz.ntmps33
    go_wp2_with fail
    refine G.mono ?_;clear G R U T O N V E;rintro e L ⟨x,at0,H,v,rfl,J,I,A⟩;obtain ⟨Y,b',c',d0,X,Z,k',rfl⟩:=I.agg;have z:Hid (Below w.heap.size w L):=yb o.out A;have M:Hid (Zy s↔H=0):=VL J;clear J I A;go_wp2
    go_ret
    exact ⟨⟨_,rfl,by rw [D.out,M.out];simp⟩,z.out.alloc z.out.size _⟩
theorem Uw (k:Int) (h:ofKind k≠y5):(ofKind k).1=k∧(ofKind k).1≠0:=by
 by_cases hk:k<1∨17<k
 ·exact absurd (y6 k hk) h
 ·have e:(ofKind k).1=k:=YR (P:=fun k=>(ofKind k).1=k) (by decide) (by decide) (by decide) (by decide) (by decide) (by decide) (by decide) (by decide) (by decide) (by decide) (by decide) (by decide) (by decide) (by decide) (by decide) (by decide) (by decide) k (by omega) (by omega)
  exact ⟨e,by omega⟩
theorem qJ (k n:Int) (s:List UInt8) (w:World) (hS:xX w) :
  Calls Tryz.prog 11 #[yJ k n s] w fun e w'=>(Zt Zy k n s∧e=.returned (.int .i64 0)∨¬ Zt Zy k n s∧e=.returned (.int .i64 2))∧Below w.heap.size w w':=by
 have HS:Hid (xX w):=hS;obtain ⟨w1,am,y,ao,o⟩:=y8 w (.cells #[.int .i64 k,.int .i64 n,.string (za s)] 24 (0,0));have cw:=XK k w1;obtain ⟨Q,K,V,-⟩:=zw o;have HP:Hid (Below w.heap.size w w1∧w1.heap[w.heap.size]?=some (.cells #[.int .i64 k,.int .i64 n,.string (za s)] 24 (0,0))):=⟨y,o⟩;have ae:=am.symm
 unfold yJ
 clear hS y am o ao
 go_enter Tryz.func11,Tryz.ntmps11
 go_wp2_with fail
 refine cw.mono ?_;clear cw Q K V ae;rintro e Z ⟨rfl,A⟩;have H:Hid (Zt Zy k n s↔ofKind k≠y5∧((ofKind k).2.2.1=false→n=0)∧((ofKind k).2.2.2.2.1=false→s=[])∧((ofKind k).2.2.1=true→(ofKind k).2.2.2.1≤n∧n≤4294967296)∧VM (ofKind k) s):=Iff.rfl;have HO:Hid (ofKind k≠y5→(ofKind k).1=k∧(ofKind k).1≠0):=Uw k;have U:Hid (∀W,Calls Tryz.prog 31 #[wV (ofKind k),yJ k n s] W fun e w'=>e=.returned (.bool (decide (k=(ofKind k).1∧((ofKind k).2.2.1=false→n=0)∧((ofKind k).2.2.2.2.1=false→s=[]))))∧Below W.heap.size W w'):=fun W=>Um _ k n s W
 have C2:Hid (∀W,Calls Tryz.prog 32 #[wV (ofKind k),.int .i64 n] W fun e w'=>e=.returned (.bool (decide ((ofKind k).2.2.1=true→(ofKind k).2.2.2.1≤n∧n≤4294967296)))∧Below W.heap.size W w'):=fun W=>Qo _ n W
 have C3:Hid (∀W,xX W→Calls Tryz.prog 33 #[wV (ofKind k),.string (za s)] W fun e w'=>(∃q:Bool,e=.returned (.bool q)∧(q=true↔VM (ofKind k) s))∧Below W.heap.size W w'):=fun W hW=>QM _ s W hW
 generalize ofKind k=r at H HO U C2 C3 ⊢;obtain ⟨a,b,c,d,f,g⟩:=r
 unfold wV at U C2 C3
 unfold yJ at U
 unfold wV
 simp only at U C2 C3 H HO ⊢
 by_cases hr:(a,b,c,d,f,g)=y5
 ·have R:Hid (¬ Zt Zy k n s):=fun h=>(H.out.1 h).1 hr
  unfold y5 at hr
  simp only [Prod.mk.injEq] at hr;obtain ⟨rfl,rfl,rfl,rfl,rfl,rfl⟩:=hr;obtain ⟨y,o⟩:=HP.out;have ai:Hid (Below w.heap.size w Z):=yb y A;clear y o A U C2 C3 HO H;go_wp2
  go_ret
  exact ⟨.inr ⟨R.out,rfl⟩,ai.out.alloc ai.out.size _⟩
 ·have ah:=(HO.out hr).1
  have ha:=(HO.out hr).2;obtain ⟨w3,ad,J,ap,D⟩:=y8 Z (.cells #[.int .i64 a,.string (za b),.bool c,.int .i64 d,.bool f,.string (za g)] 55 (0,0));obtain ⟨y,o⟩:=HP.out;have O:w3.heap[w.heap.size]?=some (.cells #[.int .i64 k,.int .i64 n,.string (za s)] 24 (0,0)):=((yb A J).block _ (y7 o)).trans o;have z:Below w.heap.size w w3:=yb y (yb A J);have aq:Hid (Below w.heap.size w w3):=z;have au:Hid (xX w3):=HS.out.below z;have ar:Hid (w3.heap[w.heap.size]?=some (.cells #[.int .i64 k,.int .i64 n,.string (za s)] 24 (0,0))∧w3.heap[Z.heap.size]?=some (.cells #[.int .i64 a,.string (za b),.bool c,.int .i64 d,.bool f,.string (za g)] 55 (0,0))):=⟨O,D⟩;have aa:=ad.symm;clear y ad J ap A o z HP;obtain ⟨Q,K,V,-⟩:=zw O;obtain ⟨r0,r1,r2,r3,r4,r5,-⟩:=zG D;clear O D;have av:(a==0)=false:=by simpa using ha
  obtain ⟨pa,M⟩:∃p:Bool,p=decide (k=a∧(c=false→n=0)∧(f=false→s=[])):=⟨_,rfl⟩;obtain ⟨pn,L⟩:∃p:Bool,p=decide (c=true→d≤n∧n≤4294967296):=⟨_,rfl⟩;rw [←M] at U;rw [←L] at C2;have I:Hid (pa=true↔(c=false→n=0)∧(f=false→s=[])):=by show _↔_;rw [M,decide_eq_true_eq];exact ⟨fun h=>h.2,fun h=>⟨ah.symm,h⟩⟩
  have al:Hid (pn=true↔(c=true→d≤n∧n≤4294967296)):=by show _↔_;rw [L,decide_eq_true_eq]
  have cA:=U.out w3;clear M L ah;go_wp2_with fail
  refine cA.mono ?_;clear cA aa Q K V r0 r1 r2 r3 r4 r5;rintro e Y ⟨rfl,E⟩;obtain ⟨o,D⟩:=ar.out;have X:Y.heap[w.heap.size]?=_:=(E.block _ (y7 o)).trans o;have T:Y.heap[Z.heap.size]?=_:=(E.block _ (y7 D)).trans D;have an:Hid (Y.heap[w.heap.size]?=some (.cells #[.int .i64 k,.int .i64 n,.string (za s)] 24 (0,0))∧Y.heap[Z.heap.size]?=some (.cells #[.int .i64 a,.string (za b),.bool c,.int .i64 d,.bool f,.string (za g)] 55 (0,0))):=⟨X,T⟩;have ak:Hid (Below w.heap.size w Y):=yb aq.out E;obtain ⟨Q,K,V,-⟩:=zw X;obtain ⟨r0,r1,r2,r3,r4,r5,-⟩:=zG T;clear o D X T E;cases pa with
  | false =>
   have R:Hid (¬ Zt Zy k n s):=fun h=>by have:=I.out.2 ⟨(H.out.1 h).2.1,(H.out.1 h).2.2.1⟩;cases this
   go_wp2
   go_ret
   exact ⟨.inr ⟨R.out,rfl⟩,ak.out⟩
  | true =>
   have cN:=C2.out Y;go_wp2_with fail
   refine cN.mono ?_;clear cN Q K V r0 r1 r2 r3 r4 r5;rintro e w5 ⟨rfl,G⟩;obtain ⟨o,D⟩:=an.out;have ab:w5.heap[w.heap.size]?=_:=(G.block _ (y7 o)).trans o;have af:w5.heap[Z.heap.size]?=_:=(G.block _ (y7 D)).trans D;have N:Hid (Below w.heap.size w w5):=yb ak.out G;obtain ⟨Q,K,V,-⟩:=zw ab;obtain ⟨r0,r1,r2,r3,r4,r5,-⟩:=zG af;clear o D ab af G;cases pn with
   | false =>
    have R:Hid (¬ Zt Zy k n s):=fun h=>by have:=al.out.2 (H.out.1 h).2.2.2.1;cases this
    go_wp2
    go_ret
    exact ⟨.inr ⟨R.out,rfl⟩,N.out⟩
   | true =>
    have cS:=C3.out w5 (HS.out.below N.out);go_wp2_with fail
    refine cS.mono ?_;clear cS Q K V r0 r1 r2 r3 r4 r5;rintro e w6 ⟨⟨q,rfl,hq⟩,ag⟩;have aj:Hid (Below w.heap.size w w6):=yb N.out ag
    have HQ:Hid (q=true↔Zt Zy k n s):=by
     show _↔_
     rw [hq,H.out];exact ⟨fun h=>⟨hr,(I.out.1 (by trivial)).1,(I.out.1 (by trivial)).2,al.out.1 (by trivial),h⟩,fun h=>h.2.2.2.2⟩
    clear hq ag;cases q with
    | false =>
     have R:Hid (¬ Zt Zy k n s):=fun h=>by have:=HQ.out.2 h;cases this
     clear HQ;go_wp2
     go_ret
     exact ⟨.inr ⟨R.out,rfl⟩,aj.out⟩
    | true =>
     have HY:Hid (Zt Zy k n s):=HQ.out.1 rfl;clear HQ;go_wp2
     go_ret
     exact ⟨.inl ⟨HY.out,rfl⟩,aj.out⟩
def Ux (e:Ending) (P:Prop):Prop:=∃q:Bool,e=.returned (.bool q)∧(q=true↔P)
def YW (k n:Int) (s:List UInt8):Prop:=((1≤k∧k≤8∨k=15∨k=16)∧n=0∧s=[])∨((k=9∨12≤k∧k≤14)∧s=[])∨((k=11∨k=17)∧n=0)∨k=10
theorem qK (k n:Int) (s:List UInt8) (w:World) :
  Calls Tryz.prog 54 #[yJ k n s] w fun e w'=>Ux e (YW k n s)∧Below w.heap.size w w':=by
 unfold yJ
 go_enter Tryz.func54,Tryz.ntmps54
 go_wp2
 all_goals
  go_ret
  refine ⟨⟨_,rfl,?_⟩,(Below.refl _ w).alloc (Nat.le_refl _) _⟩
  unfold YW
  simp_all
 all_goals first | omega | (by_cases hs:s=[] <;> simp [hs] <;> omega) | (by_cases hs:s=[] <;> simp [hs];done)
theorem Vn:∀l:List UInt8,(Lib.indexByte l 32=-1∧Zm l=(l,[]))∨∃i:Nat,Lib.indexByte l 32=i∧i<l.length∧Zm l=(l.take i,l.drop (i+1))
 | []=>.inl ⟨rfl,rfl⟩
 | c::r=>by
  by_cases hc:c=32
  ·subst hc
   exact .inr ⟨0,rfl,by simp,rfl⟩
  ·have y:(c==32)=false:=by simpa using hc
   have o:(c != 32)=true:=by simpa using hc
   have A:Zm (c::r)=(c::(Zm r).1,(Zm r).2):=by
    unfold Zm
    rw [List.takeWhile_cons,List.dropWhile_cons,if_pos o,if_pos o]
   rcases Vn r with ⟨h,z⟩ | ⟨i,h,z,D⟩
   ·refine .inl ⟨?_,by rw [A,z]⟩
    rw [Lib.indexByte,y,h];rfl
   ·refine .inr ⟨i+1,?_,by simp;omega,by rw [A,D];rfl⟩
    have e:((i:Int)==-1)=false:=beq_eq_false_iff_ne.2 (by omega)
    rw [Lib.indexByte,y,h,e]
    simp
theorem qL (l:List UInt8) (w:World) (hl:l.length<9223372036854775807) :
  Calls Tryz.prog 57 #[.string (za l),.string ⟨#[32]⟩] w fun e w'=>∃b,e=.returned (.tuple #[.string (za (Zm l).1),.string (za (Zm l).2),.bool b])∧Below w.heap.size w w':=by
 have h:=Tryz.stringslite_Index_one (za l) 32 w;have J:Hid ((za l).data.toList=l):=rfl;rw [show (za l).data.toList=l from rfl] at h
 rcases Vn l with ⟨o,z⟩ | ⟨i,o,z,A⟩
 ·rw [o] at h
  have y:Hid (Zm l=(l,[])):=z;clear o z
  go_enter Tryz.func57,Tryz.ntmps57
  go_wp2_with fail
  refine h.mono ?_;clear h;rintro e G ⟨rfl,rfl⟩;go_wp2
  go_ret3
  exact ⟨false,by rw [y.out];rfl,Below.refl _ _⟩
 ·rw [o] at h
  have y:Hid (Zm l=(l.take i,l.drop (i+1))):=A;have I:(0:Int)≤(i:Int):=by omega
  have D:=fun W=>XI W l i (by omega)
  have E:∀W,(Instr.slice 9 (.string (za l)) (some (.int .i64 ((i:Int)+1))) none none).run Tryz.prog W=.ok (.string (za (l.drop (i+1)))) W:=fun W=>yR W l (i+1) (by omega)
  have H:(i:Int)+1≤9223372036854775807:=by omega
  have mixed:Tryz.prog.follows Departure.mixedOrders=true:=by kernel_rfl
  clear o A
  go_enter Tryz.func57,Tryz.ntmps57
  go_wp2_with fail
  refine h.mono ?_;clear h;rintro e G ⟨rfl,rfl⟩;go_wp2_with fail
  go_region_o
  go_wp2
  go_ret3
  exact ⟨true,by rw [y.out];rfl,(Below.refl _ _).drew⟩
theorem Uy (l:List UInt8) (w:World) (hl:l.length<9223372036854775807) :
  Calls Tryz.prog 36 #[.string (za l),.string ⟨#[32]⟩] w fun e w'=>∃b,e=.returned (.tuple #[.string (za (Zm l).1),.string (za (Zm l).2),.bool b])∧Below w.heap.size w w':=by
 have h:=qL l w hl
 go_enter Tryz.func36,Tryz.ntmps36
 go_wp2_with fail
 refine h.mono ?_;clear h;rintro e y ⟨b,rfl,o⟩;go_wp2
 go_ret3
 exact ⟨b,rfl,o⟩
theorem VN (g:Nat) (l:List UInt8) (w:World) (hl:l.length<9223372036854775807) (hg:w.heap[g]?=some (.cells #[.string (za l)] 9 (0,0))) :
  Calls Tryz.prog 35 #[.pointer (some ⟨g,0,none⟩)] w fun e w'=>e=.returned (.string (za (Zm l).1))∧w'.heap[g]?=some (.cells #[.string (za (Zm l).2)] 9 (0,0))∧(∀j,j<w.heap.size→j≠g→w'.heap[j]?=w.heap[j]?)∧Below g w w':=by
 have D:=Uy l w hl;obtain ⟨A,-⟩:=Zq hg;have y:Hid (w.heap[g]?=some (.cells #[.string (za l)] 9 (0,0))):=hg;clear hg
 go_enter Tryz.func35,Tryz.ntmps35
 go_wp2_with fail
 refine D.mono ?_;clear D A;rintro e z ⟨b,rfl,o⟩;have h:z.heap[g]?=_:=(o.block _ (y7 y.out)).trans y.out;have E:Hid (Below w.heap.size w z∧z.heap[g]?=some (.cells #[.string (za l)] 9 (0,0))):=⟨o,h⟩;obtain ⟨A,H⟩:=Zq h;clear o h;go_wp2
 go_ret
 obtain ⟨o,h⟩:=E.out;have I:=o.size;have G:=y7 y.out;refine ⟨rfl,xR h _,fun j hj hne=>?_,(o.mono (by omega)).setCell (by simp) _⟩
 rw [Below.heap_setCell _ _ _ _ (by simp;omega)]
 exact o.block _ hj
def QT (w:World):Prop:=xX w∧∃u v,w.cell? ⟨1,0,none⟩=some (.iface u v)
theorem QT.below {w w':World} (h:QT w) (hb:Below w.heap.size w w'):QT w':=by
 obtain ⟨o,u,v,e⟩:=h;exact ⟨o.below hb,u,v,by rw [hb.cell (World.block_lt_of_cell? w _ e)];exact e⟩
theorem qM (l:List UInt8) (w:World) (hl:l.length≤100000000) (hT:QT w) :
  Calls Tryz.prog 39 #[.string (za l)] w fun e w'=>∃v,e=.returned (.tuple #[.int .i64 (Yn l),v])∧Below w.heap.size w w':=by
 obtain ⟨E,u,v,G⟩:=hT;obtain ⟨H,J,y⟩:=E.1.1.range;have I:(za l).size=l.length:=rfl;cases h:Lib.atoiAll l with
 | ok x =>
  have o:Yn l=x:=by unfold Yn;rw [h]
  rw [o];refine (Tryz.strconv_Atoi_ok (za l) (by omega) x h w).mono ?_
  rintro e A ⟨rfl,D⟩;refine ⟨_,rfl,?_⟩;rcases D with rfl | ⟨t,rfl⟩
  ·exact Below.refl _ _
  ·exact Lib.bytesWorld_below _ _ _
 | «syntax» =>
  have o:Yn l=0:=by unfold Yn;rw [h]
  rw [o];refine (Tryz.strconv_Atoi_syntax (za l) (by omega) h _ w G (.inr ⟨_,_,rfl⟩)).mono ?_
  rintro e A ⟨N,rfl,-,-,z⟩;exact ⟨_,rfl,z⟩
 | range =>
  have o:Yn l=Lib.atoiSat l:=by unfold Yn;rw [h]
  rw [o];refine (Tryz.strconv_Atoi_range (za l) (by omega) h _ w y (.inr ⟨_,_,rfl⟩)).mono ?_
  rintro e A ⟨N,rfl,-,-,z⟩;exact ⟨_,rfl,z⟩
end Go.Proofs.YtmbofhpmockmbaaGreatDoor
