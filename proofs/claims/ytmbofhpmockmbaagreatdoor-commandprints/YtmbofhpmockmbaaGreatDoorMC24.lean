import Derived.Test.YtmbofhpmockmbaaGreatDoorSReadX
import Derived.Test.YtmbofhpmockmbaaGreatDoorMC7
import Derived.Test.YtmbofhpmockmbaaGreatDoorMC1
import Derived.Test.YtmbofhpmockmbaaGreatDoorMC10
import Derived.Shelf.RegionOpenPlain
import Derived.Lib.AtoiAllCases
namespace Go.Proofs.YtmbofhpmockmbaaGreatDoor
open Go.RowKit Go.Shelf
set_option maxHeartbeats 16000000
set_option maxRecDepth 100000
theorem zaR (l:List UInt8) (w:World) (ht:Z1 w) (hl:yF w) (he:Xf w) :
  Calls Tryz.prog 56 #[.string (za l)] w fun e w' =>
   ∃(x:Ex) (at0 h:Nat) (v:Value),e=.returned (.tuple #[v,.int .i64 at0,.int .i64 h])∧zR l x at0 h∧zM w.heap.size w' x v∧Below w.heap.size w w':=by
 have I:Below w.heap.size w (w.alloc zJ):=(Below.refl w.heap.size w).alloc (Nat.le_refl _) _;have J:=zaN l (w.alloc zJ) (ht.below I (Nat.le_refl _)) (fun j v hj=>zc (hl j v hj) _) (zc he _)
 go_enter Tryz.func56,Tryz.ntmps56
 go_wp2_with fail
 refine J.mono ?_;clear J;rintro e w1 ⟨x,at0,h,v,rfl,K,E,o⟩;obtain ⟨a,b,c,y,z,A,k,rfl⟩:=E.agg;have G:(w.alloc zJ).heap.size=w.heap.size+1:=by simp
 rw [G] at E o;have H:w1.heap[w.heap.size]?=some zJ:=(o.block w.heap.size (by omega)).trans (World.alloc_heap_new w _)
 obtain ⟨q0,W,Y,Z,V,X⟩:=zd H;obtain ⟨R,M,U,N,L⟩:=zi H (.int .i64 a) (.string b) (.int .i64 c) (.slice y z A) (.int .i64 k);have D:Below w.heap.size w w1:=I.trans (o.mono (by omega))
 have Q:Hid (Below w.heap.size w (set5 w1 w.heap.size (.int .i64 a) (.string b) (.int .i64 c) (.slice y z A) (.int .i64 k))) :=
  ((((D.setCell (p:=⟨w.heap.size,0,none⟩) (by simp) _).setCell (p:=⟨w.heap.size,1,none⟩) (by simp) _).setCell (p:=⟨w.heap.size,2,none⟩) (by simp) _).setCell (p:=⟨w.heap.size,3,none⟩) (by simp) _).setCell (p:=⟨w.heap.size,4,none⟩) (by simp) _
 have T:Hid (zM w.heap.size (set5 w1 w.heap.size (.int .i64 a) (.string b) (.int .i64 c) (.slice y z A) (.int .i64 k)) x (.agg #[.int .i64 a,.string b,.int .i64 c,.slice y z A,.int .i64 k])) :=
  zM.mono (zM.kept E (w':=set5 w1 w.heap.size (.int .i64 a) (.string b) (.int .i64 c) (.slice y z A) (.int .i64 k)) (by simp) fun j hj _=>zh _ _ _ _ _ _ _ (by omega)) (by omega)
 have O:Hid (zR l x at0 h):=K;clear I D E o K H ht hl he;go_wp2
 exact bodyPost_ret (v:=.tuple #[.agg #[.int .i64 a,.string b,.int .i64 c,.slice y z A,.int .i64 k],.int .i64 at0,.int .i64 h]) (by simp [results,Tryz.results56,go_sem,R,M,U,N,L]) rfl ⟨x,at0,h,_,rfl,O.out,T.out,Q.out⟩
def x7 (f:Nat) (l:List UInt8):Ex × Nat × Nat :=
 if (Y4 l).2.2≠0 then (Z2,(Y4 l).2.1,(Y4 l).2.2) else
 match zg f 1 (Y4 l).1 with
 | none=>(Z2,0,99)
 | some res=>match Zs res with
  | .error a=>(Z2,a,6)
  | .ok y=>if 24<depthE y then (Z2,0,7) else (y,0,0)
theorem V8 {l:List UInt8} {x:Ex} {a e:Nat} (f:Nat) (hl:l.length≤4096) (h:zR l x a e) (hd:(x7 f l).2.2≠99):x7 f l=(x,a,e):=by
 unfold zR at h
 rw [UH hl] at h
 unfold x7 at hd ⊢
 by_cases hc:(Y4 l).2.2≠0
 ·rw [if_pos hc] at h ⊢
  obtain ⟨rfl,rfl,rfl⟩:=h
  rfl
 ·rw [if_neg hc] at h hd ⊢
  obtain ⟨A,res,z,o⟩:=h;cases hp:zg f 1 (Y4 l).1 with
  | none=>rw [hp] at hd;exact absurd rfl hd
  | some r2 =>
   obtain rfl:=Yc hp z;cases hw:Zs r2 with
   | error a=>rw [hw] at o;obtain ⟨rfl,rfl,rfl⟩:=o;simp only [hw]
   | ok y =>
    rw [hw] at o;simp only [hw] at o ⊢
    by_cases hdp:24<depthE y
    ·rw [if_pos hdp] at o ⊢;obtain ⟨rfl,rfl,rfl⟩:=o;rfl
    ·rw [if_neg hdp] at o ⊢;obtain ⟨rfl,rfl,rfl⟩:=o;rfl
theorem V9 {l:List UInt8} {x x':Ex} {a a' e e':Nat} (h:zR l x a e) (h':zR l x' a' e'):x=x'∧a=a'∧e=e':=by
 unfold zR at h h'
 by_cases hc:(zn l).2.2≠0
 ·rw [if_pos hc] at h h'
  exact ⟨h.1.trans h'.1.symm,h.2.1.trans h'.2.1.symm,h.2.2.trans h'.2.2.symm⟩
 ·rw [if_neg hc] at h h'
  obtain ⟨f,r,D,z⟩:=h;obtain ⟨G,E,A,o⟩:=h';obtain rfl:=Yc D A;cases hw:Zs r with
  | error b =>
   rw [hw] at z o;exact ⟨z.1.trans o.1.symm,z.2.1.trans o.2.1.symm,z.2.2.trans o.2.2.symm⟩
  | ok y =>
   rw [hw] at z o;simp only at z o
   by_cases hd:24<depthE y
   ·rw [if_pos hd] at z o
    exact ⟨z.1.trans o.1.symm,z.2.1.trans o.2.1.symm,z.2.2.trans o.2.2.symm⟩
   ·rw [if_neg hd] at z o
    exact ⟨z.1.trans o.1.symm,z.2.1.trans o.2.1.symm,z.2.2.trans o.2.2.symm⟩
def ZE (s:List UInt8):Prop:=∃x at0,zR s x at0 0
theorem Vq {l:List UInt8} {x:Ex} {at0 err:Nat} (h:zR l x at0 err):ZE l↔err=0:=by
 refine ⟨fun ⟨x',a',h'⟩=>(V9 h h').2.2,fun e=>?_⟩
 subst e;exact ⟨x,at0,h⟩
def Vr (r:Wq) (s:List UInt8):Prop:=r.2.2.2.2.1=true→(s=[]∧r.2.2.2.2.2≠[])∨(s.length≤255∧ZE s)
theorem Qo (r:Wq) (s:List UInt8) (w:World) (hS:xN w) :
  Calls Tryz.prog 33 #[wV r,.string (za s)] w fun e w'=>(∃q:Bool,e=.returned (.bool q)∧(q=true↔Vr r s))∧Below w.heap.size w w':=by
 obtain ⟨a,b,c,d,f,g⟩:=r;have HS:Hid (xN w):=hS;obtain ⟨N,K,z,aa,U⟩:=Yg w (.cells #[.int .i64 a,.string (za b),.bool c,.int .i64 d,.bool f,.string (za g)] 55 (0,0));have H:=zaR s N (hS.below z).1.1 (hS.below z).2.1 (hS.below z).2.2;obtain ⟨W,V,R,T,Q,O,-⟩:=zE U;have o:Hid (Below w.heap.size w N):=z;have E:=K.symm
 unfold wV
 simp only;clear hS z K U;cases f with
 | false =>
  have D:Hid (Vr (a,b,c,d,false,g) s):=fun h=>by cases h
  clear H
  go_enter Tryz.func33,Tryz.ntmps33
  go_wp2
  go_ret
  exact ⟨⟨true,rfl,by simp [D.out]⟩,o.out⟩
 | true =>
  by_cases h0:s=[]
  ·subst h0
   by_cases h1:g=[]
   ·subst h1
    have D:Hid (Vr (a,b,c,d,true,[]) []↔ZE []):=by show _↔_;simp [Vr]
    go_enter Tryz.func33,Tryz.ntmps33
    go_wp2_with fail
    refine H.mono ?_;clear H W V R T Q O E;rintro e M ⟨x,at0,G,v,rfl,J,I,A⟩;obtain ⟨a',b',Z,d0,X,d2,k',rfl⟩:=I.agg;have y:Hid (Below w.heap.size w M):=Z8 o.out A;have L:Hid (ZE []↔G=0):=Vq J;clear J I A;go_wp2
    go_ret
    exact ⟨⟨_,rfl,by rw [D.out,L.out];simp⟩,y.out.alloc y.out.size _⟩
   ·obtain ⟨Y,gs,rfl⟩:=List.exists_cons_of_ne_nil h1
    have D:Hid (Vr (a,b,c,d,true,Y::gs) []):=fun _=>.inl ⟨rfl,h1⟩
    clear H
    go_enter Tryz.func33,Tryz.ntmps33
    go_wp2
    go_ret
    exact ⟨⟨true,rfl,by simp [D.out]⟩,o.out⟩
  ·by_cases h1:255<s.length
   ·have D:Hid (¬ Vr (a,b,c,d,true,g) s):=fun h=>by
     rcases h rfl with h | h
     ·exact h0 h.1
     ·omega
    have h2:(255:Int)<s.length:=by omega
    clear H
    go_enter Tryz.func33,Tryz.ntmps33
    go_wp2
    go_ret
    exact ⟨⟨false,rfl,by simp [D.out]⟩,o.out⟩
   ·have D:Hid (Vr (a,b,c,d,true,g) s↔ZE s):=by
     show _↔_
     refine ⟨fun h=>?_,fun h _=>.inr ⟨by omega,h⟩⟩
     rcases h rfl with h | h
     ·exact absurd h.1 h0
     ·exact h.2
    have h2:¬ (255:Int)<s.length:=by omega
    go_enter Tryz.func33,Tryz.ntmps33
    go_wp2_with fail
    refine H.mono ?_;clear H W V R T Q O E;rintro e M ⟨x,at0,G,v,rfl,J,I,A⟩;obtain ⟨a',b',Z,d0,X,d2,k',rfl⟩:=I.agg;have y:Hid (Below w.heap.size w M):=Z8 o.out A;have L:Hid (ZE s↔G=0):=Vq J;clear J I A;go_wp2
    go_ret
    exact ⟨⟨_,rfl,by rw [D.out,L.out];simp⟩,y.out.alloc y.out.size _⟩
theorem uZ (k:Int) (h:ofKind k≠yT):(ofKind k).1=k∧(ofKind k).1≠0:=by
 by_cases hk:k<1∨17<k
 ·exact absurd (yU k hk) h
 ·have e:(ofKind k).1=k:=Xv (P:=fun k=>(ofKind k).1=k) (by decide) (by decide) (by decide) (by decide) (by decide) (by decide) (by decide) (by decide) (by decide) (by decide) (by decide) (by decide) (by decide) (by decide) (by decide) (by decide) (by decide) k (by omega) (by omega)
  exact ⟨e,by omega⟩
theorem vW (k n:Int) (s:List UInt8) (w:World) (hS:xN w) :
  Calls Tryz.prog 11 #[yi k n s] w fun e w'=>(ZP ZE k n s∧e=.returned (.int .i64 0)∨¬ ZP ZE k n s∧e=.returned (.int .i64 2))∧Below w.heap.size w w':=by
 have HS:Hid (xN w):=hS;obtain ⟨w1,am,y,aq,o⟩:=Yg w (.cells #[.int .i64 k,.int .i64 n,.string (za s)] 24 (0,0));have cw:=Xx k w1;obtain ⟨X,O,M,-⟩:=zv o;have HP:Hid (Below w.heap.size w w1∧w1.heap[w.heap.size]?=some (.cells #[.int .i64 k,.int .i64 n,.string (za s)] 24 (0,0))):=⟨y,o⟩;have ag:=am.symm
 unfold yi
 clear hS y am o aq
 go_enter Tryz.func11,Tryz.ntmps11
 go_wp2_with fail
 refine cw.mono ?_;clear cw X O M ag;rintro e Z ⟨rfl,A⟩;have H:Hid (ZP ZE k n s↔ofKind k≠yT∧((ofKind k).2.2.1=false→n=0)∧((ofKind k).2.2.2.2.1=false→s=[])∧((ofKind k).2.2.1=true→(ofKind k).2.2.2.1≤n∧n≤4294967296)∧Vr (ofKind k) s):=Iff.rfl;have HO:Hid (ofKind k≠yT→(ofKind k).1=k∧(ofKind k).1≠0):=uZ k;have L:Hid (∀W,Calls Tryz.prog 31 #[wV (ofKind k),yi k n s] W fun e w'=>e=.returned (.bool (decide (k=(ofKind k).1∧((ofKind k).2.2.1=false→n=0)∧((ofKind k).2.2.2.2.1=false→s=[]))))∧Below W.heap.size W w'):=fun W=>uQ _ k n s W
 have Y:Hid (∀W,Calls Tryz.prog 32 #[wV (ofKind k),.int .i64 n] W fun e w'=>e=.returned (.bool (decide ((ofKind k).2.2.1=true→(ofKind k).2.2.2.1≤n∧n≤4294967296)))∧Below W.heap.size W w'):=fun W=>qX _ n W
 have C3:Hid (∀W,xN W→Calls Tryz.prog 33 #[wV (ofKind k),.string (za s)] W fun e w'=>(∃q:Bool,e=.returned (.bool q)∧(q=true↔Vr (ofKind k) s))∧Below W.heap.size W w'):=fun W hW=>Qo _ s W hW
 generalize ofKind k=r at H HO L Y C3 ⊢;obtain ⟨a,b,c,d,f,g⟩:=r
 unfold wV at L Y C3
 unfold yi at L
 unfold wV
 simp only at L Y C3 H HO ⊢
 by_cases hr:(a,b,c,d,f,g)=yT
 ·have V:Hid (¬ ZP ZE k n s):=fun h=>(H.out.1 h).1 hr
  unfold yT at hr
  simp only [Prod.mk.injEq] at hr;obtain ⟨rfl,rfl,rfl,rfl,rfl,rfl⟩:=hr;obtain ⟨y,o⟩:=HP.out;have ae:Hid (Below w.heap.size w Z):=Z8 y A;clear y o A L Y C3 HO H;go_wp2
  go_ret
  exact ⟨.inr ⟨V.out,rfl⟩,ae.out.alloc ae.out.size _⟩
 ·have al:=(HO.out hr).1
  have ha:=(HO.out hr).2;obtain ⟨w3,aj,Q,ar,D⟩:=Yg Z (.cells #[.int .i64 a,.string (za b),.bool c,.int .i64 d,.bool f,.string (za g)] 55 (0,0));obtain ⟨y,o⟩:=HP.out;have N:w3.heap[w.heap.size]?=some (.cells #[.int .i64 k,.int .i64 n,.string (za s)] 24 (0,0)):=((Z8 A Q).block _ (Yf o)).trans o;have z:Below w.heap.size w w3:=Z8 y (Z8 A Q);have ap:Hid (Below w.heap.size w w3):=z;have au:Hid (xN w3):=HS.out.below z;have an:Hid (w3.heap[w.heap.size]?=some (.cells #[.int .i64 k,.int .i64 n,.string (za s)] 24 (0,0))∧w3.heap[Z.heap.size]?=some (.cells #[.int .i64 a,.string (za b),.bool c,.int .i64 d,.bool f,.string (za g)] 55 (0,0))):=⟨N,D⟩;have ak:=aj.symm;clear y aj Q ar A o z HP;obtain ⟨X,O,M,-⟩:=zv N;obtain ⟨r0,r1,r2,r3,r4,r5,-⟩:=zE D;clear N D;have av:(a==0)=false:=by simpa using ha
  obtain ⟨pa,R⟩:∃p:Bool,p=decide (k=a∧(c=false→n=0)∧(f=false→s=[])):=⟨_,rfl⟩;obtain ⟨pn,K⟩:∃p:Bool,p=decide (c=true→d≤n∧n≤4294967296):=⟨_,rfl⟩;rw [←R] at L;rw [←K] at Y;have T:Hid (pa=true↔(c=false→n=0)∧(f=false→s=[])):=by show _↔_;rw [R,decide_eq_true_eq];exact ⟨fun h=>h.2,fun h=>⟨al.symm,h⟩⟩
  have ad:Hid (pn=true↔(c=true→d≤n∧n≤4294967296)):=by show _↔_;rw [K,decide_eq_true_eq]
  have cA:=L.out w3;clear R K al;go_wp2_with fail
  refine cA.mono ?_;clear cA ak X O M r0 r1 r2 r3 r4 r5;rintro e w4 ⟨rfl,G⟩;obtain ⟨o,D⟩:=an.out;have J:w4.heap[w.heap.size]?=_:=(G.block _ (Yf o)).trans o;have I:w4.heap[Z.heap.size]?=_:=(G.block _ (Yf D)).trans D;have ao:Hid (w4.heap[w.heap.size]?=some (.cells #[.int .i64 k,.int .i64 n,.string (za s)] 24 (0,0))∧w4.heap[Z.heap.size]?=some (.cells #[.int .i64 a,.string (za b),.bool c,.int .i64 d,.bool f,.string (za g)] 55 (0,0))):=⟨J,I⟩;have aa:Hid (Below w.heap.size w w4):=Z8 ap.out G;obtain ⟨X,O,M,-⟩:=zv J;obtain ⟨r0,r1,r2,r3,r4,r5,-⟩:=zE I;clear o D J I G;cases pa with
  | false =>
   have V:Hid (¬ ZP ZE k n s):=fun h=>by have:=T.out.2 ⟨(H.out.1 h).2.1,(H.out.1 h).2.2.1⟩;cases this
   go_wp2
   go_ret
   exact ⟨.inr ⟨V.out,rfl⟩,aa.out⟩
  | true =>
   have cN:=Y.out w4;go_wp2_with fail
   refine cN.mono ?_;clear cN X O M r0 r1 r2 r3 r4 r5;rintro e w5 ⟨rfl,E⟩;obtain ⟨o,D⟩:=ao.out;have ab:w5.heap[w.heap.size]?=_:=(E.block _ (Yf o)).trans o;have ah:w5.heap[Z.heap.size]?=_:=(E.block _ (Yf D)).trans D;have U:Hid (Below w.heap.size w w5):=Z8 aa.out E;obtain ⟨X,O,M,-⟩:=zv ab;obtain ⟨r0,r1,r2,r3,r4,r5,-⟩:=zE ah;clear o D ab ah E;cases pn with
   | false =>
    have V:Hid (¬ ZP ZE k n s):=fun h=>by have:=ad.out.2 (H.out.1 h).2.2.2.1;cases this
    go_wp2
    go_ret
    exact ⟨.inr ⟨V.out,rfl⟩,U.out⟩
   | true =>
    have cS:=C3.out w5 (HS.out.below U.out);go_wp2_with fail
    refine cS.mono ?_;clear cS X O M r0 r1 r2 r3 r4 r5;rintro e w6 ⟨⟨q,rfl,hq⟩,af⟩;have ai:Hid (Below w.heap.size w w6):=Z8 U.out af
    have HQ:Hid (q=true↔ZP ZE k n s):=by
     show _↔_
     rw [hq,H.out];exact ⟨fun h=>⟨hr,(T.out.1 (by trivial)).1,(T.out.1 (by trivial)).2,ad.out.1 (by trivial),h⟩,fun h=>h.2.2.2.2⟩
    clear hq af;cases q with
    | false =>
     have V:Hid (¬ ZP ZE k n s):=fun h=>by have:=HQ.out.2 h;cases this
     clear HQ;go_wp2
     go_ret
     exact ⟨.inr ⟨V.out,rfl⟩,ai.out⟩
    | true =>
     have HY:Hid (ZP ZE k n s):=HQ.out.1 rfl;clear HQ;go_wp2
     go_ret
     exact ⟨.inl ⟨HY.out,rfl⟩,ai.out⟩
def Ua (e:Ending) (P:Prop):Prop:=∃q:Bool,e=.returned (.bool q)∧(q=true↔P)
def YO (k n:Int) (s:List UInt8):Prop:=((1≤k∧k≤8∨k=15∨k=16)∧n=0∧s=[])∨((k=9∨12≤k∧k≤14)∧s=[])∨((k=11∨k=17)∧n=0)∨k=10
theorem qk (k n:Int) (s:List UInt8) (w:World) :
  Calls Tryz.prog 54 #[yi k n s] w fun e w'=>Ua e (YO k n s)∧Below w.heap.size w w':=by
 unfold yi
 go_enter Tryz.func54,Tryz.ntmps54
 go_wp2
 all_goals
  go_ret
  refine ⟨⟨_,rfl,?_⟩,(Below.refl _ w).alloc (Nat.le_refl _) _⟩
  unfold YO
  simp_all
 all_goals first | omega | (by_cases hs:s=[] <;> simp [hs] <;> omega) | (by_cases hs:s=[] <;> simp [hs];done)
theorem vX:∀l:List UInt8,(Lib.indexByte l 32=-1∧Zp l=(l,[]))∨∃i:Nat,Lib.indexByte l 32=i∧i<l.length∧Zp l=(l.take i,l.drop (i+1))
 | []=>.inl ⟨rfl,rfl⟩
 | c::r=>by
  by_cases hc:c=32
  ·subst hc
   exact .inr ⟨0,rfl,by simp,rfl⟩
  ·have A:(c==32)=false:=by simpa using hc
   have y:(c != 32)=true:=by simpa using hc
   have z:Zp (c::r)=(c::(Zp r).1,(Zp r).2):=by
    unfold Zp
    rw [List.takeWhile_cons,List.dropWhile_cons,if_pos y,if_pos y]
   rcases vX r with ⟨e,o⟩ | ⟨i,e,o,D⟩
   ·refine .inl ⟨?_,by rw [z,o]⟩
    rw [Lib.indexByte,A,e];rfl
   ·refine .inr ⟨i+1,?_,by simp;omega,by rw [z,D];rfl⟩
    have h:((i:Int)==-1)=false:=beq_eq_false_iff_ne.2 (by omega)
    rw [Lib.indexByte,A,e,h]
    simp
theorem qm (l:List UInt8) (w:World) (hl:l.length<9223372036854775807) :
  Calls Tryz.prog 57 #[.string (za l),.string ⟨#[32]⟩] w fun e w'=>∃b,e=.returned (.tuple #[.string (za (Zp l).1),.string (za (Zp l).2),.bool b])∧Below w.heap.size w w':=by
 have h:=Tryz.stringslite_Index_one (za l) 32 w;have I:Hid ((za l).data.toList=l):=rfl;rw [show (za l).data.toList=l from rfl] at h
 rcases vX l with ⟨o,y⟩ | ⟨i,o,y,A⟩
 ·rw [o] at h
  have z:Hid (Zp l=(l,[])):=y;clear o y
  go_enter Tryz.func57,Tryz.ntmps57
  go_wp2_with fail
  refine h.mono ?_;clear h;rintro e E ⟨rfl,rfl⟩;go_wp2
  go_ret3
  exact ⟨false,by rw [z.out];rfl,Below.refl _ _⟩
 ·rw [o] at h
  have z:Hid (Zp l=(l.take i,l.drop (i+1))):=A;have J:(0:Int)≤(i:Int):=by omega
  have H:=fun W=>uP W l i (by omega)
  have G:∀W,(Instr.slice 9 (.string (za l)) (some (.int .i64 ((i:Int)+1))) none none).run Tryz.prog W=.ok (.string (za (l.drop (i+1)))) W:=fun W=>YJ W l (i+1) (by omega)
  have D:(i:Int)+1≤9223372036854775807:=by omega
  have mixed:Tryz.prog.follows Departure.mixedOrders=true:=by kernel_rfl
  clear o A
  go_enter Tryz.func57,Tryz.ntmps57
  go_wp2_with fail
  refine h.mono ?_;clear h;rintro e E ⟨rfl,rfl⟩;go_wp2_with fail
  go_region_o
  go_wp2
  go_ret3
  exact ⟨true,by rw [z.out];rfl,(Below.refl _ _).drew⟩
theorem Ub (l:List UInt8) (w:World) (hl:l.length<9223372036854775807) :
  Calls Tryz.prog 36 #[.string (za l),.string ⟨#[32]⟩] w fun e w'=>∃b,e=.returned (.tuple #[.string (za (Zp l).1),.string (za (Zp l).2),.bool b])∧Below w.heap.size w w':=by
 have h:=qm l w hl
 go_enter Tryz.func36,Tryz.ntmps36
 go_wp2_with fail
 refine h.mono ?_;clear h;rintro e y ⟨b,rfl,o⟩;go_wp2
 go_ret3
 exact ⟨b,rfl,o⟩
theorem Vs (g:Nat) (l:List UInt8) (w:World) (hl:l.length<9223372036854775807) (hg:w.heap[g]?=some (.cells #[.string (za l)] 9 (0,0))) :
  Calls Tryz.prog 35 #[.pointer (some ⟨g,0,none⟩)] w fun e w'=>e=.returned (.string (za (Zp l).1))∧w'.heap[g]?=some (.cells #[.string (za (Zp l).2)] 9 (0,0))∧(∀j,j<w.heap.size→j≠g→w'.heap[j]?=w.heap[j]?)∧Below g w w':=by
 have A:=Ub l w hl;obtain ⟨D,-⟩:=Zm hg;have y:Hid (w.heap[g]?=some (.cells #[.string (za l)] 9 (0,0))):=hg;clear hg
 go_enter Tryz.func35,Tryz.ntmps35
 go_wp2_with fail
 refine A.mono ?_;clear A D;rintro e z ⟨b,rfl,o⟩;have h:z.heap[g]?=_:=(o.block _ (Yf y.out)).trans y.out;have E:Hid (Below w.heap.size w z∧z.heap[g]?=some (.cells #[.string (za l)] 9 (0,0))):=⟨o,h⟩;obtain ⟨D,I⟩:=Zm h;clear o h;go_wp2
 go_ret
 obtain ⟨o,h⟩:=E.out;have H:=o.size;have G:=Yf y.out;refine ⟨rfl,xH h _,fun j hj hne=>?_,(o.mono (by omega)).setCell (by simp) _⟩
 rw [Below.heap_setCell _ _ _ _ (by simp;omega)]
 exact o.block _ hj
def QT (w:World):Prop:=xN w∧∃u v,w.cell? ⟨1,0,none⟩=some (.iface u v)
theorem QT.below {w w':World} (h:QT w) (hb:Below w.heap.size w w'):QT w':=by
 obtain ⟨o,u,v,e⟩:=h;exact ⟨o.below hb,u,v,by rw [hb.cell (World.block_lt_of_cell? w _ e)];exact e⟩
theorem qo (l:List UInt8) (w:World) (hl:l.length≤100000000) (hT:QT w) :
  Calls Tryz.prog 39 #[.string (za l)] w fun e w'=>∃v,e=.returned (.tuple #[.int .i64 (YI l),v])∧Below w.heap.size w w':=by
 obtain ⟨D,u,v,E⟩:=hT;obtain ⟨I,J,y⟩:=D.1.1.range;have H:(za l).size=l.length:=rfl;cases h:Lib.atoiAll l with
 | ok x =>
  have o:YI l=x:=by unfold YI;rw [h]
  rw [o];refine (Tryz.strconv_Atoi_ok (za l) (by omega) x h w).mono ?_
  rintro e A ⟨rfl,G⟩;refine ⟨_,rfl,?_⟩;rcases G with rfl | ⟨t,rfl⟩
  ·exact Below.refl _ _
  ·exact Lib.bytesWorld_below _ _ _
 | «syntax» =>
  have o:YI l=0:=by unfold YI;rw [h]
  rw [o];refine (Tryz.strconv_Atoi_syntax (za l) (by omega) h _ w E (.inr ⟨_,_,rfl⟩)).mono ?_
  rintro e A ⟨N,rfl,-,-,z⟩;exact ⟨_,rfl,z⟩
 | range =>
  have o:YI l=Lib.atoiSat l:=by unfold YI;rw [h]
  rw [o];refine (Tryz.strconv_Atoi_range (za l) (by omega) h _ w y (.inr ⟨_,_,rfl⟩)).mono ?_
  rintro e A ⟨N,rfl,-,-,z⟩;exact ⟨_,rfl,z⟩
end Go.Proofs.YtmbofhpmockmbaaGreatDoor
