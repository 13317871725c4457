import Derived.Test.YtmbofhpmockmbaaGreatDoorSDUnary
import Derived.Test.YtmbofhpmockmbaaGreatDoorSDSingle
import Derived.Test.YtmbofhpmockmbaaGreatDoorMC35
import Derived.Test.YtmbofhpmockmbaaGreatDoorMC9
import Derived.Test.YtmbofhpmockmbaaGreatDoorMC38
import Derived.Test.YtmbofhpmockmbaaGreatDoorXRef7
namespace Go.Proofs.YtmbofhpmockmbaaGreatDoor
open Go.RowKit Go.Shelf
set_option maxHeartbeats 16000000
set_option maxRecDepth 100000
theorem UU (r g:Nat):∀F,Yd r g F∧xA r g F∧XH r g F∧Ue r g F
 | 0=>by
  refine ⟨fun k hk line σ q w hl hq h=>?_,fun k hk σ q w hq h=>?_,fun k hk σ q w hq h=>?_,fun k hk s b σ q w hq h=>?_⟩ <;> (obtain rfl:k=0:=by omega) <;> simp [yO,ZL,yb,ZN] at hq
 | F+1=>by
  obtain ⟨i1,y,z,A⟩:=UU r g F;have o:∀k,k≤F+1→k≤F∨k=F+1:=fun k h=>by omega
  refine ⟨fun k hk line σ q w hl hq h=>?_,fun k hk σ q w hq h=>?_,fun k hk σ q w hq h=>?_,fun k hk s b σ q w hq h=>?_⟩
  ·rcases o k hk with e | rfl
   ·exact i1 k e line σ q w hl hq h
   ·rw [yO] at hq
    by_cases h6:line=6
    ·subst h6
     rw [if_pos rfl] at hq;exact qq r g F σ w q h hq y
    ·rw [if_neg h6] at hq
     exact Uf r g F line σ w q h (by omega) hq i1
  ·rcases o k hk with e | rfl
   ·exact y k e σ q w hq h
   ·exact Q3 r g F σ w q h hq y z i1
  ·rcases o k hk with e | rfl
   ·exact z k e σ q w hq h
   ·exact Qj r g F σ w q h hq i1 A
  ·rcases o k hk with e | rfl
   ·exact A k e s b σ q w hq h
   ·exact Q6 r g F s b σ w q h hq i1
theorem QO (l:List Ez):∀i y,l[i]?=some y→X5 (l.take (i+1))=max (X5 (l.take i)) (dpE y):=by
 induction l with
 | nil=>intro i y h;simp at h
 | cons x xs ih =>
  intro i y h;cases i with
  | zero =>
   simp only [List.getElem?_cons_zero,Option.some.injEq] at h;subst h
   simp [X5]
  | succ i =>
   have:=ih i y (by simpa using h)
   rw [List.take_succ_cons,List.take_succ_cons,X5,X5,this,Nat.max_assoc]
theorem QP {k:Int} {s:List UInt8} {n:Int} {kids:List Ez} {line:Int} {N i:Nat} {y:Ez} (h:dpE (.mk k s n kids line)≤N+1) (hy:kids[i]?=some y):dpE y≤N:=by
 rw [dpE] at h;exact (Xo (d:=N)).1 (by omega) y (List.mem_of_getElem? hy)
theorem uB (l:List Ez) (i:Nat):X5 (l.take i)≤X5 l:=by
 refine Xo.2 fun y hy=>Xo.1 (Nat.le_refl _) y (List.mem_of_mem_take hy)
theorem X2:∀(N:Nat) (x:Ez) (v:Value) (w:World),N≤4611686018427387904→dpE x≤N→Yx w.heap.size w x v →
  Calls Tryz.prog 93 #[v] w fun e w'=>e=.returned (.int .i64 (dpE x:Int))∧Below w.heap.size w w'
 | 0,.mk k s n kids line,v,w,_,hd,_=>by rw [dpE] at hd;omega
 | N+1,.mk k s n kids line,v,w,hN,hd,hx=>by
  obtain ⟨base,H,rfl,hc,T,hs,an,am,G⟩:=hx.kid;obtain ⟨m,hm⟩:∃m,m=kids.length:=⟨_,rfl⟩;rw [←hm] at hc ⊢;have ah:m≤9223372036854775807:=by unfold maxLen at T;omega
  obtain ⟨R,hR⟩:∃R,R=dpE (.mk k s n kids line):=⟨_,rfl⟩;rw [←hR];have HR:Hid (R=X5 kids+1):=hR;have L:X5 kids≤N:=by rw [dpE] at hd;omega
  obtain ⟨w1,E⟩:∃w1,w1=w.alloc (ezO k s n base m H line):=⟨_,rfl⟩;have K:Below w.heap.size w w1:=by rw [E];exact (Below.refl _ w).alloc (Nat.le_refl _) _
  have p1:w1.heap[w.heap.size]?=some (ezO k s n base m H line):=by rw [E];exact World.alloc_heap_new w _
  have ai:w1.heap.size=w.heap.size+1:=by rw [E];simp
  have HK:Hid (∀i y,kids[i]?=some y→∀W,Below w1.heap.size w1 W→∃b o Q V U a4 a5 X O,base=some ⟨b,o,none⟩∧W.cell? ⟨b,o+i*5,none⟩=some (.int .i64 Q)∧W.cell? ⟨b,o+i*5+1,none⟩=some (.string (za V))∧W.cell? ⟨b,o+i*5+2,none⟩=some (.int .i64 U)∧W.cell? ⟨b,o+i*5+3,none⟩=some (.slice a4 a5 X)∧W.cell? ⟨b,o+i*5+4,none⟩=some (.int .i64 O) ∧
    Calls Tryz.prog 93 #[ezV Q V U a4 a5 X O] W fun e w'=>e=.returned (.int .i64 (dpE y:Int))∧Below W.heap.size W w'):=fun i y I W hW=>by
   obtain ⟨b,o,Q,V,U,a4,a5,X,O,e,hb,h,ag,m0,m1,m2,m3,m4⟩:=G i y I;have z:Below w.heap.size w W:=Z3 K hW;have hz:w.heap.size≤W.heap.size:=z.size
   exact ⟨b,o,Q,V,U,a4,a5,X,O,e,(z.cell (p:=⟨b,o+i*5,none⟩) h).trans m0,(z.cell (p:=⟨b,o+i*5+1,none⟩) h).trans m1,(z.cell (p:=⟨b,o+i*5+2,none⟩) h).trans m2,(z.cell (p:=⟨b,o+i*5+3,none⟩) h).trans m3,(z.cell (p:=⟨b,o+i*5+4,none⟩) h).trans m4,
    X2 N y _ W (by omega) (QP hd I) ((ag.kept z).wide hz)⟩
  have Z:Hid (w1.heap[w.heap.size]?=some (ezO k s n base m H line)):=p1;have M:Hid (Below w.heap.size w w1):=K;have HM:Hid (m=kids.length):=hm;have HN:Hid (X5 kids≤N):=L;obtain ⟨c0,c1,c2,c3,c4⟩:=Qn p1;have aj:=E.symm;clear hx G hR K p1 E hm hd hc T L
  go_enter Tryz.func93,Tryz.ntmps93
  go_wp2_with fail
  go_loopw [3,4] (fun vn vi wr=>∃(i D:Nat),i≤m∧vi=.int .i64 (i:Int)∧vn=.int .i64 (D:Int)∧D=X5 (kids.take i)∧Below w1.heap.size w1 wr) (fun _ vi _=>m-(intOf vi).toNat)
  case atStart=>exact ⟨0,0,Nat.zero_le _,rfl,rfl,by simp [X5],Below.refl _ _⟩
  case round =>
   obtain ⟨i,D,hi,rfl,rfl,hD,J⟩:=hrel;clear c0 c1 c2 c3 c4;obtain ⟨c0,c1,c2,c3,c4⟩:=Qn ((J.block w.heap.size (by omega)).trans Z.out)
   have A:Hid (Below w1.heap.size w1 wr):=J;have al:D≤N:=by rw [hD];exact Nat.le_trans (uB kids i) HN.out
   have HD:Hid (D=X5 (kids.take i)):=hD;clear J hD
   by_cases h:i<m
   ·have ab:(i:Int)<(m:Int):=by omega
    obtain ⟨y,I⟩:∃y,kids[i]?=some y:=⟨kids[i]'(by rw [←HM.out];exact h),List.getElem?_eq_getElem (by rw [←HM.out];exact h)⟩
    obtain ⟨b,o,Q,V,U,a4,a5,X,O,rfl,m0,m1,m2,m3,m4,ck⟩:=HK.out i y I wr A.out;have af:Hid (max D (dpE y)=X5 (kids.take (i+1))):=show _=_ by rw [QO kids i y I,HD.out]
    have ak:dpE y≤N:=by
     have:=Xo.1 HN.out y (List.mem_of_getElem? I)
     exact this
    clear I HK HD;generalize dpE y=Y at *;go_wp2_with fail
    refine ck.mono ?_;clear ck m0 m1 m2 m3 m4 c0 c1 c2 c3 c4;rintro e w2 ⟨rfl,aa⟩;have ae:Hid (Below w1.heap.size w1 w2):=Z3 A.out aa;clear aa A;go_wp2
    exact ⟨⟨i+1,max D Y,by omega,by go_num,by go_num,af.out,ae.out⟩,by simp [intOf];omega⟩
   ·obtain rfl:i=m:=by omega
    have ab:¬ (i:Int)<(i:Int):=by omega
    have HV:Hid ((R:Int)=(D:Int)+1):=show _=_ by
     rw [HR.out,HD.out,HM.out,List.take_length];omega
    have ad:Hid (Below w.heap.size w wr):=Z3 M.out A.out;clear HR HK A M HM Z HD HN;go_wp2
    exact bodyPost_ret (v:=.int .i64 ((D:Int)+1)) (by simp [results,Tryz.results93,go_sem]) rfl ⟨by rw [HV.out],ad.out⟩
mutual
theorem VK:∀x:Ex,dpE (exz x)=depthE x
 | .mk k s n kids line=>by rw [exz,dpE,depthE,UV kids,Nat.add_comm]
theorem UV:∀l:List Ex,X5 (XU l)=depthL l
 | []=>by rw [XU,X5,depthL]
 | x::xs=>by rw [XU,X5,depthL,VK x,UV xs]
end
theorem uC (l:List UInt8) (w:World) :
  Calls Tryz.prog 72 #[.string (za l)] w fun e w' =>
   ∃(x:Ex) (at0 o:Nat) (v:Value),e=.returned (.tuple #[v,.int .i64 at0,.int .i64 o])∧zR l x at0 o∧XW x=true∧zM w.heap.size w' x v∧Below w.heap.size w w':=by
 obtain ⟨w0,ap⟩:∃w0,w0=w.alloc zJ:=⟨_,rfl⟩;have cs:=uA l w0;have an:w0.heap.size=w.heap.size+1:=by rw [ap];simp
 have ag:Below w.heap.size w w0:=by rw [ap];exact (Below.refl _ w).alloc (Nat.le_refl _) _
 have p0:w0.heap[w.heap.size]?=some zJ:=by rw [ap];exact World.alloc_heap_new w _
 have aH:=ap.symm;have aE:Hid (Below w.heap.size w w0∧w0.heap.size=w.heap.size+1∧w0.heap[w.heap.size]?=some zJ):=⟨ag,an,p0⟩;clear ap an ag p0
 go_enter Tryz.func72,Tryz.ntmps72
 go_wp2_with fail
 refine cs.mono ?_;clear cs aH;rintro e w1 ⟨v,rfl,ai,ao⟩;obtain ⟨ag,an,p0⟩:=aE.out;have p1:w1.heap[w.heap.size]?=some zJ:=(ao.block _ (by omega)).trans p0
 have ae:Below w.heap.size w w1:=ag.trans (ao.mono (by omega))
 have aK:=ao.size;obtain ⟨a0,a1,a2,a3,a4,af⟩:=zd p1
 by_cases herr:(zn l).2.2≠0
 ·have HI:Hid (zR l Z2 (zn l).2.1 (zn l).2.2):=show zR _ _ _ _ by unfold zR;rw [if_pos herr];exact ⟨rfl,rfl,rfl⟩
  have aF:¬((zn l).2.2:Int)=0:=by omega
  generalize (zn l).2.1=A at *;generalize (zn l).2.2=E at *;have h1:((E:Int)==0)=false:=by rw [beq_eq_false_iff_ne];exact aF
  have h2:((E:Int) != 0)=true:=by simp [bne,h1]
  obtain ⟨z0,z1,z2,z3,z4⟩:=zi p1 (.int .i64 0) (.string ⟨#[]⟩) (.int .i64 0) (.slice none 0 0) (.int .i64 0)
  have aZ:Hid (Below w.heap.size w (set5 w1 w.heap.size (.int .i64 0) (.string ⟨#[]⟩) (.int .i64 0) (.slice none 0 0) (.int .i64 0))) :=
   ((((ae.setCell (p:=⟨w.heap.size,0,none⟩) (by simp) _).setCell (p:=⟨w.heap.size,1,none⟩) (by simp) _).setCell (p:=⟨w.heap.size,2,none⟩) (by simp) _).setCell (p:=⟨w.heap.size,3,none⟩) (by simp) _).setCell (p:=⟨w.heap.size,4,none⟩) (by simp) _
  clear ag an p0 p1 ae aK ao ai aE;go_wp2
  exact bodyPost_ret (v:=.tuple #[.agg #[.int .i64 0,.string ⟨#[]⟩,.int .i64 0,.slice none 0 0,.int .i64 0],.int .i64 A,.int .i64 E]) (by simp [results,Tryz.results72,go_sem,z0,z1,z2,z3,z4]) rfl ⟨Z2,A,E,_,rfl,HI.out,rfl,.leaf 0 [] 0 0,aZ.out⟩
 ·have ab:(zn l).2.2=0:=by simpa using herr
  have hE:=XK l ab;obtain ⟨t0,a8,aC⟩:=hE.cons;obtain ⟨g,ah,rfl,hg,aV,aA,az,am⟩:∃g ah,v=.slice (some ⟨g,0,none⟩) (zn l).1.length ah∧w0.heap.size≤g∧g<w1.heap.size∧(zn l).1.length≤ah∧ah≤maxLen∧∀j u,(zy (zn l).1)[j]?=some u→w1.cell? ⟨g,j,none⟩=some u:=UJ ai (by rw [aC];simp)
  have aL:=vS l;obtain ⟨f,res,hf,-⟩:=(YP (zn l).1.length (zn l).1 (Nat.le_refl _)).1 1;have hp:zg f 1 (zn l).1=some res:=hf 0;have aB:=uy l;obtain ⟨q,hq,hA⟩:=(zaO f).1 0 (zn l).1 res (by omega) hp (fun t ht=>(aB t ht).2) (2*f+10) (Nat.le_refl _)
  have au:Hid (∀x us,res=.ok (x,us)→XW x=true∧depthE x≤4098):=fun x us h=>by
   subst h
   have:=(Xb f).1 _ _ _ _ hp
   exact ⟨(ux f).1 _ _ _ _ hp fun t ht=>(aB t ht).1,by omega⟩
  have HI:Hid (∀x at0 o,(match Zs res with | .error a=>x=Z2∧at0=a∧o=6 | .ok y=>if 24<depthE y then x=Z2∧at0=0∧o=7 else x=y∧at0=0∧o=0)→zR l x at0 o):=fun x at0 o h=>by
   unfold zR
   rw [if_neg herr];exact ⟨f,res,hp,h⟩
  obtain ⟨R,hR⟩:∃R,R=w1.heap.size:=⟨_,rfl⟩;obtain ⟨w2,M⟩:∃w2,w2=w1.alloc (.cells #[.slice (some ⟨g,0,none⟩) (zn l).1.length ah,.int .i64 0,.bool false] 138):=⟨_,rfl⟩
  have ax:zB R g (false,(zn l).1) w2:=by
   refine ⟨0,ah,(zn l).1,rfl,by rw [aC];simp,?_,by omega,?_,aA,az,by omega,fun j u hj=>?_,hE⟩
   ·rw [M,hR];exact World.alloc_heap_new _ _
   ·rw [M];simp;omega
   ·rw [M];exact zc (am j u hj) _
  have I:Below w.heap.size w w2:=by rw [M];exact ae.alloc (by omega) _
  have p2:w2.heap[w.heap.size]?=some zJ:=by rw [M,Below.heap_alloc _ _ _ (by omega)];exact p1
  have ar:R<w2.heap.size:=by rw [M,hR];simp
  have ce:Calls Tryz.prog 91 #[.pointer (some ⟨R,0,none⟩),.int .i64 0] w2 (zL R g w2 q):=(UU R g (2*f+10)).1 _ (Nat.le_refl _) 0 _ q w2 (by omega) hq ax
  have aI:Hid (Below w.heap.size w w2∧w2.heap[w.heap.size]?=some zJ∧R<w2.heap.size∧w.heap.size<R):=⟨I,p2,ar,by omega⟩
  have aG:=M.symm;have h1:(((zn l).2.2:Nat):Int)=0:=by rw [ab];rfl
  generalize (zn l).2.1=A at *;generalize (zn l).2.2=E at *;subst ab;generalize (zn l).1.length=LL at *;clear ag an p0 p1 ae aK ao ai aE ax I p2 ar M am aA az aV hg aL hf hp hq aB hE aC herr h1;go_wp2_with fail
  rw [←hR];refine ce.mono ?_;clear ce aG a0 a1 a2 a3 a4 af hR;rintro e w3 ⟨L,v,rfl,hx,aP⟩;obtain ⟨a,b,c,Q,V,d2,k,rfl⟩:=hx.agg;obtain ⟨I,p2,ar,aY⟩:=aI.out;have aW:=L.size;obtain ⟨N,hN⟩:∃N,N=w3.heap.size:=⟨_,rfl⟩;obtain ⟨w4,Z⟩:∃w4,w4=w3.alloc (.cells #[.int .i64 a,.string b,.int .i64 c,.slice Q V d2,.int .i64 k] 90):=⟨_,rfl⟩
  have K:Below w.heap.size w w4:=by
   rw [Z];exact Below.alloc ⟨L.os.trans I.os,L.tape.trans I.tape,L.output.trans I.output,Nat.le_trans I.size L.size,fun i hi=>(L.block i (by have:=I.size;omega) (by omega)).trans (I.block i hi)⟩ (by have:=I.size;omega) _
  have p4:w4.heap[w.heap.size]?=some zJ:=by rw [Z,Below.heap_alloc _ _ _ (by omega),L.block _ (by omega) (by omega)];exact p2
  have n4:w4.heap[N]?=some (.cells #[.int .i64 a,.string b,.int .i64 c,.slice Q V d2,.int .i64 k] 90 (0,0)):=by rw [Z,hN];exact World.alloc_heap_new _ _
  have aS:zM w2.heap.size w4 q.1 (.agg #[.int .i64 a,.string b,.int .i64 c,.slice Q V d2,.int .i64 k]):=by rw [Z];exact zM.kept hx (by simp) fun i _ hi=>Below.heap_alloc _ _ _ hi
  have ay:zB R g q.2 w4:=by rw [Z];exact aP.alloc _
  have Y:Hid (Below w.heap.size w w4∧w4.heap[w.heap.size]?=some zJ∧w4.heap[N]?=some (.cells #[.int .i64 a,.string b,.int .i64 c,.slice Q V d2,.int .i64 k] 90 (0,0))∧w.heap.size<w2.heap.size∧w.heap.size<N):=⟨K,p4,n4,by omega,by omega⟩
  have aj:Hid (zM w2.heap.size w4 q.1 (.agg #[.int .i64 a,.string b,.int .i64 c,.slice Q V d2,.int .i64 k])):=aS;have ad:Hid (zB R g q.2 w4):=ay;obtain ⟨pp,cp,TS,aO⟩:=ay;obtain ⟨m0,m1,m2,mf⟩:=z7 aO.blk;have al:=Z.symm;have a9:=hN.symm;have HQ:Hid (Yi res q):=hA
  -- what is done where it is none
  have U:Hid (∀W at0 o,Below w4.heap.size w4 W→zR l Z2 at0 o→W.heap[w.heap.size]?=some zJ∧∃(x:Ex) (at1 err1:Nat) (v:Value),(.returned (.tuple #[.agg #[.int .i64 0,.string ⟨#[]⟩,.int .i64 0,.slice none 0 0,.int .i64 0],.int .i64 at0,.int .i64 o]):Ending)=.returned (.tuple #[v,.int .i64 at1,.int .i64 err1])∧zR l x at1 err1∧XW x=true∧zM w.heap.size (set5 W w.heap.size (.int .i64 0) (.string ⟨#[]⟩) (.int .i64 0) (.slice none 0 0) (.int .i64 0)) x v∧Below w.heap.size w (set5 W w.heap.size (.int .i64 0) (.string ⟨#[]⟩) (.int .i64 0) (.slice none 0 0) (.int .i64 0))):=by
   intro W at0 o hW hI;obtain ⟨K,p4,n4,h9,h8⟩:=Y.out;have a6:Below w.heap.size w W:=Z3 K hW
   exact ⟨(hW.block _ (by have:=(Array.getElem?_eq_some_iff.1 p4).1;omega)).trans p4,Z2,at0,o,_,rfl,hI,rfl,.leaf 0 [] 0 0,
    ((((a6.setCell (p:=⟨w.heap.size,0,none⟩) (by simp) _).setCell (p:=⟨w.heap.size,1,none⟩) (by simp) _).setCell (p:=⟨w.heap.size,2,none⟩) (by simp) _).setCell (p:=⟨w.heap.size,3,none⟩) (by simp) _).setCell (p:=⟨w.heap.size,4,none⟩) (by simp) _⟩
  have ba:=Yv;have bb:=V3;clear L hx aP I p2 ar aY aW hN Z K p4 n4 aS aO aI hA;obtain ⟨x,bd,us⟩:=q;simp only at m2;cases bd
  ·
   obtain ⟨y,us',rfl⟩:∃y us',res=.ok (y,us'):=by
    rcases res with a | ⟨y,us'⟩
    ·exact absurd HQ.out.1 (by simp)
    ·exact ⟨y,us',rfl⟩
   obtain ⟨rfl,rfl⟩:x=y∧us=us':=by have:=HQ.out;simp only [Yi,Prod.mk.injEq,true_and] at this;exact this
   obtain ⟨t,ht⟩:∃t,t=zu us:=⟨_,rfl⟩;have HT:Hid (t=zu us):=ht;have ct:=x8 R g (false,us) w4 ad.out;simp only at ct;rw [←ht] at ct;clear ht HQ
   by_cases hk0:t.k=0
   ·have aw:(t.k:Int)=0:=by omega
    obtain ⟨X,a7⟩:=au.out _ _ rfl
    have aq:Hid (∀x0 at0 o,(if 24<depthE x then x0=Z2∧at0=0∧o=7 else x0=x∧at0=0∧o=0)→zR l x0 at0 o):=fun x0 at0 o h=>HI.out x0 at0 o (by
     have:Zs (.ok (x,us))=.ok x:=by unfold Zs;simp only [←HT.out,if_pos hk0]
     rw [this]
     exact h)
    clear HI au;go_wp2_with fail
    refine ct.mono ?_;clear ct m0 m1 m2 mf al;rintro e w5 ⟨rfl,z⟩;obtain ⟨K,p4,n4,h9,h8⟩:=Y.out;have aR:=(Array.getElem?_eq_some_iff.1 n4).1;have p5:=(z.block _ (by omega)).trans p4
    have n5:=(z.block _ aR).trans n4;have aa:zM w2.heap.size w5 x (.agg #[.int .i64 a,.string b,.int .i64 c,.slice Q V d2,.int .i64 k]):=zM.kept aj.out z.size fun i _ hi=>z.block i hi
    have aU:Yx w5.heap.size w5 (exz x) (.agg #[.int .i64 a,.string b,.int .i64 c,.slice Q V d2,.int .i64 k]):=zH.ez aa (fun i _ hi=>hi) X
    have cd:=X2 4611686018427387904 (exz x) _ w5 (Nat.le_refl _) (by rw [VK];omega) aU
    rw [VK] at cd;have aD:Hid (zM w2.heap.size w5 x (.agg #[.int .i64 a,.string b,.int .i64 c,.slice Q V d2,.int .i64 k])∧Below w4.heap.size w4 w5∧w5.heap[N]?=some (.cells #[.int .i64 a,.string b,.int .i64 c,.slice Q V d2,.int .i64 k] 90 (0,0))∧XW x=true∧w.heap.size<w2.heap.size):=⟨aa,z,n5,X,h9⟩;obtain ⟨e0,e1,e2,e3,e4,ef⟩:=zd n5;clear K p4 n4 aR p5 n5 aa aU z X h9 h8;simp only [YH];go_wp2_with fail
    refine cd.mono ?_;clear cd e0 e1 e2 e3 e4 ef;rintro e w6 ⟨rfl,H⟩;obtain ⟨aa,z,n5,X,h9⟩:=aD.out;have O:Below w4.heap.size w4 w6:=Z3 z H
    by_cases hd:24<depthE x
    ·obtain ⟨T,G⟩:=U.out w6 0 7 O (aq.out Z2 0 7 (by rw [if_pos hd];exact ⟨rfl,rfl,rfl⟩))
     have J:=(show Hid _ from G)
     have a5:(24:Int)<(depthE x:Int):=by omega
     generalize depthE x=D at *;obtain ⟨q0,q1,q2,q3,q4,qf⟩:=zd T;obtain ⟨z0,z1,z2,z3,z4⟩:=zi T (.int .i64 0) (.string ⟨#[]⟩) (.int .i64 0) (.slice none 0 0) (.int .i64 0);clear aa z n5 X h9 O H T G aD aj Y aq U ad;go_wp2
     exact bodyPost_ret (v:=.tuple #[.agg #[.int .i64 0,.string ⟨#[]⟩,.int .i64 0,.slice none 0 0,.int .i64 0],.int .i64 0,.int .i64 7]) (by simp [results,Tryz.results72,go_sem,z0,z1,z2,z3,z4]) rfl J.out
    ·obtain ⟨K,p4,-,-,h8⟩:=Y.out
     have hI:=aq.out x 0 0 (by rw [if_neg hd];exact ⟨rfl,rfl,rfl⟩)
     have a5:¬ (24:Int)<(depthE x:Int):=by omega
     have aJ:=(Array.getElem?_eq_some_iff.1 p4).1;have T:w6.heap[w.heap.size]?=some zJ:=(O.block _ aJ).trans p4;have n6:=(H.block _ (Array.getElem?_eq_some_iff.1 n5).1).trans n5;have aN:zM w2.heap.size w6 x (.agg #[.int .i64 a,.string b,.int .i64 c,.slice Q V d2,.int .i64 k]):=zM.kept aa H.size fun i _ hi=>H.block i hi
     have aQ:Below w.heap.size w w6:=Z3 K O
     have J:Hid (∃(x:Ex) (at1 err1:Nat) (v:Value),(.returned (.tuple #[.agg #[.int .i64 a,.string b,.int .i64 c,.slice Q V d2,.int .i64 k],.int .i64 0,.int .i64 0]):Ending)=.returned (.tuple #[v,.int .i64 at1,.int .i64 err1])∧zR l x at1 err1∧XW x=true∧zM w.heap.size (set5 w6 w.heap.size (.int .i64 a) (.string b) (.int .i64 c) (.slice Q V d2) (.int .i64 k)) x v∧Below w.heap.size w (set5 w6 w.heap.size (.int .i64 a) (.string b) (.int .i64 c) (.slice Q V d2) (.int .i64 k))) :=
      ⟨x,0,0,_,rfl,hI,X,zM.mono (zM.kept aN (by simp) fun i hi _=>zh _ _ _ _ _ _ _ (by omega)) (by omega),
       ((((aQ.setCell (p:=⟨w.heap.size,0,none⟩) (by simp) _).setCell (p:=⟨w.heap.size,1,none⟩) (by simp) _).setCell (p:=⟨w.heap.size,2,none⟩) (by simp) _).setCell (p:=⟨w.heap.size,3,none⟩) (by simp) _).setCell (p:=⟨w.heap.size,4,none⟩) (by simp) _⟩
     obtain ⟨q0,q1,q2,q3,q4,qf⟩:=zd T;obtain ⟨e0,e1,e2,e3,e4,ef⟩:=zd n6;obtain ⟨z0,z1,z2,z3,z4⟩:=zi T (.int .i64 a) (.string b) (.int .i64 c) (.slice Q V d2) (.int .i64 k);generalize depthE x=D at *;clear aa z n5 X h9 O H T n6 aN aQ K p4 aJ hI aD aj Y aq U ad;go_wp2
     exact bodyPost_ret (v:=.tuple #[.agg #[.int .i64 a,.string b,.int .i64 c,.slice Q V d2,.int .i64 k],.int .i64 0,.int .i64 0]) (by simp [results,Tryz.results72,go_sem,z0,z1,z2,z3,z4]) rfl J.out
   ·have aw:¬ (t.k:Int)=0:=by omega
    have aX:((t.k:Int)==0)=false:=by rw [beq_eq_false_iff_ne];exact aw
    have I:((t.k:Int) != 0)=true:=by simp [bne,aX]
    have hI:zR l Z2 t.at0 6:=HI.out Z2 t.at0 6 (by
     have:Zs (.ok (x,us))=.error t.at0:=by unfold Zs;simp only [←HT.out,if_neg hk0]
     rw [this]
     exact ⟨rfl,rfl,rfl⟩)
    have ak:Hid (zR l Z2 t.at0 6):=hI;clear HI au hI;go_wp2_with fail
    refine ct.mono ?_;clear ct m0 m1 m2 mf al;rintro e w5 ⟨rfl,z⟩;have av:=x8 R g (false,us) w5 (ad.out.below z);simp only at av;rw [←HT.out] at av;have aT:Hid (Below w4.heap.size w4 w5):=z;clear z;simp only [YH];go_wp2_with fail
    refine av.mono ?_;clear av;rintro e w6 ⟨rfl,H⟩;obtain ⟨T,G⟩:=U.out w6 t.at0 6 (Z3 aT.out H) ak.out;have J:=(show Hid _ from G)
    obtain ⟨q0,q1,q2,q3,q4,qf⟩:=zd T;obtain ⟨z0,z1,z2,z3,z4⟩:=zi T (.int .i64 0) (.string ⟨#[]⟩) (.int .i64 0) (.slice none 0 0) (.int .i64 0);clear H T G aj Y ak U ad aT;simp only [YH];go_wp2
    exact bodyPost_ret (v:=.tuple #[.agg #[.int .i64 0,.string ⟨#[]⟩,.int .i64 0,.slice none 0 0,.int .i64 0],.int .i64 t.at0,.int .i64 6]) (by simp [results,Tryz.results72,go_sem,z0,z1,z2,z3,z4]) rfl J.out
  ·
   obtain ⟨a',rfl⟩:∃a',res=.error a':=by
    rcases res with a | ⟨y,us'⟩
    ·exact ⟨a,rfl⟩
    ·have:=HQ.out;simp only [Yi,Prod.mk.injEq,Bool.true_eq_false,false_and,and_false] at this
   have aM:(zu us).at0=a':=HQ.out.2;have ak:Hid (zR l Z2 a' 6):=HI.out Z2 a' 6 ⟨rfl,rfl,rfl⟩;have ct:=x8 R g (true,us) w4 ad.out;obtain ⟨t,ht⟩:∃t,t=zu us:=⟨_,rfl⟩;simp only at ct;rw [←ht] at ct aM;subst aM;clear HI au HQ ht;go_wp2_with fail
   refine ct.mono ?_;clear ct m0 m1 m2 mf al;rintro e w6 ⟨rfl,H⟩;obtain ⟨T,G⟩:=U.out w6 t.at0 6 H ak.out;have J:=(show Hid _ from G)
   obtain ⟨q0,q1,q2,q3,q4,qf⟩:=zd T;obtain ⟨z0,z1,z2,z3,z4⟩:=zi T (.int .i64 0) (.string ⟨#[]⟩) (.int .i64 0) (.slice none 0 0) (.int .i64 0);clear H T G aj Y ak U ad;simp only [YH];go_wp2
   exact bodyPost_ret (v:=.tuple #[.agg #[.int .i64 0,.string ⟨#[]⟩,.int .i64 0,.slice none 0 0,.int .i64 0],.int .i64 t.at0,.int .i64 6]) (by simp [results,Tryz.results72,go_sem,z0,z1,z2,z3,z4]) rfl J.out
end Go.Proofs.YtmbofhpmockmbaaGreatDoor
