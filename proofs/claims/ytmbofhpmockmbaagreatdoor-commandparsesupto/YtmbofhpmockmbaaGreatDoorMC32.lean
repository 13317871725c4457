import Derived.Test.YtmbofhpmockmbaaGreatDoorSDUnary
import Derived.Test.YtmbofhpmockmbaaGreatDoorSDSingle
import Derived.Test.YtmbofhpmockmbaaGreatDoorMC34
import Derived.Test.YtmbofhpmockmbaaGreatDoorMC9
import Derived.Test.YtmbofhpmockmbaaGreatDoorMC37
import Derived.Test.YtmbofhpmockmbaaGreatDoorXRef7
namespace Go.Proofs.YtmbofhpmockmbaaGreatDoor
open Go.RowKit Go.Shelf
set_option maxHeartbeats 16000000
set_option maxRecDepth 100000
theorem qc (r g:Nat):∀F,Yl r g F∧xL r g F∧XV r g F∧UB r g F
 | 0=>by
  refine ⟨fun k hk line σ q w hl hq h=>?_,fun k hk σ q w hq h=>?_,fun k hk σ q w hq h=>?_,fun k hk s b σ q w hq h=>?_⟩ <;> (obtain rfl:k=0:=by omega) <;> simp [yV,ZP,ye,ZR] at hq
 | F+1=>by
  obtain ⟨i1,y,z,A⟩:=qc r g F;have o:∀k,k≤F+1→k≤F∨k=F+1:=fun k h=>by omega
  refine ⟨fun k hk line σ q w hl hq h=>?_,fun k hk σ q w hq h=>?_,fun k hk σ q w hq h=>?_,fun k hk s b σ q w hq h=>?_⟩
  ·rcases o k hk with e | rfl
   ·exact i1 k e line σ q w hl hq h
   ·rw [yV] at hq
    by_cases h6:line=6
    ·subst h6
     rw [if_pos rfl] at hq;exact qO r g F σ w q h hq y
    ·rw [if_neg h6] at hq
     exact UC r g F line σ w q h (by omega) hq i1
  ·rcases o k hk with e | rfl
   ·exact y k e σ q w hq h
   ·exact zat r g F σ w q h hq y z i1
  ·rcases o k hk with e | rfl
   ·exact z k e σ q w hq h
   ·exact QG r g F σ w q h hq i1 A
  ·rcases o k hk with e | rfl
   ·exact A k e s b σ q w hq h
   ·exact zaw r g F s b σ w q h hq i1
theorem zab (l:List Ez):∀i y,l[i]?=some y→vA (l.take (i+1))=max (vA (l.take i)) (dpE y):=by
 induction l with
 | nil=>intro i y h;simp at h
 | cons x xs ih =>
  intro i y h;cases i with
  | zero =>
   simp only [List.getElem?_cons_zero,Option.some.injEq] at h;subst h
   simp [vA]
  | succ i =>
   have:=ih i y (by simpa using h)
   rw [List.take_succ_cons,List.take_succ_cons,vA,vA,this,Nat.max_assoc]
theorem zac {k:Int} {s:List UInt8} {n:Int} {kids:List Ez} {line:Int} {N i:Nat} {y:Ez} (h:dpE (.mk k s n kids line)≤N+1) (hy:kids[i]?=some y):dpE y≤N:=by
 rw [dpE] at h;exact (Xy (d:=N)).1 (by omega) y (List.mem_of_getElem? hy)
theorem uX (l:List Ez) (i:Nat):vA (l.take i)≤vA l:=by
 refine Xy.2 fun y hy=>Xy.1 (Nat.le_refl _) y (List.mem_of_mem_take hy)
theorem vv:∀(N:Nat) (x:Ez) (v:Value) (w:World),N≤4611686018427387904→dpE x≤N→YE w.heap.size w x v →
  Calls Tryz.prog 93 #[v] w fun e w'=>e=.returned (.int .i64 (dpE x:Int))∧Below w.heap.size w w'
 | 0,.mk k s n kids line,v,w,_,hd,_=>by rw [dpE] at hd;omega
 | N+1,.mk k s n kids line,v,w,hN,hd,hx=>by
  obtain ⟨base,H,rfl,hc,ab,hs,an,am,G⟩:=hx.kid;obtain ⟨m,hm⟩:∃m,m=kids.length:=⟨_,rfl⟩;rw [←hm] at hc ⊢;have ah:m≤9223372036854775807:=by unfold maxLen at ab;omega
  obtain ⟨R,hR⟩:∃R,R=dpE (.mk k s n kids line):=⟨_,rfl⟩;rw [←hR];have HR:Hid (R=vA kids+1):=hR;have X:vA kids≤N:=by rw [dpE] at hd;omega
  obtain ⟨w1,E⟩:∃w1,w1=w.alloc (ezO k s n base m H line):=⟨_,rfl⟩;have J:Below w.heap.size w w1:=by rw [E];exact (Below.refl _ w).alloc (Nat.le_refl _) _
  have p1:w1.heap[w.heap.size]?=some (ezO k s n base m H line):=by rw [E];exact World.alloc_heap_new w _
  have aj:w1.heap.size=w.heap.size+1:=by rw [E];simp
  have HK:Hid (∀i y,kids[i]?=some y→∀W,Below w1.heap.size w1 W→∃b o V O L U a5 a6 Q,base=some ⟨b,o,none⟩∧W.cell? ⟨b,o+i*5,none⟩=some (.int .i64 V)∧W.cell? ⟨b,o+i*5+1,none⟩=some (.string (za O))∧W.cell? ⟨b,o+i*5+2,none⟩=some (.int .i64 L)∧W.cell? ⟨b,o+i*5+3,none⟩=some (.slice U a5 a6)∧W.cell? ⟨b,o+i*5+4,none⟩=some (.int .i64 Q) ∧
    Calls Tryz.prog 93 #[ezV V O L U a5 a6 Q] W fun e w'=>e=.returned (.int .i64 (dpE y:Int))∧Below W.heap.size W w'):=fun i y I W hW=>by
   obtain ⟨b,o,V,O,L,U,a5,a6,Q,e,hb,h,ag,m0,m1,m2,m3,m4⟩:=G i y I;have z:Below w.heap.size w W:=Z6 J hW;have hz:w.heap.size≤W.heap.size:=z.size
   exact ⟨b,o,V,O,L,U,a5,a6,Q,e,(z.cell (p:=⟨b,o+i*5,none⟩) h).trans m0,(z.cell (p:=⟨b,o+i*5+1,none⟩) h).trans m1,(z.cell (p:=⟨b,o+i*5+2,none⟩) h).trans m2,(z.cell (p:=⟨b,o+i*5+3,none⟩) h).trans m3,(z.cell (p:=⟨b,o+i*5+4,none⟩) h).trans m4,
    vv N y _ W (by omega) (zac hd I) ((ag.kept z).wide hz)⟩
  have M:Hid (w1.heap[w.heap.size]?=some (ezO k s n base m H line)):=p1;have aa:Hid (Below w.heap.size w w1):=J;have HM:Hid (m=kids.length):=hm;have HN:Hid (vA kids≤N):=X;obtain ⟨c0,c1,c2,c3,c4⟩:=QL p1;have ai:=E.symm;clear hx G hR J p1 E hm hd hc ab X
  go_enter Tryz.func93,Tryz.ntmps93
  go_wp2_with fail
  go_loopw [3,4] (fun vn vi wr=>∃(i D:Nat),i≤m∧vi=.int .i64 (i:Int)∧vn=.int .i64 (D:Int)∧D=vA (kids.take i)∧Below w1.heap.size w1 wr) (fun _ vi _=>m-(intOf vi).toNat)
  case atStart=>exact ⟨0,0,Nat.zero_le _,rfl,rfl,by simp [vA],Below.refl _ _⟩
  case round =>
   obtain ⟨i,D,hi,rfl,rfl,hD,K⟩:=hrel;clear c0 c1 c2 c3 c4;obtain ⟨c0,c1,c2,c3,c4⟩:=QL ((K.block w.heap.size (by omega)).trans M.out)
   have A:Hid (Below w1.heap.size w1 wr):=K;have ak:D≤N:=by rw [hD];exact Nat.le_trans (uX kids i) HN.out
   have HD:Hid (D=vA (kids.take i)):=hD;clear K hD
   by_cases h:i<m
   ·have Z:(i:Int)<(m:Int):=by omega
    obtain ⟨y,I⟩:∃y,kids[i]?=some y:=⟨kids[i]'(by rw [←HM.out];exact h),List.getElem?_eq_getElem (by rw [←HM.out];exact h)⟩
    obtain ⟨b,o,V,O,L,U,a5,a6,Q,rfl,m0,m1,m2,m3,m4,ck⟩:=HK.out i y I wr A.out;have af:Hid (max D (dpE y)=vA (kids.take (i+1))):=show _=_ by rw [zab kids i y I,HD.out]
    have al:dpE y≤N:=by
     have:=Xy.1 HN.out y (List.mem_of_getElem? I)
     exact this
    clear I HK HD;generalize dpE y=Y at *;go_wp2_with fail
    refine ck.mono ?_;clear ck m0 m1 m2 m3 m4 c0 c1 c2 c3 c4;rintro e w2 ⟨rfl,T⟩;have ad:Hid (Below w1.heap.size w1 w2):=Z6 A.out T;clear T A;go_wp2
    exact ⟨⟨i+1,max D Y,by omega,by go_num,by go_num,af.out,ad.out⟩,by simp [intOf];omega⟩
   ·obtain rfl:i=m:=by omega
    have Z:¬ (i:Int)<(i:Int):=by omega
    have HV:Hid ((R:Int)=(D:Int)+1):=show _=_ by
     rw [HR.out,HD.out,HM.out,List.take_length];omega
    have ae:Hid (Below w.heap.size w wr):=Z6 aa.out A.out;clear HR HK A aa HM M HD HN;go_wp2
    exact bodyPost_ret (v:=.int .i64 ((D:Int)+1)) (by simp [results,Tryz.results93,go_sem]) rfl ⟨by rw [HV.out],ae.out⟩
mutual
theorem V4:∀x:Ex,dpE (exz x)=depthE x
 | .mk k s n kids line=>by rw [exz,dpE,depthE,qd kids,Nat.add_comm]
theorem qd:∀l:List Ex,vA (X8 l)=depthL l
 | []=>by rw [X8,vA,depthL]
 | x::xs=>by rw [X8,vA,depthL,V4 x,qd xs]
end
theorem uY (l:List UInt8) (w:World) :
  Calls Tryz.prog 72 #[.string (za l)] w fun e w' =>
   ∃(x:Ex) (at0 o:Nat) (v:Value),e=.returned (.tuple #[v,.int .i64 at0,.int .i64 o])∧zT l x at0 o∧vd x=true∧zO w.heap.size w' x v∧Below w.heap.size w w':=by
 obtain ⟨w0,aj⟩:∃w0,w0=w.alloc zL:=⟨_,rfl⟩;have cs:=uW l w0;have ak:w0.heap.size=w.heap.size+1:=by rw [aj];simp
 have ag:Below w.heap.size w w0:=by rw [aj];exact (Below.refl _ w).alloc (Nat.le_refl _) _
 have p0:w0.heap[w.heap.size]?=some zL:=by rw [aj];exact World.alloc_heap_new w _
 have aG:=aj.symm;have aC:Hid (Below w.heap.size w w0∧w0.heap.size=w.heap.size+1∧w0.heap[w.heap.size]?=some zL):=⟨ag,ak,p0⟩;clear aj ak ag p0
 go_enter Tryz.func72,Tryz.ntmps72
 go_wp2_with fail
 refine cs.mono ?_;clear cs aG;rintro e w1 ⟨v,rfl,am,ap⟩;obtain ⟨ag,ak,p0⟩:=aC.out;have p1:w1.heap[w.heap.size]?=some zL:=(ap.block _ (by omega)).trans p0
 have ae:Below w.heap.size w w1:=ag.trans (ap.mono (by omega))
 have aI:=ap.size;obtain ⟨a0,a1,a2,a3,a4,af⟩:=ze p1
 by_cases herr:(zp l).2.2≠0
 ·have HI:Hid (zT l Z5 (zp l).2.1 (zp l).2.2):=show zT _ _ _ _ by unfold zT;rw [if_pos herr];exact ⟨rfl,rfl,rfl⟩
  have aB:¬((zp l).2.2:Int)=0:=by omega
  generalize (zp l).2.1=A at *;generalize (zp l).2.2=E at *;have h1:((E:Int)==0)=false:=by rw [beq_eq_false_iff_ne];exact aB
  have h2:((E:Int) != 0)=true:=by simp [bne,h1]
  obtain ⟨z0,z1,z2,z3,z4⟩:=zj p1 (.int .i64 0) (.string ⟨#[]⟩) (.int .i64 0) (.slice none 0 0) (.int .i64 0)
  have aW:Hid (Below w.heap.size w (set5 w1 w.heap.size (.int .i64 0) (.string ⟨#[]⟩) (.int .i64 0) (.slice none 0 0) (.int .i64 0))) :=
   ((((ae.setCell (p:=⟨w.heap.size,0,none⟩) (by simp) _).setCell (p:=⟨w.heap.size,1,none⟩) (by simp) _).setCell (p:=⟨w.heap.size,2,none⟩) (by simp) _).setCell (p:=⟨w.heap.size,3,none⟩) (by simp) _).setCell (p:=⟨w.heap.size,4,none⟩) (by simp) _
  clear ag ak p0 p1 ae aI ap am aC;go_wp2
  exact bodyPost_ret (v:=.tuple #[.agg #[.int .i64 0,.string ⟨#[]⟩,.int .i64 0,.slice none 0 0,.int .i64 0],.int .i64 A,.int .i64 E]) (by simp [results,Tryz.results72,go_sem,z0,z1,z2,z3,z4]) rfl ⟨Z5,A,E,_,rfl,HI.out,rfl,.leaf 0 [] 0 0,aW.out⟩
 ·have V:(zp l).2.2=0:=by simpa using herr
  have hE:=XY l V;obtain ⟨t0,ba,aF⟩:=hE.cons;obtain ⟨g,ah,rfl,hg,a5,aA,ay,ao⟩:∃g ah,v=.slice (some ⟨g,0,none⟩) (zp l).1.length ah∧w0.heap.size≤g∧g<w1.heap.size∧(zp l).1.length≤ah∧ah≤maxLen∧∀j u,(zA (zp l).1)[j]?=some u→w1.cell? ⟨g,j,none⟩=some u:=U1 am (by rw [aF];simp)
  have aP:=Vj l;obtain ⟨f,res,hf,-⟩:=(YX (zp l).1.length (zp l).1 (Nat.le_refl _)).1 1;have hp:zh f 1 (zp l).1=some res:=hf 0;have aD:=uU l;obtain ⟨q,hq,hA⟩:=(zbb f).1 0 (zp l).1 res (by omega) hp (fun t ht=>(aD t ht).2) (2*f+10) (Nat.le_refl _)
  have av:Hid (∀x us,res=.ok (x,us)→vd x=true∧depthE x≤4098):=fun x us h=>by
   subst h
   have:=(Xl f).1 _ _ _ _ hp
   exact ⟨(uT f).1 _ _ _ _ hp fun t ht=>(aD t ht).1,by omega⟩
  have HI:Hid (∀x at0 o,(match Zx res with | .error a=>x=Z5∧at0=a∧o=6 | .ok y=>if 24<depthE y then x=Z5∧at0=0∧o=7 else x=y∧at0=0∧o=0)→zT l x at0 o):=fun x at0 o h=>by
   unfold zT
   rw [if_neg herr];exact ⟨f,res,hp,h⟩
  obtain ⟨R,hR⟩:∃R,R=w1.heap.size:=⟨_,rfl⟩;obtain ⟨w2,O⟩:∃w2,w2=w1.alloc (.cells #[.slice (some ⟨g,0,none⟩) (zp l).1.length ah,.int .i64 0,.bool false] 138):=⟨_,rfl⟩
  have aw:zD R g (false,(zp l).1) w2:=by
   refine ⟨0,ah,(zp l).1,rfl,by rw [aF];simp,?_,by omega,?_,aA,ay,by omega,fun j u hj=>?_,hE⟩
   ·rw [O,hR];exact World.alloc_heap_new _ _
   ·rw [O];simp;omega
   ·rw [O];exact zd (ao j u hj) _
  have H:Below w.heap.size w w2:=by rw [O];exact ae.alloc (by omega) _
  have p2:w2.heap[w.heap.size]?=some zL:=by rw [O,Below.heap_alloc _ _ _ (by omega)];exact p1
  have au:R<w2.heap.size:=by rw [O,hR];simp
  have ce:Calls Tryz.prog 91 #[.pointer (some ⟨R,0,none⟩),.int .i64 0] w2 (zN R g w2 q):=(qc R g (2*f+10)).1 _ (Nat.le_refl _) 0 _ q w2 (by omega) hq aw
  have aT:Hid (Below w.heap.size w w2∧w2.heap[w.heap.size]?=some zL∧R<w2.heap.size∧w.heap.size<R):=⟨H,p2,au,by omega⟩
  have aM:=O.symm;have h1:(((zp l).2.2:Nat):Int)=0:=by rw [V];rfl
  generalize (zp l).2.1=A at *;generalize (zp l).2.2=E at *;subst V;generalize (zp l).1.length=LL at *;clear ag ak p0 p1 ae aI ap am aC aw H p2 au O ao aA ay a5 hg aP hf hp hq aD hE aF herr h1;go_wp2_with fail
  rw [←hR];refine ce.mono ?_;clear ce aM a0 a1 a2 a3 a4 af hR;rintro e w3 ⟨L,v,rfl,hx,aQ⟩;obtain ⟨a,b,c,X,d1,T,k,rfl⟩:=hx.agg;obtain ⟨H,p2,au,a6⟩:=aT.out;have aZ:=L.size;obtain ⟨N,hN⟩:∃N,N=w3.heap.size:=⟨_,rfl⟩;obtain ⟨w4,Z⟩:∃w4,w4=w3.alloc (.cells #[.int .i64 a,.string b,.int .i64 c,.slice X d1 T,.int .i64 k] 90):=⟨_,rfl⟩
  have K:Below w.heap.size w w4:=by
   rw [Z];exact Below.alloc ⟨L.os.trans H.os,L.tape.trans H.tape,L.output.trans H.output,Nat.le_trans H.size L.size,fun i hi=>(L.block i (by have:=H.size;omega) (by omega)).trans (H.block i hi)⟩ (by have:=H.size;omega) _
  have p4:w4.heap[w.heap.size]?=some zL:=by rw [Z,Below.heap_alloc _ _ _ (by omega),L.block _ (by omega) (by omega)];exact p2
  have n4:w4.heap[N]?=some (.cells #[.int .i64 a,.string b,.int .i64 c,.slice X d1 T,.int .i64 k] 90 (0,0)):=by rw [Z,hN];exact World.alloc_heap_new _ _
  have aK:zO w2.heap.size w4 q.1 (.agg #[.int .i64 a,.string b,.int .i64 c,.slice X d1 T,.int .i64 k]):=by rw [Z];exact zO.kept hx (by simp) fun i _ hi=>Below.heap_alloc _ _ _ hi
  have ax:zD R g q.2 w4:=by rw [Z];exact aQ.alloc _
  have U:Hid (Below w.heap.size w w4∧w4.heap[w.heap.size]?=some zL∧w4.heap[N]?=some (.cells #[.int .i64 a,.string b,.int .i64 c,.slice X d1 T,.int .i64 k] 90 (0,0))∧w.heap.size<w2.heap.size∧w.heap.size<N):=⟨K,p4,n4,by omega,by omega⟩
  have an:Hid (zO w2.heap.size w4 q.1 (.agg #[.int .i64 a,.string b,.int .i64 c,.slice X d1 T,.int .i64 k])):=aK;have ab:Hid (zD R g q.2 w4):=ax;obtain ⟨pp,cp,TS,aH⟩:=ax;obtain ⟨m0,m1,m2,mf⟩:=Zb aH.blk;have al:=Z.symm;have a9:=hN.symm;have HQ:Hid (Yp res q):=hA
  -- what is done where it is none
  have ad:Hid (∀W at0 o,Below w4.heap.size w4 W→zT l Z5 at0 o→W.heap[w.heap.size]?=some zL∧∃(x:Ex) (at1 err1:Nat) (v:Value),(.returned (.tuple #[.agg #[.int .i64 0,.string ⟨#[]⟩,.int .i64 0,.slice none 0 0,.int .i64 0],.int .i64 at0,.int .i64 o]):Ending)=.returned (.tuple #[v,.int .i64 at1,.int .i64 err1])∧zT l x at1 err1∧vd x=true∧zO w.heap.size (set5 W w.heap.size (.int .i64 0) (.string ⟨#[]⟩) (.int .i64 0) (.slice none 0 0) (.int .i64 0)) x v∧Below w.heap.size w (set5 W w.heap.size (.int .i64 0) (.string ⟨#[]⟩) (.int .i64 0) (.slice none 0 0) (.int .i64 0))):=by
   intro W at0 o hW hI;obtain ⟨K,p4,n4,h9,h8⟩:=U.out;have aX:Below w.heap.size w W:=Z6 K hW
   exact ⟨(hW.block _ (by have:=(Array.getElem?_eq_some_iff.1 p4).1;omega)).trans p4,Z5,at0,o,_,rfl,hI,rfl,.leaf 0 [] 0 0,
    ((((aX.setCell (p:=⟨w.heap.size,0,none⟩) (by simp) _).setCell (p:=⟨w.heap.size,1,none⟩) (by simp) _).setCell (p:=⟨w.heap.size,2,none⟩) (by simp) _).setCell (p:=⟨w.heap.size,3,none⟩) (by simp) _).setCell (p:=⟨w.heap.size,4,none⟩) (by simp) _⟩
  have bb:=YC;have a7:=uu;clear L hx aQ H p2 au a6 aZ hN Z K p4 n4 aK aH aT hA;obtain ⟨x,bd,us⟩:=q;simp only at m2;cases bd
  ·
   obtain ⟨y,us',rfl⟩:∃y us',res=.ok (y,us'):=by
    rcases res with a | ⟨y,us'⟩
    ·exact absurd HQ.out.1 (by simp)
    ·exact ⟨y,us',rfl⟩
   obtain ⟨rfl,rfl⟩:x=y∧us=us':=by have:=HQ.out;simp only [Yp,Prod.mk.injEq,true_and] at this;exact this
   obtain ⟨t,ht⟩:∃t,t=zx us:=⟨_,rfl⟩;have HT:Hid (t=zx us):=ht;have ct:=Xi R g (false,us) w4 ab.out;simp only at ct;rw [←ht] at ct;clear ht HQ
   by_cases hk0:t.k=0
   ·have az:(t.k:Int)=0:=by omega
    obtain ⟨Q,a8⟩:=av.out _ _ rfl
    have aq:Hid (∀x0 at0 o,(if 24<depthE x then x0=Z5∧at0=0∧o=7 else x0=x∧at0=0∧o=0)→zT l x0 at0 o):=fun x0 at0 o h=>HI.out x0 at0 o (by
     have:Zx (.ok (x,us))=.ok x:=by unfold Zx;simp only [←HT.out,if_pos hk0]
     rw [this]
     exact h)
    clear HI av;go_wp2_with fail
    refine ct.mono ?_;clear ct m0 m1 m2 mf al;rintro e w5 ⟨rfl,z⟩;obtain ⟨K,p4,n4,h9,h8⟩:=U.out;have aN:=(Array.getElem?_eq_some_iff.1 n4).1;have p5:=(z.block _ (by omega)).trans p4
    have n5:=(z.block _ aN).trans n4;have aa:zO w2.heap.size w5 x (.agg #[.int .i64 a,.string b,.int .i64 c,.slice X d1 T,.int .i64 k]):=zO.kept an.out z.size fun i _ hi=>z.block i hi
    have aO:YE w5.heap.size w5 (exz x) (.agg #[.int .i64 a,.string b,.int .i64 c,.slice X d1 T,.int .i64 k]):=zJ.ez aa (fun i _ hi=>hi) Q
    have cd:=vv 4611686018427387904 (exz x) _ w5 (Nat.le_refl _) (by rw [V4];omega) aO
    rw [V4] at cd;have aE:Hid (zO w2.heap.size w5 x (.agg #[.int .i64 a,.string b,.int .i64 c,.slice X d1 T,.int .i64 k])∧Below w4.heap.size w4 w5∧w5.heap[N]?=some (.cells #[.int .i64 a,.string b,.int .i64 c,.slice X d1 T,.int .i64 k] 90 (0,0))∧vd x=true∧w.heap.size<w2.heap.size):=⟨aa,z,n5,Q,h9⟩;obtain ⟨e0,e1,e2,e3,e4,ef⟩:=ze n5;clear K p4 n4 aN p5 n5 aa aO z Q h9 h8;simp only [YQ];go_wp2_with fail
    refine cd.mono ?_;clear cd e0 e1 e2 e3 e4 ef;rintro e w6 ⟨rfl,I⟩;obtain ⟨aa,z,n5,Q,h9⟩:=aE.out;have M:Below w4.heap.size w4 w6:=Z6 z I
    by_cases hd:24<depthE x
    ·obtain ⟨Y,G⟩:=ad.out w6 0 7 M (aq.out Z5 0 7 (by rw [if_pos hd];exact ⟨rfl,rfl,rfl⟩))
     have J:=(show Hid _ from G)
     have aV:(24:Int)<(depthE x:Int):=by omega
     generalize depthE x=D at *;obtain ⟨q0,q1,q2,q3,q4,qf⟩:=ze Y;obtain ⟨z0,z1,z2,z3,z4⟩:=zj Y (.int .i64 0) (.string ⟨#[]⟩) (.int .i64 0) (.slice none 0 0) (.int .i64 0);clear aa z n5 Q h9 M I Y G aE an U aq ad ab;go_wp2
     exact bodyPost_ret (v:=.tuple #[.agg #[.int .i64 0,.string ⟨#[]⟩,.int .i64 0,.slice none 0 0,.int .i64 0],.int .i64 0,.int .i64 7]) (by simp [results,Tryz.results72,go_sem,z0,z1,z2,z3,z4]) rfl J.out
    ·obtain ⟨K,p4,-,-,h8⟩:=U.out
     have hI:=aq.out x 0 0 (by rw [if_neg hd];exact ⟨rfl,rfl,rfl⟩)
     have aV:¬ (24:Int)<(depthE x:Int):=by omega
     have aL:=(Array.getElem?_eq_some_iff.1 p4).1;have Y:w6.heap[w.heap.size]?=some zL:=(M.block _ aL).trans p4;have n6:=(I.block _ (Array.getElem?_eq_some_iff.1 n5).1).trans n5;have aS:zO w2.heap.size w6 x (.agg #[.int .i64 a,.string b,.int .i64 c,.slice X d1 T,.int .i64 k]):=zO.kept aa I.size fun i _ hi=>I.block i hi
     have aR:Below w.heap.size w w6:=Z6 K M
     have J:Hid (∃(x:Ex) (at1 err1:Nat) (v:Value),(.returned (.tuple #[.agg #[.int .i64 a,.string b,.int .i64 c,.slice X d1 T,.int .i64 k],.int .i64 0,.int .i64 0]):Ending)=.returned (.tuple #[v,.int .i64 at1,.int .i64 err1])∧zT l x at1 err1∧vd x=true∧zO w.heap.size (set5 w6 w.heap.size (.int .i64 a) (.string b) (.int .i64 c) (.slice X d1 T) (.int .i64 k)) x v∧Below w.heap.size w (set5 w6 w.heap.size (.int .i64 a) (.string b) (.int .i64 c) (.slice X d1 T) (.int .i64 k))) :=
      ⟨x,0,0,_,rfl,hI,Q,zO.mono (zO.kept aS (by simp) fun i hi _=>zi _ _ _ _ _ _ _ (by omega)) (by omega),
       ((((aR.setCell (p:=⟨w.heap.size,0,none⟩) (by simp) _).setCell (p:=⟨w.heap.size,1,none⟩) (by simp) _).setCell (p:=⟨w.heap.size,2,none⟩) (by simp) _).setCell (p:=⟨w.heap.size,3,none⟩) (by simp) _).setCell (p:=⟨w.heap.size,4,none⟩) (by simp) _⟩
     obtain ⟨q0,q1,q2,q3,q4,qf⟩:=ze Y;obtain ⟨e0,e1,e2,e3,e4,ef⟩:=ze n6;obtain ⟨z0,z1,z2,z3,z4⟩:=zj Y (.int .i64 a) (.string b) (.int .i64 c) (.slice X d1 T) (.int .i64 k);generalize depthE x=D at *;clear aa z n5 Q h9 M I Y n6 aS aR K p4 aL hI aE an U aq ad ab;go_wp2
     exact bodyPost_ret (v:=.tuple #[.agg #[.int .i64 a,.string b,.int .i64 c,.slice X d1 T,.int .i64 k],.int .i64 0,.int .i64 0]) (by simp [results,Tryz.results72,go_sem,z0,z1,z2,z3,z4]) rfl J.out
   ·have az:¬ (t.k:Int)=0:=by omega
    have aY:((t.k:Int)==0)=false:=by rw [beq_eq_false_iff_ne];exact az
    have H:((t.k:Int) != 0)=true:=by simp [bne,aY]
    have hI:zT l Z5 t.at0 6:=HI.out Z5 t.at0 6 (by
     have:Zx (.ok (x,us))=.error t.at0:=by unfold Zx;simp only [←HT.out,if_neg hk0]
     rw [this]
     exact ⟨rfl,rfl,rfl⟩)
    have ai:Hid (zT l Z5 t.at0 6):=hI;clear HI av hI;go_wp2_with fail
    refine ct.mono ?_;clear ct m0 m1 m2 mf al;rintro e w5 ⟨rfl,z⟩;have ar:=Xi R g (false,us) w5 (ab.out.below z);simp only at ar;rw [←HT.out] at ar;have aJ:Hid (Below w4.heap.size w4 w5):=z;clear z;simp only [YQ];go_wp2_with fail
    refine ar.mono ?_;clear ar;rintro e w6 ⟨rfl,I⟩;obtain ⟨Y,G⟩:=ad.out w6 t.at0 6 (Z6 aJ.out I) ai.out;have J:=(show Hid _ from G)
    obtain ⟨q0,q1,q2,q3,q4,qf⟩:=ze Y;obtain ⟨z0,z1,z2,z3,z4⟩:=zj Y (.int .i64 0) (.string ⟨#[]⟩) (.int .i64 0) (.slice none 0 0) (.int .i64 0);clear I Y G an U ai ad ab aJ;simp only [YQ];go_wp2
    exact bodyPost_ret (v:=.tuple #[.agg #[.int .i64 0,.string ⟨#[]⟩,.int .i64 0,.slice none 0 0,.int .i64 0],.int .i64 t.at0,.int .i64 6]) (by simp [results,Tryz.results72,go_sem,z0,z1,z2,z3,z4]) rfl J.out
  ·
   obtain ⟨a',rfl⟩:∃a',res=.error a':=by
    rcases res with a | ⟨y,us'⟩
    ·exact ⟨a,rfl⟩
    ·have:=HQ.out;simp only [Yp,Prod.mk.injEq,Bool.true_eq_false,false_and,and_false] at this
   have aU:(zx us).at0=a':=HQ.out.2;have ai:Hid (zT l Z5 a' 6):=HI.out Z5 a' 6 ⟨rfl,rfl,rfl⟩;have ct:=Xi R g (true,us) w4 ab.out;obtain ⟨t,ht⟩:∃t,t=zx us:=⟨_,rfl⟩;simp only at ct;rw [←ht] at ct aU;subst aU;clear HI av HQ ht;go_wp2_with fail
   refine ct.mono ?_;clear ct m0 m1 m2 mf al;rintro e w6 ⟨rfl,I⟩;obtain ⟨Y,G⟩:=ad.out w6 t.at0 6 I ai.out;have J:=(show Hid _ from G)
   obtain ⟨q0,q1,q2,q3,q4,qf⟩:=ze Y;obtain ⟨z0,z1,z2,z3,z4⟩:=zj Y (.int .i64 0) (.string ⟨#[]⟩) (.int .i64 0) (.slice none 0 0) (.int .i64 0);clear I Y G an U ai ad ab;simp only [YQ];go_wp2
   exact bodyPost_ret (v:=.tuple #[.agg #[.int .i64 0,.string ⟨#[]⟩,.int .i64 0,.slice none 0 0,.int .i64 0],.int .i64 t.at0,.int .i64 6]) (by simp [results,Tryz.results72,go_sem,z0,z1,z2,z3,z4]) rfl J.out
end Go.Proofs.YtmbofhpmockmbaaGreatDoor
