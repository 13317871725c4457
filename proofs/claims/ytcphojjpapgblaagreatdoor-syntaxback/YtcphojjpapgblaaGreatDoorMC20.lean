import Derived.Test.YtcphojjpapgblaaGreatDoorMC15
import Derived.Test.YtcphojjpapgblaaGreatDoorMC13
import Derived.Test.YtcphojjpapgblaaGreatDoorMC14
namespace Go.Proofs.YtcphojjpapgblaaGreatDoor
open Go.RowKit Go.Shelf
set_option maxHeartbeats 16000000
set_option maxRecDepth 100000
theorem zff (a b:List UInt8):zb a++zb b=zb (a++b):=by
 apply ByteArray.ext
 rw [ByteArray.data_append]
 unfold zb
 simp
def ZT:Nat→List Tk→Except Nat (List Tk)
 | 0,ts=>.ok ts
 | n+1,ts=>if zm (zu ts) [93]=true then ZT n ts.tail else .error (zu ts).at0
def XV (k:Nat) (s:List UInt8):Except Nat (List Tk)→PR (List UInt8)
 | .error a=>.error a
 | .ok vs=>.ok (List.replicate k 91++s++List.replicate k 93,vs)
def ZK (k:Nat):List Tk→PR (List UInt8)
 | []=>.error 0
 | t::ts=>if zm t [91]=true then ZK (k+1) ts else if t.k=1 then XV k t.s (ZT k ts) else .error t.at0
theorem za2 {n:Nat}:∀{ts us:List Tk},ZT n ts=.ok us→zi ts→zi us:=by
 induction n with
 | zero=>intro ts us h o;cases h;exact o
 | succ n ih =>
  intro ts us h o
  unfold ZT at h
  split at h
  ·rename_i y;exact ih h (zA o y)
  ·cases h
def za3 (r g:Nat) (w:World) (res:PR (List UInt8)) (e:Ending) (w':World):Prop :=
 zc r w w'∧match res with
  | .error a=>e=ZG a
  | .ok (s,ts)=>∃o cap,e=.returned (.string (zb s))∧zf r g o cap ts w'
theorem zhX (r g o cap:Nat) (ts:List Tk) (w:World) (h:zf r g o cap ts w) (hE:zi ts) (hshort:∀t∈ts,NmT t)
  (hrep:∀(c:UInt8) (n:Nat) (w:World),n≤1099511627776→Calls Tryz.prog 133 #[.string ⟨#[c]⟩,.int .i64 n] w fun e w'=>e=.returned (.string (zb (List.replicate n c)))∧Below w.heap.size w w') :
  Calls Tryz.prog 97 #[.pointer (some ⟨r,0,none⟩)] w (za3 r g w (ZK 0 ts)):=by
 generalize hres:ZK 0 ts=R;obtain ⟨t0,aJ,al⟩:=hE.cons;have hr:r<w.heap.size:=by rw [al] at h;exact h.lt.1
 have aH:g<w.heap.size:=by rw [al] at h;exact h.lt.2
 have aG:=h.few;have HD:Hid (zf r g o cap ts w):=h;have af:Hid (ZK 0 ts=R):=hres;have HE:Hid (zi ts):=hE;have ar:Hid (∀t∈ts,NmT t):=hshort;have ag:Hid (∀(c:UInt8) (n:Nat) (w:World),n≤1099511627776→Calls Tryz.prog 133 #[.string ⟨#[c]⟩,.int .i64 n] w fun e w'=>e=.returned (.string (zb (List.replicate n c)))∧Below w.heap.size w w'):=hrep
 clear h hres hE al hrep hshort
 go_enter Tryz.func97,Tryz.ntmps97
 go_wp2_with fail
 go_loopw [3] (fun d wr=>∃(k:Nat) (L:List Tk) (o2 z:Nat),d=.int .i64 k∧ZK k L=R∧zi L∧k+L.length≤1099511627776∧zf r g o2 z L wr∧zc r w wr∧∀t∈L,NmT t) (fun _ wr=>ZO r wr)
 case atStart=>exact ⟨0,ts,o,cap,rfl,af.out,HE.out,by omega,HD.out,zc.refl _ _,ar.out⟩
 case round =>
  obtain ⟨k,L,o2,z,rfl,Y,N,hN,an,hk,ai⟩:=hrel;obtain ⟨G,ts3,rfl⟩:=N.cons;have cs:=Zy r g o2 z G ts3 [91] wr an (fun hi=>(N.tail (zk hi)).ne)
  have Q:=an.left;have HK:Hid (zc r w wr):=hk;have aD:Hid (G.k=1→G.s.length≤1099511627776):=ai G (by simp)
  have ay:Hid (∀t∈ts3,NmT t):=fun t ht=>ai t (by simp [ht])
  clear HD af HE an hk ai ar
  unfold ZK at Y
  simp only [List.length_cons] at hN
  by_cases hi:zm G [91]=true
  ·rw [hi] at cs
   rw [if_pos hi] at Y;have ad:=N.tail (zk hi);have aB:IntKind.i64.wrap ((k:Int)+1)=(k:Int)+1:=by rw [IntKind.wrap_i64];omega
   go_wp2_with fail
   refine cs.mono ?_;clear cs;rintro e w3 ⟨rfl,W,h3⟩;have O:zf r g (o2+5) (z-1) ts3 w3:=by simpa using h3
   have av:Hid (zf r g (o2+5) (z-1) ts3 w3):=O;have U:Hid (zc r w w3):=HK.out.trans W;clear h3 O W;go_wp2
   refine ⟨⟨k+1,ts3,_,_,by go_num,Y,ad,by omega,av.out,U.out,ay.out⟩,?_⟩
   rw [av.out.left,Q];simp
  ·have aC:zm G [91]=false:=by simpa using hi
   rw [aC] at cs;rw [if_neg hi] at Y;go_wp2_with fail
   refine cs.mono ?_;clear cs;rintro e w3 ⟨rfl,W,h3⟩;have O:zf r g o2 z (G::ts3) w3:=by simpa using h3
   have U:Hid (zc r w w3):=HK.out.trans W;have J:=xu r g o2 z G ts3 w3 O (fun hk=>(N.tail (by omega)).ne)
   clear h3 O W
   by_cases h1:G.k=1
   ·have aM:G.s.length≤1099511627776:=aD.out h1
    simp only [if_pos h1] at J;rw [if_pos h1] at Y;have ad:=N.tail (by omega:G.k≠0)
    go_wp2_with fail
    refine J.mono ?_;clear J;rintro e w4 ⟨aa,rfl,h4⟩;have aw:Hid (zc r w w4):=U.out.trans aa;have au:Hid (zf r g (o2+5) (z-1) ts3 w4):=h4;clear aa h4;go_wp2_with fail
    obtain ⟨C,hC⟩:∃C,C=ZT k ts3:=⟨_,rfl⟩;rw [←hC] at Y;have HT:Hid (XV k G.s C=R):=Y;have HC:Hid (C=ZT k ts3):=hC;have ax:Hid (zi ts3):=ad;have ap:k≤1099511627776:=by omega
    clear Y hC ad N hN Q HK
    go_loopw [12] (fun v wq=>∃(i:Nat) (ab:List Tk) (o5 y:Nat),v=.int .i64 i∧i≤k∧C=ZT (k-i) ab∧zi ab∧zf r g o5 y ab wq∧zc r w wq) (fun v _=>k-(intOf v).toNat)
    case atStart=>exact ⟨0,ts3,_,_,rfl,Nat.zero_le _,HC.out,ax.out,au.out,aw.out⟩
    case round =>
     obtain ⟨i,ab,o5,y,rfl,aK,A,X,H,am⟩:=hrel;obtain ⟨t5,D,rfl⟩:=X.cons;have V:=H;have ak:Hid (zc r w _):=am;clear HC ax au aw U
     by_cases hlt:i<k
     ·have aq:(i:Int)<(k:Int):=by omega
      have J:=yI r g o5 y t5 D [93] _ H (fun hi=>(X.tail (zk hi)).ne)
      rw [show k-i=(k-i-1)+1 by omega] at A
      simp only [ZT,zC,List.tail_cons] at A;have aB:IntKind.i64.wrap ((i:Int)+1)=(i:Int)+1:=by rw [IntKind.wrap_i64];omega
      clear H V am
      by_cases hm:zm t5 [93]=true
      ·simp only [if_pos hm] at J
       rw [if_pos hm] at A;have aA:Hid (C=ZT (k-i-1) D):=A;have az:Hid (zi D):=X.tail (zk hm);clear A X;go_wp2_with fail
       refine J.mono ?_;clear J;rintro e w6 ⟨I,rfl,h6⟩;have ah:Hid (zc r w w6):=ak.out.trans I;have T:Hid (zf r g (o5+5) (y-1) D w6):=h6;clear I h6;go_wp2
       exact ⟨⟨i+1,D,_,_,by go_num,by omega,by rw [aA.out,show k-(i+1)=k-i-1 by omega],az.out,T.out,ah.out⟩,by simp [intOf];omega⟩
      ·simp only [if_neg hm] at J
       rw [if_neg hm] at A;have hR:=HT.out;rw [A] at hR;simp only [XV] at hR;subst hR;go_wp2_with fail
       refine J.mono ?_;clear J;rintro e w6 ⟨I,rfl⟩;exact ⟨rfl,ak.out.trans I,rfl⟩
     ·have aq:¬(i:Int)<(k:Int):=by omega
      rw [show k-i=0 by omega] at A
      simp only [ZT] at A;have hR:=HT.out;rw [A] at hR;simp only [XV] at hR;subst hR;have aj:Hid (zf r g o5 y (t5::D) wr):=H;have c1:=ag.out 91 k wr ap;have aL:(zb (List.replicate k 91)).size=k:=by rw [Zd,List.length_replicate]
      have aI:(zb G.s).size=G.s.length:=Zd _;have aN:(zb (List.replicate k 93)).size=k:=by rw [Zd,List.length_replicate]
      have aO:(zb (List.replicate k 91)++zb G.s).size=k+G.s.length:=by rw [zff,Zd,List.length_append,List.length_replicate]
      clear H V am A X HT;go_wp2_with fail
      refine c1.mono ?_;clear c1;rintro e w6 ⟨rfl,Z⟩;have I:zc r w w6:=ak.out.trans (zc.of Z);have ao:zf r g o5 y (t5::D) w6:=aj.out.keep (Z.block _ aj.out.lt.1) (Z.block _ aj.out.lt.2);have c2:=ag.out 93 k w6 ap;have ah:Hid (zc r w w6):=I;have T:Hid (zf r g o5 y (t5::D) w6):=ao;clear I ao Z;go_wp2_with fail
      refine c2.mono ?_;clear c2;rintro e w7 ⟨rfl,ae⟩;have aE:Hid (zc r w w7):=ah.out.trans (zc.of ae);have aF:Hid (zf r g o5 y (t5::D) w7):=T.out.keep (ae.block _ T.out.lt.1) (ae.block _ T.out.lt.2);clear ae;go_wp2
      refine bodyPost_ret (v:=.string (zb (List.replicate k 91)++zb G.s++zb (List.replicate k 93))) (by simp [results,Tryz.results97,go_sem]) rfl ⟨aE.out,_,_,?_,aF.out⟩
      rw [zff,zff]
   ·simp only [if_neg h1] at J
    rw [if_neg h1] at Y;subst Y;go_wp2_with fail
    refine J.mono ?_;clear J;rintro e w4 ⟨aa,rfl⟩;exact ⟨rfl,U.out.trans aa,rfl⟩
def Z9 (ts:List Tk):PR (List UInt8 × List UInt8) :=
 if (zu ts).k=1 then
  if zm (zu ts.tail) [58]=true then
   match ZK 0 ts.tail.tail with
   | .error a=>.error a
   | .ok (s,us)=>.ok (((zu ts).s,s),us)
  else .error (zu ts.tail).at0
 else .error (zu ts).at0
def za4 (r g:Nat) (w:World) (res:PR (List UInt8 × List UInt8)) (e:Ending) (w':World):Prop :=
 zc r w w'∧match res with
  | .error a=>e=ZG a
  | .ok (p,ts)=>∃o cap,e=.returned (.agg #[.string (zb p.1),.string (zb p.2)])∧zf r g o cap ts w'
abbrev prZ:Obj:=.cells #[.string ⟨#[]⟩,.string ⟨#[]⟩] 116
theorem ZJ {w:World} {N:Nat} {x0 x1:Value} {ty:TypeId} (h:w.heap[N]?=some (.cells #[x0,x1] ty (0,0))) :
  w.cell? ⟨N,0,none⟩=some x0∧w.cell? ⟨N,1,none⟩=some x1∧∀j,w.frozen? ⟨N,j,none⟩=false:=by
 refine ⟨?_,?_,fun j=>?_⟩
 ·simp only [World.cell?,h];rfl
 ·simp only [World.cell?,h];rfl
 ·simp only [World.frozen?,h];simp
theorem zgL (r g o cap:Nat) (ts:List Tk) (w:World) (h:zf r g o cap ts w) (hE:zi ts)
  (hty:∀V H o1 cap1,(∃a b,ts=a::b::V)→zi V→zf r g o1 cap1 V H→Calls Tryz.prog 97 #[.pointer (some ⟨r,0,none⟩)] H (za3 r g H (ZK 0 V))) :
  Calls Tryz.prog 95 #[.pointer (some ⟨r,0,none⟩)] w (za4 r g w (Z9 ts)):=by
 generalize hres:Z9 ts=R;obtain ⟨t,V,rfl⟩:=hE.cons;have hr:=h.lt.1;have ag:=h.lt.2;obtain ⟨w0,D⟩:∃w0,w0=w.alloc prZ:=⟨_,rfl⟩;have h0:zf r g o cap (t::V) w0:=by rw [D];exact h.alloc _
 have k0:zc r w w0:=by rw [D];exact (zc.refl r w).alloc _
 have b0:w0.heap[w.heap.size]?=some prZ:=by rw [D];exact World.alloc_heap_new _ _
 have ah:w0.heap.size=w.heap.size+1:=by rw [D];simp
 have Y:=xu r g o cap t V w0 h0 (fun hk=>(hE.tail (by omega)).ne)
 have X:Hid (w0=w.alloc prZ):=D
 unfold Z9 at hres
 simp only [zC,List.tail_cons] at hres;clear h h0 D
 by_cases hk:t.k=1
 ·simp only [if_pos hk] at Y
  rw [if_pos hk] at hres;have W:=hE.tail (by omega:t.k≠0)
  obtain ⟨t1,N,rfl⟩:=W.cons;simp only [zC,List.tail_cons] at hres
  go_enter Tryz.func95,Tryz.ntmps95
  go_wp2_with fail
  rw [←X.out];refine Y.mono ?_;clear Y X;rintro e H ⟨I,rfl,h1⟩;obtain ⟨w2,G⟩:∃w2,w2=H.alloc (.cells #[.string (zb t.s),.string ⟨#[]⟩] 116):=⟨_,rfl⟩;have h2:zf r g (o+5) (cap-1) (t1::N) w2:=by rw [G];exact h1.alloc _
  have ak:=I.size;have b1:=(I.block _ (by omega) (by omega)).trans b0
  have b2:w2.heap[w.heap.size]?=some prZ:=by rw [G];exact (Below.heap_alloc _ _ _ (by omega)).trans b1
  have bP:w2.heap[H.heap.size]?=some (.cells #[.string (zb t.s),.string ⟨#[]⟩] 116 (0,0)):=by rw [G];exact World.alloc_heap_new _ _
  have hP:H.heap.size<w2.heap.size:=(Array.getElem?_eq_some_iff.1 bP).1;have J:Hid (zc r w w2):=show zc _ _ _ by rw [G];exact (k0.trans I).alloc _
  have Z:=yI r g (o+5) (cap-1) t1 N [58] w2 h2 (fun hi=>(W.tail (zk hi)).ne)
  have U:Hid (w2=H.alloc (.cells #[.string (zb t.s),.string ⟨#[]⟩] 116)):=G;have HB:Hid (w2.heap[w.heap.size]?=some prZ∧w2.heap[H.heap.size]?=some (.cells #[.string (zb t.s),.string ⟨#[]⟩] 116 (0,0))):=⟨b2,bP⟩;clear G h1 I b0 b1 b2 bP k0 h2
  by_cases hc:zm t1 [58]=true
  ·simp only [if_pos hc] at Z
   rw [if_pos hc] at hres;have ae:=W.tail (zk hc);go_wp2_with fail
   rw [←U.out];refine Z.mono ?_;clear Z U;rintro e w3 ⟨O,rfl,h3⟩;have ct:=hty N w3 _ _ ⟨t,t1,rfl⟩ ae h3;have aa:Hid (zc r w2 w3):=O;clear hty h3 O;go_wp2_with fail
   refine ct.mono ?_;clear ct;rintro e w4 ⟨ab,y⟩;have A:zc r w2 w4:=aa.out.trans ab;cases hT:ZK 0 N with
   | error a =>
    rw [hT] at y hres;simp only at y hres;obtain rfl:=y;subst hres;exact ⟨rfl,J.out.trans A,rfl⟩
   | ok p =>
    obtain ⟨s,vs⟩:=p;rw [hT] at y hres;obtain ⟨o4,Q,rfl,ad⟩:=y;simp only at hres;subst hres;have al:=J.out.size;have ai:=A.size;have b4:=(A.block _ (by omega) (by omega)).trans HB.out.1
    have c4:=(A.block _ hP (by omega)).trans HB.out.2
    obtain ⟨-,g1,gf⟩:=ZJ c4;have aj:=gf 1;obtain ⟨w5,L⟩:∃w5,w5=w4.setCell ⟨H.heap.size,1,none⟩ (.string (zb s)):=⟨_,rfl⟩;have z:∀k,k≠H.heap.size→w5.heap[k]?=w4.heap[k]?:=fun k hk=>by rw [L];exact Below.heap_setCell _ _ _ _ (by simpa using hk)
    have c5:w5.heap[H.heap.size]?=some (.cells #[.string (zb t.s),.string (zb s)] 116 (0,0)):=by rw [L];exact zo _ c4
    have b5:=(z w.heap.size (by omega)).trans b4
    obtain ⟨d0,d1,-⟩:=ZJ c5;obtain ⟨q0,q1,qf⟩:=ZJ b5;have k5:zc r w w5:=by rw [L];exact (J.out.trans A).setOther (by simp;omega) _
    have T:zf r g o4 Q vs w5:=ad.keep (z r (by omega)) (z g (by omega))
    have af:=L.symm;have b6:=zo (j:=1) (.string (zb s)) (zo (j:=0) (.string (zb t.s)) b5);obtain ⟨z0,z1,-⟩:=ZJ (x0:=.string (zb t.s)) (x1:=.string (zb s)) b6
    have HP:Hid (za4 r g w (.ok ((t.s,s),vs)) (.returned (.agg #[.string (zb t.s),.string (zb s)])) ((w5.setCell ⟨w.heap.size,0,none⟩ (.string (zb t.s))).setCell ⟨w.heap.size,1,none⟩ (.string (zb s)))):=by
     refine ⟨(k5.setOther (p:=⟨w.heap.size,0,none⟩) (by simp) _).setOther (p:=⟨w.heap.size,1,none⟩) (by simp) _,o4,Q,rfl,T.keep ?_ ?_⟩
     ·rw [Below.heap_setCell _ _ _ _ (by simp;omega),Below.heap_setCell _ _ _ _ (by simp;omega)]
     ·rw [Below.heap_setCell _ _ _ _ (by simp;omega),Below.heap_setCell _ _ _ _ (by simp;omega)]
    clear L z b4 c4 c5 b5 b6 k5 T ad gf ab A HB J aa;go_wp2
    exact bodyPost_ret (v:=.agg #[.string (zb t.s),.string (zb s)]) (by simp [results,Tryz.results95,go_sem,z0,z1]) rfl HP.out
  ·simp only [if_neg hc] at Z
   rw [if_neg hc] at hres;subst hres;go_wp2_with fail
   rw [←U.out];refine Z.mono ?_;clear Z;rintro e w3 ⟨O,rfl⟩;exact ⟨rfl,J.out.trans O,rfl⟩
 ·simp only [if_neg hk] at Y
  rw [if_neg hk] at hres;subst hres
  go_enter Tryz.func95,Tryz.ntmps95
  go_wp2_with fail
  rw [←X.out];refine Y.mono ?_;clear Y;rintro e H ⟨I,rfl⟩;exact ⟨rfl,k0.trans I,rfl⟩
abbrev Pm:=List UInt8 × List UInt8
def PmE (_:Nat→Prop) (_:World) (x:Pm) (c:List Value):Prop:=c=[.string (zb x.1),.string (zb x.2)]
theorem Ya:Z5 PmE:=⟨fun h _ _=>h,fun h _=>h,fun h=>h⟩
def zP:Nat→List Pm→List Tk→Option (PR (List Pm))
 | 0,_,_=>none
 | f+1,pre,ts =>
  match Z9 ts with
  | .error a=>some (.error a)
  | .ok (p,us)=>if zm (zu us) [44]=true then zP f (pre++[p]) us.tail else some (.ok (pre++[p],us))
theorem YK:∀(ts:List Tk) (k:Nat) (s:List UInt8) (us:List Tk),ZK k ts=.ok (s,us)→zi ts→zi us∧us.length<ts.length
 | [],k,s,us,h,hE=>absurd hE (by simp [zi])
 | t::ts,k,s,us,h,hE=>by
  unfold ZK at h
  split at h
  ·rename_i A
   have:=YK ts (k+1) s us h (hE.tail (zk A))
   exact ⟨this.1,by simp only [List.length_cons];omega⟩
  ·split at h
   ·rename_i G
    unfold XV at h
    split at h
    ·cases h
    ·rename_i D y
     cases h
     have o:=hE.tail (by omega:t.k≠0)
     refine ⟨za2 y o,?_⟩
     have z:∀(n:Nat) (a b:List Tk),ZT n a=.ok b→b.length≤a.length:=by
      intro n
      induction n with
      | zero=>intro a b h;cases h;exact Nat.le_refl _
      | succ n ih =>
       intro a b h
       unfold ZT at h
       split at h
       ·have:=ih _ _ h;simp only [List.length_tail] at this;omega
       ·cases h
     have:=z _ _ _ y
     simp only [List.length_cons];omega
   ·cases h
theorem YX {ts us:List Tk} {p:Pm} (h:Z9 ts=.ok (p,us)) (hE:zi ts):zi us∧us.length<ts.length:=by
 obtain ⟨t,y,rfl⟩:=hE.cons
 unfold Z9 at h
 simp only [zC,List.tail_cons] at h
 split at h
 ·rename_i I
  have o:=hE.tail (by omega:t.k≠0)
  obtain ⟨G,A,rfl⟩:=o.cons;simp only [zC,List.tail_cons] at h
  split at h
  ·rename_i z
   split at h
   ·cases h
   ·rename_i s H D
    cases h
    have:=YK _ _ _ _ D (o.tail (zk z))
    exact ⟨this.1,by simp only [List.length_cons];omega⟩
  ·cases h
 ·cases h
def Uf (f:Nat) (l:List Pm) (ts:List Tk):Option (PR (List Pm)):=if zm (zu ts) [44]=true then zP f l ts.tail else some (.ok (l,ts))
def za5 (r g:Nat) (w:World) (res:PR (List Pm)) (e:Ending) (w':World):Prop :=
 zc r w w'∧match res with
  | .error a=>e=ZG a
  | .ok (l,ts)=>∃v g1 cap1 us o cap,e=.returned v∧Zf PmE 2 116 w.heap.size w' l v g1 cap1 us∧zf r g o cap ts w'
theorem zcg:(Tryz.prog.info? 116).map (fun i=>(i.zero,i.size,i.bytes))=some (some (.agg #[.string ⟨#[]⟩,.string ⟨#[]⟩]),2,32):=by kernel_rfl
theorem zfg (r g o cap F:Nat) (ts:List Tk) (w:World) (res:PR (List Pm)) (h:zf r g o cap ts w) (hE:zi ts) (hp:zP (F+1) [] ts=some res)
  (hone:∀G o1 z A,zi A→zf r g o1 z A G→zc r w G→Calls Tryz.prog 95 #[.pointer (some ⟨r,0,none⟩)] G (za4 r g G (Z9 A))) :
  Calls Tryz.prog 94 #[.pointer (some ⟨r,0,none⟩),.func (.func 95) #[.pointer (some ⟨r,0,none⟩)] #[]] w (za5 r g w res):=by
 obtain ⟨i0,aH,aN,aK,aG⟩:=info_parts zcg;obtain ⟨t0,az,rfl⟩:=hE.cons;have hr:=h.lt.1;have aQ:=h.lt.2;have hN:=h.few;have c1:=hone w o cap (t0::az) hE h (zc.refl r w);rw [zP] at hp;cases hb:Z9 (t0::az) with
 | error a =>
  rw [hb] at hp c1;simp only [Option.some.injEq] at hp;subst hp
  go_enter Tryz.func94,Tryz.ntmps94
  go_wp2_with fail
  refine c1.mono ?_;clear c1;rintro e G ⟨ad,y⟩;obtain rfl:=y;exact ⟨rfl,ad,rfl⟩
 | ok q =>
  obtain ⟨x,us⟩:=q;rw [hb] at hp c1;simp only at hp
  go_enter Tryz.func94,Tryz.ntmps94
  go_wp2_with fail
  refine c1.mono ?_;clear c1;rintro e G ⟨ad,y⟩;obtain ⟨o1,z,rfl,aa⟩:=y;obtain ⟨aq,aE⟩:=YX hb hE;have HP:Hid (Uf F [x] us=some res):=hp;obtain ⟨t1,A,rfl⟩:=aq.cons
  have aB:Hid (Zf PmE 2 116 w.heap.size (G.alloc (.cells #[.string (zb x.1),.string (zb x.2)] 116)) [x] (.slice (some ⟨G.heap.size,0,none⟩) 1 1) G.heap.size 1 [[.string (zb x.1),.string (zb x.2)]]) :=
   Zf.first Ya (c:=[.string (zb x.1),.string (zb x.2)]) rfl rfl ad.size
  have ax:Hid (zf r g o1 z (t1::A) (G.alloc (.cells #[.string (zb x.1),.string (zb x.2)] 116))):=aa.alloc _;have av:Hid (zc r w (G.alloc (.cells #[.string (zb x.1),.string (zb x.2)] 116))):=ad.alloc _;have aw:Hid (zi (t1::A)):=aq;have hn:A.length+2≤1099511627776:=by simp only [List.length_cons] at aE hN;omega
  have ay:Hid (∀G o1 z A,zi A→zf r g o1 z A G→zc r w G→Calls Tryz.prog 95 #[.pointer (some ⟨r,0,none⟩)] G (za4 r g G (Z9 A))):=hone;clear aa ad aq hone hp hb hE hN h aE;go_wp2_with fail
  go_loopw [5] (fun v wr=>∃(L:List Pm) (g1 z:Nat) (us:List (List Value)) (o2 O:Nat) (Y:List Tk) (f2:Nat),Uf f2 L Y=some res∧zi Y∧L.length+Y.length≤1099511627776∧Zf PmE 2 116 w.heap.size wr L v g1 z us∧zf r g o2 O Y wr∧zc r w wr) (fun _ wr=>ZO r wr)
  case atStart=>exact ⟨[x],_,_,_,o1,z,t1::A,F,HP.out,aw.out,by simp only [List.length_cons,List.length_nil];omega,aB.out,ax.out,av.out⟩
  case round =>
   obtain ⟨L,g1,cp1,us,o2,O,Y,f2,I,ab,ao,Q,R,aj⟩:=hrel;clear HP aB ax av aw hn;obtain ⟨t2,ag,rfl⟩:=ab.cons;have cs:=Zy r g o2 O t2 ag [44] wr R (fun hi=>(ab.tail (zk hi)).ne)
   have am:=R.left;have X:Hid (Zf PmE 2 116 w.heap.size wr L _ g1 cp1 us):=Q;have ar:Hid (zc r w wr):=aj;have aA:=Q.val;subst aA
   unfold Uf at I
   simp only [zC,List.tail_cons] at I
   by_cases hi:zm t2 [44]=true
   ·rw [hi] at cs
    rw [if_pos hi] at I;have aC:=ab.tail (zk hi);clear Q aj R ab;go_wp2_with fail
    refine cs.mono ?_;clear cs;rintro e w3 ⟨rfl,D,h3⟩;simp only [if_true] at h3;have an:zc r w w3:=ar.out.trans D;have J:=X.out.kept Ya D.size fun k hB hlt=>D.block k hlt (by omega)
    cases f2 with
    | zero=>simp [zP] at I
    | succ f3 =>
     rw [zP] at I;have c3:=ay.out w3 _ _ ag aC h3 an;have aU:=J.block;have N:Hid (Zf PmE 2 116 w.heap.size w3 L _ g1 cp1 us):=J;have af:Hid (zc r w w3):=an;clear J an D h3 X ar;cases hb3:Z9 ag with
     | error a =>
      rw [hb3] at I c3;simp only [Option.some.injEq] at I;subst I;go_wp2_with fail
      refine c3.mono ?_;clear c3;rintro e w4 ⟨T,y⟩;obtain rfl:=y;exact ⟨rfl,af.out.trans T,rfl⟩
     | ok q =>
      obtain ⟨Z,ae⟩:=q;rw [hb3] at I c3;simp only at I;go_wp2_with fail
      refine c3.mono ?_;clear c3;rintro e w4 ⟨T,y⟩;have ap:Hid (zc r w w4):=af.out.trans T;obtain ⟨o4,U,rfl,aa⟩:=y;have H:=N.out.kept Ya T.size fun k hB hlt=>T.block k hlt (by omega)
      have ai:Hid (Zf PmE 2 116 w.heap.size w4 L _ g1 cp1 us):=H;have aI:Hid (zf r g o4 U ae w4):=aa;obtain ⟨aO,aR⟩:=YX hb3 aC;have aD:=(H.own.alloc (.cells #[.string (zb Z.1),.string (zb Z.2)] 116));have HT:Hid (Uf f3 (L++[Z]) ae=some res):=I;have aP:w.heap.size≤w4.heap.size:=ap.out.size;clear H aa I T
      go_wp2_with (at_builtin;refine wpList_append_own_at _ rfl _ _ 68 rfl w.heap.size 116 i0 _ 2 32 Tryz.underlying68 aH aN aK aG rfl (by decide) _ _ _ rfl aD ⟨w4.heap.size,0,none⟩ 1 1 [.string (zb Z.1),.string (zb Z.2)] rfl rfl (ZP _ _ _) (by simp [Value.oneCell']) (by unfold maxLen;simp only [List.length_cons] at ao;omega) (by simp only [List.length_cons] at ao;omega) (by simp;omega) ?_;intro v' w5 ak V _ aF)
      obtain ⟨g5,au,al,aT⟩:=ai.out.snoc Ya (x:=Z) (c:=[.string (zb Z.1),.string (zb Z.2)]) rfl rfl ak V aF
      have W:(w4.alloc (.cells #[.string (zb Z.1),.string (zb Z.2)] 116)).grownBy w5 (some g1):=V;have aL:zc r w w5:=(ap.out.alloc _).grown W fun k hk=>by have:=Option.some.inj hk;omega
      have aS:w.heap.size≤w4.heap.size:=ap.out.size;have ah:zf r g o4 U ae w5:=aI.out.keep ((W.block r (by simp;omega) (fun e=>by have:=Option.some.inj e;omega)).trans (Below.heap_alloc _ _ _ (by omega))) ((W.block g (by simp;omega) (fun e=>by have:=Option.some.inj e;omega)).trans (Below.heap_alloc _ _ _ (by omega)))
      refine ⟨⟨L++[Z],g5,au,_,o4,U,ae,f3,HT.out,aO,?_,al,ah,aL⟩,?_⟩
      ·simp only [List.length_append,List.length_cons,List.length_nil] at ao ⊢;omega
      ·rw [ah.left,am];simp only [List.length_cons];omega
   ·have aM:zm t2 [44]=false:=by simpa using hi
    rw [aM] at cs;rw [if_neg hi] at I;clear Q aj R ab;go_wp2_with fail
    refine cs.mono ?_;clear cs;rintro e w3 ⟨rfl,D,h3⟩;have af:Hid (zc r w w3):=ar.out.trans D;have N:Hid (Zf PmE 2 116 w.heap.size w3 L (.slice (some ⟨g1,0,none⟩) L.length cp1) g1 cp1 us):=X.out.kept Ya D.size fun k hB hlt=>D.block k hlt (by omega)
    have aJ:Hid (zf r g o2 O (t2::ag) w3):=show zf _ _ _ _ _ _ by simpa using h3
    simp only [Option.some.injEq] at I;subst I;clear D h3;go_wp2
    refine bodyPost_ret (v:=.slice (some ⟨g1,0,none⟩) L.length cp1) (by simp [results,Tryz.results94,go_sem]) rfl ⟨af.out,_,_,_,_,_,_,rfl,N.out,aJ.out⟩
def ZU (B:Nat) (w:World) (l:List Pm) (v:Value):Prop :=
 (l=[]∧v=.slice none 0 0)∨∃g cap us,Zf PmE 2 116 B w l v g cap us
theorem ZU.kept {B:Nat} {w w':World} {l:List Pm} {v:Value} (h:ZU B w l v) (hs:w.heap.size≤w'.heap.size) (hb:∀k,B≤k→k<w.heap.size→w'.heap[k]?=w.heap[k]?):ZU B w' l v:=by
 rcases h with h | ⟨g,o,y,h⟩
 ·exact .inl h
 ·exact .inr ⟨g,o,y,h.kept Ya hs hb⟩
theorem ZU.mono {B B':Nat} {w:World} {l:List Pm} {v:Value} (h:ZU B w l v) (hb:B'≤B):ZU B' w l v:=by
 rcases h with h | ⟨g,A,G,h⟩
 ·exact .inl h
 ·refine .inr ⟨g,A,G,h.val,h.ne,?_,h.len,h.wid,h.kids⟩
  refine ⟨h.own.1,?_⟩;rcases h.own.2 with z | ⟨H,o,y,z,D,I⟩
  ·exact .inl z
  ·exact .inr ⟨H,o,y,z,Nat.le_trans hb D,I⟩
def zdj (r g:Nat) (w:World) (res:PR (List Pm)) (e:Ending) (w':World):Prop :=
 zc r w w'∧match res with
  | .error a=>e=ZG a
  | .ok (l,ts)=>∃v o cap,e=.returned v∧ZU w.heap.size w' l v∧zf r g o cap ts w'
def Yo (t:Tk) (ts:List Tk) (res:PR (List Pm)):PR (List Pm) :=
 if zm t [40]=true then
  if zm (zu ts) [41]=true then .ok ([],ts.tail) else
  match res with
  | .error a=>.error a
  | .ok (l,us)=>if zm (zu us) [41]=true then .ok (l,us.tail) else .error (zu us).at0
 else .error t.at0
theorem XW (r g o cap:Nat) (f:Value) (t:Tk) (ts:List Tk) (w:World) (res:PR (List Pm)) (h:zf r g o cap (t::ts) w) (hE:zi (t::ts)) (hEnd:∀l us,res=.ok (l,us)→zi us)
  (hrow:zm t [40]=true→zm (zu ts) [41]=false→∀I o1 G,zf r g o1 G ts I→zc r w I→Calls Tryz.prog 94 #[.pointer (some ⟨r,0,none⟩),f] I (za5 r g I res)) :
  Calls Tryz.prog 96 #[.pointer (some ⟨r,0,none⟩),f] w (zdj r g w (Yo t ts res)):=by
 have hr:=h.lt.1;have O:=yI r g o cap t ts [40] w h (fun hi=>(hE.tail (zk hi)).ne)
 clear h
 unfold Yo
 by_cases hi:zm t [40]=true
 ·simp only [if_pos hi] at O ⊢
  have W:=hE.tail (zk hi);obtain ⟨t1,J,rfl⟩:=W.cons;simp only [zC,List.tail_cons] at hrow ⊢
  by_cases hj:zm t1 [41]=true
  ·simp only [if_pos hj]
   clear hrow hEnd
   go_enter Tryz.func96,Tryz.ntmps96
   go_wp2_with fail
   refine O.mono ?_;clear O;rintro e I ⟨y,rfl,h1⟩;have V:=Zy r g _ _ t1 J [41] I h1 (fun hi=>(W.tail (zk hi)).ne)
   have T:Hid (zc r w I):=y;rw [hj] at V;clear h1 y;go_wp2_with fail
   refine V.mono ?_;clear V;rintro e w2 ⟨rfl,D,h2⟩;have L:Hid (zc r w w2):=T.out.trans D;have ab:zf r g (o+5+5) (cap-1-1) J w2:=by simpa using h2
   have aj:Hid (zf r g (o+5+5) (cap-1-1) J w2):=ab;clear h2 ab D;go_wp2
   refine bodyPost_ret (v:=.slice none 0 0) (by simp [results,Tryz.results96,go_sem]) rfl ⟨L.out,_,_,_,rfl,.inl ⟨rfl,rfl⟩,aj.out⟩
  ·have aa:zm t1 [41]=false:=by simpa using hj
   simp only [if_neg hj]
   go_enter Tryz.func96,Tryz.ntmps96
   go_wp2_with fail
   refine O.mono ?_;clear O;rintro e I ⟨y,rfl,h1⟩;have V:=Zy r g _ _ t1 J [41] I h1 (fun hi=>(W.tail (zk hi)).ne)
   have T:Hid (zc r w I):=y;rw [aa] at V;clear h1 y;go_wp2_with fail
   refine V.mono ?_;clear V;rintro e w2 ⟨rfl,D,h2⟩;have U:zc r w w2:=T.out.trans D;have L:Hid (zc r w w2):=U;have cr:=hrow hi aa w2 _ _ (by simpa using h2) U
   clear h2 D U hrow;go_wp2_with fail
   refine cr.mono ?_;clear cr;rintro e w3 ⟨Z,H⟩;have R:Hid (zc r w w3):=L.out.trans Z;rcases res with a | ⟨l,us⟩
   ·obtain rfl:=H
    exact ⟨rfl,R.out,rfl⟩
   ·obtain ⟨v,g1,G,ah,o3,Q,rfl,N,ag⟩:=H
    have ad:ZU w2.heap.size w3 l v:=.inr ⟨g1,G,ah,N⟩;clear N;have Y:=hEnd l us rfl;obtain ⟨t3,af,rfl⟩:=Y.cons;have A:=yI r g o3 Q t3 af [41] w3 ag (fun hi=>(Y.tail (zk hi)).ne)
    have am:w.heap.size≤w2.heap.size:=L.out.size;have an:r<w2.heap.size:=by omega
    have ae:Hid (ZU w2.heap.size w3 l v):=ad;clear ag ad Z hEnd
    by_cases hm:zm t3 [41]=true
    ·simp only [if_pos hm] at A
     go_wp2_with fail
     refine A.mono ?_;clear A;rintro e w4 ⟨z,rfl,h4⟩;have ai:Hid (zc r w w4):=R.out.trans z;have X:Hid (ZU w2.heap.size w4 l v):=ZU.kept ae.out z.size fun k hB hlt=>z.block k hlt (by omega)
     have ak:Hid (zf r g (o3+5) (Q-1) af w4):=h4;clear z h4;go_wp2
     refine bodyPost_ret (v:=v) (by simp [results,Tryz.results96,go_sem]) rfl ⟨ai.out,_,_,_,rfl,ZU.mono X.out am,ak.out⟩
    ·simp only [if_neg hm] at A
     have al:zm t3 [41]=false:=by simpa using hm
     go_wp2_with fail
     refine A.mono ?_;clear A;rintro e w4 ⟨z,rfl⟩;refine ⟨rfl,R.out.trans z,?_⟩;simp only [zC,al,Bool.false_eq_true,if_false]
 ·simp only [if_neg hi] at O ⊢
  clear hrow hEnd
  go_enter Tryz.func96,Tryz.ntmps96
  go_wp2_with fail
  refine O.mono ?_;clear O;rintro e I ⟨y,rfl⟩;exact ⟨rfl,y,rfl⟩
end Go.Proofs.YtcphojjpapgblaaGreatDoor
