import Derived.Test.YtpejpbbdgblbeaaGreatDoorMC16
import Derived.Test.YtpejpbbdgblbeaaGreatDoorMC14
import Derived.Test.YtpejpbbdgblbeaaGreatDoorMC15
namespace Go.Proofs.YtpejpbbdgblbeaaGreatDoor
open Go.RowKit Go.Shelf
set_option maxHeartbeats 16000000
set_option maxRecDepth 100000
theorem zdu (a b:List UInt8):zb a++zb b=zb (a++b):=by
 apply ByteArray.ext
 rw [ByteArray.data_append]
 unfold zb
 simp
def Z0:Nat→List Tk→Except Nat (List Tk)
 | 0,ts=>.ok ts
 | n+1,ts=>if zo (zw ts) [93]=true then Z0 n ts.tail else .error (zw ts).at0
def XA (k:Nat) (s:List UInt8):Except Nat (List Tk)→PR (List UInt8)
 | .error a=>.error a
 | .ok vs=>.ok (List.replicate k 91++s++List.replicate k 93,vs)
def ZW (k:Nat):List Tk→PR (List UInt8)
 | []=>.error 0
 | t::ts=>if zo t [91]=true then ZW (k+1) ts else if t.k=1 then XA k t.s (Z0 k ts) else .error t.at0
theorem QH {n:Nat}:∀{ts us:List Tk},Z0 n ts=.ok us→zg ts→zg us:=by
 induction n with
 | zero=>intro ts us h o;cases h;exact o
 | succ n ih =>
  intro ts us h o
  unfold Z0 at h
  split at h
  ·rename_i s;exact ih h (zy o s)
  ·cases h
def QI (r g:Nat) (w:World) (res:PR (List UInt8)) (e:Ending) (w':World):Prop :=
 zd r w w'∧match res with
  | .error a=>e=ZH a
  | .ok (s,ts)=>∃o cap,e=.returned (.string (zb s))∧zf r g o cap ts w'
theorem zfG (r g o cap:Nat) (ts:List Tk) (w:World) (h:zf r g o cap ts w) (hE:zg ts) (hshort:∀t∈ts,NmT t)
  (hrep:∀(c:UInt8) (n:Nat) (w:World),n≤1099511627776→Calls Tryz.prog 135 #[.string ⟨#[c]⟩,.int .i64 n] w fun e w'=>e=.returned (.string (zb (List.replicate n c)))∧Below w.heap.size w w') :
  Calls Tryz.prog 99 #[.pointer (some ⟨r,0,none⟩)] w (QI r g w (ZW 0 ts)):=by
 generalize hres:ZW 0 ts=R;obtain ⟨t0,aL,aj⟩:=hE.cons;have hr:r<w.heap.size:=by rw [aj] at h;exact h.lt.1
 have aN:g<w.heap.size:=by rw [aj] at h;exact h.lt.2
 have aG:=h.few;have HD:Hid (zf r g o cap ts w):=h;have ag:Hid (ZW 0 ts=R):=hres;have HE:Hid (zg ts):=hE;have ax:Hid (∀t∈ts,NmT t):=hshort;have af:Hid (∀(c:UInt8) (n:Nat) (w:World),n≤1099511627776→Calls Tryz.prog 135 #[.string ⟨#[c]⟩,.int .i64 n] w fun e w'=>e=.returned (.string (zb (List.replicate n c)))∧Below w.heap.size w w'):=hrep
 clear h hres hE aj hrep hshort
 go_enter Tryz.func99,Tryz.ntmps99
 go_wp2_with fail
 go_loopw [3] (fun d wr=>∃(k:Nat) (L:List Tk) (o2 y:Nat),d=.int .i64 k∧ZW k L=R∧zg L∧k+L.length≤1099511627776∧zf r g o2 y L wr∧zd r w wr∧∀t∈L,NmT t) (fun _ wr=>ZQ r wr)
 case atStart=>exact ⟨0,ts,o,cap,rfl,ag.out,HE.out,by omega,HD.out,zd.refl _ _,ax.out⟩
 case round =>
  obtain ⟨k,L,o2,y,rfl,Y,J,hN,ah,hk,ak⟩:=hrel;obtain ⟨G,ts3,rfl⟩:=J.cons;have cs:=Zt r g o2 y G ts3 [91] wr ah (fun hi=>(J.tail (zi hi)).ne)
  have W:=ah.left;have HK:Hid (zd r w wr):=hk;have aC:Hid (G.k=1→G.s.length≤1099511627776):=ak G (by simp)
  have ar:Hid (∀t∈ts3,NmT t):=fun t ht=>ak t (by simp [ht])
  clear HD ag HE ah hk ak ax
  unfold ZW at Y
  simp only [List.length_cons] at hN
  by_cases hi:zo G [91]=true
  ·rw [hi] at cs
   rw [if_pos hi] at Y;have ad:=J.tail (zi hi);have aF:IntKind.i64.wrap ((k:Int)+1)=(k:Int)+1:=by rw [IntKind.wrap_i64];omega
   go_wp2_with fail
   refine cs.mono ?_;clear cs;rintro e w3 ⟨rfl,N,h3⟩;have O:zf r g (o2+5) (y-1) ts3 w3:=by simpa using h3
   have au:Hid (zf r g (o2+5) (y-1) ts3 w3):=O;have T:Hid (zd r w w3):=HK.out.trans N;clear h3 O N;go_wp2
   refine ⟨⟨k+1,ts3,_,_,by go_num,Y,ad,by omega,au.out,T.out,ar.out⟩,?_⟩
   rw [au.out.left,W];simp
  ·have aD:zo G [91]=false:=by simpa using hi
   rw [aD] at cs;rw [if_neg hi] at Y;go_wp2_with fail
   refine cs.mono ?_;clear cs;rintro e w3 ⟨rfl,N,h3⟩;have O:zf r g o2 y (G::ts3) w3:=by simpa using h3
   have T:Hid (zd r w w3):=HK.out.trans N;have K:=xe r g o2 y G ts3 w3 O (fun hk=>(J.tail (by omega)).ne)
   clear h3 O N
   by_cases h1:G.k=1
   ·have aI:G.s.length≤1099511627776:=aC.out h1
    simp only [if_pos h1] at K;rw [if_pos h1] at Y;have ad:=J.tail (by omega:G.k≠0)
    go_wp2_with fail
    refine K.mono ?_;clear K;rintro e w4 ⟨aa,rfl,h4⟩;have ao:Hid (zd r w w4):=T.out.trans aa;have av:Hid (zf r g (o2+5) (y-1) ts3 w4):=h4;clear aa h4;go_wp2_with fail
    obtain ⟨C,hC⟩:∃C,C=Z0 k ts3:=⟨_,rfl⟩;rw [←hC] at Y;have HT:Hid (XA k G.s C=R):=Y;have HC:Hid (C=Z0 k ts3):=hC;have ay:Hid (zg ts3):=ad;have aq:k≤1099511627776:=by omega
    clear Y hC ad J hN W HK
    go_loopw [12] (fun v wq=>∃(i:Nat) (Z:List Tk) (o5 z:Nat),v=.int .i64 i∧i≤k∧C=Z0 (k-i) Z∧zg Z∧zf r g o5 z Z wq∧zd r w wq) (fun v _=>k-(intOf v).toNat)
    case atStart=>exact ⟨0,ts3,_,_,rfl,Nat.zero_le _,HC.out,ay.out,av.out,ao.out⟩
    case round =>
     obtain ⟨i,Z,o5,z,rfl,aO,A,V,H,am⟩:=hrel;obtain ⟨t5,D,rfl⟩:=V.cons;have U:=H;have an:Hid (zd r w _):=am;clear HC ay av ao T
     by_cases hlt:i<k
     ·have aw:(i:Int)<(k:Int):=by omega
      have K:=yB r g o5 z t5 D [93] _ H (fun hi=>(V.tail (zi hi)).ne)
      rw [show k-i=(k-i-1)+1 by omega] at A
      simp only [Z0,zz,List.tail_cons] at A;have aF:IntKind.i64.wrap ((i:Int)+1)=(i:Int)+1:=by rw [IntKind.wrap_i64];omega
      clear H U am
      by_cases hm:zo t5 [93]=true
      ·simp only [if_pos hm] at K
       rw [if_pos hm] at A;have aA:Hid (C=Z0 (k-i-1) D):=A;have az:Hid (zg D):=V.tail (zi hm);clear A V;go_wp2_with fail
       refine K.mono ?_;clear K;rintro e w6 ⟨I,rfl,h6⟩;have al:Hid (zd r w w6):=an.out.trans I;have Q:Hid (zf r g (o5+5) (z-1) D w6):=h6;clear I h6;go_wp2
       exact ⟨⟨i+1,D,_,_,by go_num,by omega,by rw [aA.out,show k-(i+1)=k-i-1 by omega],az.out,Q.out,al.out⟩,by simp [intOf];omega⟩
      ·simp only [if_neg hm] at K
       rw [if_neg hm] at A;have hR:=HT.out;rw [A] at hR;simp only [XA] at hR;subst hR;go_wp2_with fail
       refine K.mono ?_;clear K;rintro e w6 ⟨I,rfl⟩;exact ⟨rfl,an.out.trans I,rfl⟩
     ·have aw:¬(i:Int)<(k:Int):=by omega
      rw [show k-i=0 by omega] at A
      simp only [Z0] at A;have hR:=HT.out;rw [A] at hR;simp only [XA] at hR;subst hR;have ai:Hid (zf r g o5 z (t5::D) wr):=H;have c1:=af.out 91 k wr aq;have aH:(zb (List.replicate k 91)).size=k:=by rw [Zb,List.length_replicate]
      have aJ:(zb G.s).size=G.s.length:=Zb _;have aM:(zb (List.replicate k 93)).size=k:=by rw [Zb,List.length_replicate]
      have aK:(zb (List.replicate k 91)++zb G.s).size=k+G.s.length:=by rw [zdu,Zb,List.length_append,List.length_replicate]
      clear H U am A V HT;go_wp2_with fail
      refine c1.mono ?_;clear c1;rintro e w6 ⟨rfl,ab⟩;have I:zd r w w6:=an.out.trans (zd.of ab);have ap:zf r g o5 z (t5::D) w6:=ai.out.keep (ab.block _ ai.out.lt.1) (ab.block _ ai.out.lt.2);have c2:=af.out 93 k w6 aq;have al:Hid (zd r w w6):=I;have Q:Hid (zf r g o5 z (t5::D) w6):=ap;clear I ap ab;go_wp2_with fail
      refine c2.mono ?_;clear c2;rintro e w7 ⟨rfl,ae⟩;have aB:Hid (zd r w w7):=al.out.trans (zd.of ae);have aE:Hid (zf r g o5 z (t5::D) w7):=Q.out.keep (ae.block _ Q.out.lt.1) (ae.block _ Q.out.lt.2);clear ae;go_wp2
      refine bodyPost_ret (v:=.string (zb (List.replicate k 91)++zb G.s++zb (List.replicate k 93))) (by simp [results,Tryz.results99,go_sem]) rfl ⟨aB.out,_,_,?_,aE.out⟩
      rw [zdu,zdu]
   ·simp only [if_neg h1] at K
    rw [if_neg h1] at Y;subst Y;go_wp2_with fail
    refine K.mono ?_;clear K;rintro e w4 ⟨aa,rfl⟩;exact ⟨rfl,T.out.trans aa,rfl⟩
def yq (ts:List Tk):PR (List UInt8 × List UInt8) :=
 if (zw ts).k=1 then
  if zo (zw ts.tail) [58]=true then
   match ZW 0 ts.tail.tail with
   | .error a=>.error a
   | .ok (s,us)=>.ok (((zw ts).s,s),us)
  else .error (zw ts.tail).at0
 else .error (zw ts).at0
def QJ (r g:Nat) (w:World) (res:PR (List UInt8 × List UInt8)) (e:Ending) (w':World):Prop :=
 zd r w w'∧match res with
  | .error a=>e=ZH a
  | .ok (p,ts)=>∃o cap,e=.returned (.agg #[.string (zb p.1),.string (zb p.2)])∧zf r g o cap ts w'
abbrev prZ:Obj:=.cells #[.string ⟨#[]⟩,.string ⟨#[]⟩] 117
theorem Zv {w:World} {N:Nat} {x0 x1:Value} {ty:TypeId} (h:w.heap[N]?=some (.cells #[x0,x1] ty (0,0))) :
  w.cell? ⟨N,0,none⟩=some x0∧w.cell? ⟨N,1,none⟩=some x1∧∀j,w.frozen? ⟨N,j,none⟩=false:=by
 refine ⟨?_,?_,fun j=>?_⟩
 ·simp only [World.cell?,h];rfl
 ·simp only [World.cell?,h];rfl
 ·simp only [World.frozen?,h];simp
theorem zeC (r g o cap:Nat) (ts:List Tk) (w:World) (h:zf r g o cap ts w) (hE:zg ts)
  (hty:∀W G o1 cap1,(∃a b,ts=a::b::W)→zg W→zf r g o1 cap1 W G→Calls Tryz.prog 99 #[.pointer (some ⟨r,0,none⟩)] G (QI r g G (ZW 0 W))) :
  Calls Tryz.prog 97 #[.pointer (some ⟨r,0,none⟩)] w (QJ r g w (yq ts)):=by
 generalize hres:yq ts=R;obtain ⟨t,W,rfl⟩:=hE.cons;have hr:=h.lt.1;have ag:=h.lt.2;obtain ⟨w0,D⟩:∃w0,w0=w.alloc prZ:=⟨_,rfl⟩;have h0:zf r g o cap (t::W) w0:=by rw [D];exact h.alloc _
 have k0:zd r w w0:=by rw [D];exact (zd.refl r w).alloc _
 have b0:w0.heap[w.heap.size]?=some prZ:=by rw [D];exact World.alloc_heap_new _ _
 have ai:w0.heap.size=w.heap.size+1:=by rw [D];simp
 have Y:=xe r g o cap t W w0 h0 (fun hk=>(hE.tail (by omega)).ne)
 have U:Hid (w0=w.alloc prZ):=D
 unfold yq at hres
 simp only [zz,List.tail_cons] at hres;clear h h0 D
 by_cases hk:t.k=1
 ·simp only [if_pos hk] at Y
  rw [if_pos hk] at hres;have V:=hE.tail (by omega:t.k≠0)
  obtain ⟨t1,L,rfl⟩:=V.cons;simp only [zz,List.tail_cons] at hres
  go_enter Tryz.func97,Tryz.ntmps97
  go_wp2_with fail
  rw [←U.out];refine Y.mono ?_;clear Y U;rintro e G ⟨A,rfl,h1⟩;obtain ⟨w2,H⟩:∃w2,w2=G.alloc (.cells #[.string (zb t.s),.string ⟨#[]⟩] 117):=⟨_,rfl⟩;have h2:zf r g (o+5) (cap-1) (t1::L) w2:=by rw [H];exact h1.alloc _
  have al:=A.size;have b1:=(A.block _ (by omega) (by omega)).trans b0
  have b2:w2.heap[w.heap.size]?=some prZ:=by rw [H];exact (Below.heap_alloc _ _ _ (by omega)).trans b1
  have bP:w2.heap[G.heap.size]?=some (.cells #[.string (zb t.s),.string ⟨#[]⟩] 117 (0,0)):=by rw [H];exact World.alloc_heap_new _ _
  have hP:G.heap.size<w2.heap.size:=(Array.getElem?_eq_some_iff.1 bP).1;have K:Hid (zd r w w2):=show zd _ _ _ by rw [H];exact (k0.trans A).alloc _
  have Z:=yB r g (o+5) (cap-1) t1 L [58] w2 h2 (fun hi=>(V.tail (zi hi)).ne)
  have T:Hid (w2=G.alloc (.cells #[.string (zb t.s),.string ⟨#[]⟩] 117)):=H;have HB:Hid (w2.heap[w.heap.size]?=some prZ∧w2.heap[G.heap.size]?=some (.cells #[.string (zb t.s),.string ⟨#[]⟩] 117 (0,0))):=⟨b2,bP⟩;clear H h1 A b0 b1 b2 bP k0 h2
  by_cases hc:zo t1 [58]=true
  ·simp only [if_pos hc] at Z
   rw [if_pos hc] at hres;have ae:=V.tail (zi hc);go_wp2_with fail
   rw [←T.out];refine Z.mono ?_;clear Z T;rintro e w3 ⟨N,rfl,h3⟩;have ct:=hty L w3 _ _ ⟨t,t1,rfl⟩ ae h3;have ab:Hid (zd r w2 w3):=N;clear hty h3 N;go_wp2_with fail
   refine ct.mono ?_;clear ct;rintro e w4 ⟨ad,y⟩;have I:zd r w2 w4:=ab.out.trans ad;cases hT:ZW 0 L with
   | error a =>
    rw [hT] at y hres;simp only at y hres;obtain rfl:=y;subst hres;exact ⟨rfl,K.out.trans I,rfl⟩
   | ok p =>
    obtain ⟨s,vs⟩:=p;rw [hT] at y hres;obtain ⟨o4,Q,rfl,aa⟩:=y;simp only at hres;subst hres;have aj:=K.out.size;have ak:=I.size;have b4:=(I.block _ (by omega) (by omega)).trans HB.out.1
    have c4:=(I.block _ hP (by omega)).trans HB.out.2
    obtain ⟨-,g1,gf⟩:=Zv c4;have ah:=gf 1;obtain ⟨w5,J⟩:∃w5,w5=w4.setCell ⟨G.heap.size,1,none⟩ (.string (zb s)):=⟨_,rfl⟩;have z:∀k,k≠G.heap.size→w5.heap[k]?=w4.heap[k]?:=fun k hk=>by rw [J];exact Below.heap_setCell _ _ _ _ (by simpa using hk)
    have c5:w5.heap[G.heap.size]?=some (.cells #[.string (zb t.s),.string (zb s)] 117 (0,0)):=by rw [J];exact zn _ c4
    have b5:=(z w.heap.size (by omega)).trans b4
    obtain ⟨d0,d1,-⟩:=Zv c5;obtain ⟨q0,q1,qf⟩:=Zv b5;have k5:zd r w w5:=by rw [J];exact (K.out.trans I).setOther (by simp;omega) _
    have O:zf r g o4 Q vs w5:=aa.keep (z r (by omega)) (z g (by omega))
    have af:=J.symm;have b6:=zn (j:=1) (.string (zb s)) (zn (j:=0) (.string (zb t.s)) b5);obtain ⟨z0,z1,-⟩:=Zv (x0:=.string (zb t.s)) (x1:=.string (zb s)) b6
    have HP:Hid (QJ r g w (.ok ((t.s,s),vs)) (.returned (.agg #[.string (zb t.s),.string (zb s)])) ((w5.setCell ⟨w.heap.size,0,none⟩ (.string (zb t.s))).setCell ⟨w.heap.size,1,none⟩ (.string (zb s)))):=by
     refine ⟨(k5.setOther (p:=⟨w.heap.size,0,none⟩) (by simp) _).setOther (p:=⟨w.heap.size,1,none⟩) (by simp) _,o4,Q,rfl,O.keep ?_ ?_⟩
     ·rw [Below.heap_setCell _ _ _ _ (by simp;omega),Below.heap_setCell _ _ _ _ (by simp;omega)]
     ·rw [Below.heap_setCell _ _ _ _ (by simp;omega),Below.heap_setCell _ _ _ _ (by simp;omega)]
    clear J z b4 c4 c5 b5 b6 k5 O aa gf ad I HB K ab;go_wp2
    exact bodyPost_ret (v:=.agg #[.string (zb t.s),.string (zb s)]) (by simp [results,Tryz.results97,go_sem,z0,z1]) rfl HP.out
  ·simp only [if_neg hc] at Z
   rw [if_neg hc] at hres;subst hres;go_wp2_with fail
   rw [←T.out];refine Z.mono ?_;clear Z;rintro e w3 ⟨N,rfl⟩;exact ⟨rfl,K.out.trans N,rfl⟩
 ·simp only [if_neg hk] at Y
  rw [if_neg hk] at hres;subst hres
  go_enter Tryz.func97,Tryz.ntmps97
  go_wp2_with fail
  rw [←U.out];refine Y.mono ?_;clear Y;rintro e G ⟨A,rfl⟩;exact ⟨rfl,k0.trans A,rfl⟩
abbrev Pm:=List UInt8 × List UInt8
def PmE (_:Nat→Prop) (_:World) (x:Pm) (c:List Value):Prop:=c=[.string (zb x.1),.string (zb x.2)]
theorem yR:Z2 PmE:=⟨fun h _ _=>h,fun h _=>h,fun h=>h⟩
def zZ:Nat→List Pm→List Tk→Option (PR (List Pm))
 | 0,_,_=>none
 | f+1,pre,ts =>
  match yq ts with
  | .error a=>some (.error a)
  | .ok (p,us)=>if zo (zw us) [44]=true then zZ f (pre++[p]) us.tail else some (.ok (pre++[p],us))
theorem Yx:∀(ts:List Tk) (k:Nat) (s:List UInt8) (us:List Tk),ZW k ts=.ok (s,us)→zg ts→zg us∧us.length<ts.length
 | [],k,s,us,h,hE=>absurd hE (by simp [zg])
 | t::ts,k,s,us,h,hE=>by
  unfold ZW at h
  split at h
  ·rename_i z
   have:=Yx ts (k+1) s us h (hE.tail (zi z))
   exact ⟨this.1,by simp only [List.length_cons];omega⟩
  ·split at h
   ·rename_i G
    unfold XA at h
    split at h
    ·cases h
    ·rename_i D y
     cases h
     have o:=hE.tail (by omega:t.k≠0)
     refine ⟨QH y o,?_⟩
     have A:∀(n:Nat) (a b:List Tk),Z0 n a=.ok b→b.length≤a.length:=by
      intro n
      induction n with
      | zero=>intro a b h;cases h;exact Nat.le_refl _
      | succ n ih =>
       intro a b h
       unfold Z0 at h
       split at h
       ·have:=ih _ _ h;simp only [List.length_tail] at this;omega
       ·cases h
     have:=A _ _ _ y
     simp only [List.length_cons];omega
   ·cases h
theorem YI {ts us:List Tk} {p:Pm} (h:yq ts=.ok (p,us)) (hE:zg ts):zg us∧us.length<ts.length:=by
 obtain ⟨t,D,rfl⟩:=hE.cons
 unfold yq at h
 simp only [zz,List.tail_cons] at h
 split at h
 ·rename_i H
  have o:=hE.tail (by omega:t.k≠0)
  obtain ⟨I,A,rfl⟩:=o.cons;simp only [zz,List.tail_cons] at h
  split at h
  ·rename_i y
   split at h
   ·cases h
   ·rename_i s G z
    cases h
    have:=Yx _ _ _ _ z (o.tail (zi y))
    exact ⟨this.1,by simp only [List.length_cons];omega⟩
  ·cases h
 ·cases h
def uh (f:Nat) (l:List Pm) (ts:List Tk):Option (PR (List Pm)):=if zo (zw ts) [44]=true then zZ f l ts.tail else some (.ok (l,ts))
def QK (r g:Nat) (w:World) (res:PR (List Pm)) (e:Ending) (w':World):Prop :=
 zd r w w'∧match res with
  | .error a=>e=ZH a
  | .ok (l,ts)=>∃v g1 cap1 us o cap,e=.returned v∧Zf PmE 2 117 w.heap.size w' l v g1 cap1 us∧zf r g o cap ts w'
theorem zaO:(Tryz.prog.info? 117).map (fun i=>(i.zero,i.size,i.bytes))=some (some (.agg #[.string ⟨#[]⟩,.string ⟨#[]⟩]),2,32):=by kernel_rfl
theorem zdv (r g o cap F:Nat) (ts:List Tk) (w:World) (res:PR (List Pm)) (h:zf r g o cap ts w) (hE:zg ts) (hp:zZ (F+1) [] ts=some res)
  (hone:∀D o1 y z,zg z→zf r g o1 y z D→zd r w D→Calls Tryz.prog 97 #[.pointer (some ⟨r,0,none⟩)] D (QJ r g D (yq z))) :
  Calls Tryz.prog 96 #[.pointer (some ⟨r,0,none⟩),.func (.func 97) #[.pointer (some ⟨r,0,none⟩)] #[]] w (QK r g w res):=by
 obtain ⟨i0,aG,aK,aE,aF⟩:=info_parts zaO;obtain ⟨t0,aw,rfl⟩:=hE.cons;have hr:=h.lt.1;have aR:=h.lt.2;have hN:=h.few;have c1:=hone w o cap (t0::aw) hE h (zd.refl r w);rw [zZ] at hp;cases hb:yq (t0::aw) with
 | error a =>
  rw [hb] at hp c1;simp only [Option.some.injEq] at hp;subst hp
  go_enter Tryz.func96,Tryz.ntmps96
  go_wp2_with fail
  refine c1.mono ?_;clear c1;rintro e D ⟨R,s⟩;obtain rfl:=s;exact ⟨rfl,R,rfl⟩
 | ok q =>
  obtain ⟨x,us⟩:=q;rw [hb] at hp c1;simp only at hp
  go_enter Tryz.func96,Tryz.ntmps96
  go_wp2_with fail
  refine c1.mono ?_;clear c1;rintro e D ⟨R,s⟩;obtain ⟨o1,y,rfl,T⟩:=s;obtain ⟨an,ar⟩:=YI hb hE;have HP:Hid (uh F [x] us=some res):=hp;obtain ⟨t1,z,rfl⟩:=an.cons
  have ay:Hid (Zf PmE 2 117 w.heap.size (D.alloc (.cells #[.string (zb x.1),.string (zb x.2)] 117)) [x] (.slice (some ⟨D.heap.size,0,none⟩) 1 1) D.heap.size 1 [[.string (zb x.1),.string (zb x.2)]]) :=
   Zf.first yR (c:=[.string (zb x.1),.string (zb x.2)]) rfl rfl R.size
  have ax:Hid (zf r g o1 y (t1::z) (D.alloc (.cells #[.string (zb x.1),.string (zb x.2)] 117))):=T.alloc _;have aC:Hid (zd r w (D.alloc (.cells #[.string (zb x.1),.string (zb x.2)] 117))):=R.alloc _;have az:Hid (zg (t1::z)):=an;have hn:z.length+2≤1099511627776:=by simp only [List.length_cons] at ar hN;omega
  have av:Hid (∀D o1 y z,zg z→zf r g o1 y z D→zd r w D→Calls Tryz.prog 97 #[.pointer (some ⟨r,0,none⟩)] D (QJ r g D (yq z))):=hone;clear T R an hone hp hb hE hN h ar;go_wp2_with fail
  go_loopw [5] (fun v wr=>∃(L:List Pm) (g1 y:Nat) (us:List (List Value)) (o2 N:Nat) (Y:List Tk) (f2:Nat),uh f2 L Y=some res∧zg Y∧L.length+Y.length≤1099511627776∧Zf PmE 2 117 w.heap.size wr L v g1 y us∧zf r g o2 N Y wr∧zd r w wr) (fun _ wr=>ZQ r wr)
  case atStart=>exact ⟨[x],_,_,_,o1,y,t1::z,F,HP.out,az.out,by simp only [List.length_cons,List.length_nil];omega,ay.out,ax.out,aC.out⟩
  case round =>
   obtain ⟨L,g1,cp1,us,o2,N,Y,f2,H,V,ao,O,K,ak⟩:=hrel;clear HP ay ax aC az hn;obtain ⟨t2,ad,rfl⟩:=V.cons;have cs:=Zt r g o2 N t2 ad [44] wr K (fun hi=>(V.tail (zi hi)).ne)
   have aq:=K.left;have aa:Hid (Zf PmE 2 117 w.heap.size wr L _ g1 cp1 us):=O;have ap:Hid (zd r w wr):=ak;have au:=O.val;subst au
   unfold uh at H
   simp only [zz,List.tail_cons] at H
   by_cases hi:zo t2 [44]=true
   ·rw [hi] at cs
    rw [if_pos hi] at H;have aB:=V.tail (zi hi);clear O ak K V;go_wp2_with fail
    refine cs.mono ?_;clear cs;rintro e w3 ⟨rfl,A,h3⟩;simp only [if_true] at h3;have am:zd r w w3:=ap.out.trans A;have G:=aa.out.kept yR A.size fun k hB hlt=>A.block k hlt (by omega)
    cases f2 with
    | zero=>simp [zZ] at H
    | succ f3 =>
     rw [zZ] at H;have c3:=av.out w3 _ _ ad aB h3 am;have aP:=G.block;have I:Hid (Zf PmE 2 117 w.heap.size w3 L _ g1 cp1 us):=G;have ae:Hid (zd r w w3):=am;clear G am A h3 aa ap;cases hb3:yq ad with
     | error a =>
      rw [hb3] at H c3;simp only [Option.some.injEq] at H;subst H;go_wp2_with fail
      refine c3.mono ?_;clear c3;rintro e w4 ⟨Q,s⟩;obtain rfl:=s;exact ⟨rfl,ae.out.trans Q,rfl⟩
     | ok q =>
      obtain ⟨Z,af⟩:=q;rw [hb3] at H c3;simp only at H;go_wp2_with fail
      refine c3.mono ?_;clear c3;rintro e w4 ⟨Q,s⟩;have ah:Hid (zd r w w4):=ae.out.trans Q;obtain ⟨o4,U,rfl,T⟩:=s;have J:=I.out.kept yR Q.size fun k hB hlt=>Q.block k hlt (by omega)
      have ai:Hid (Zf PmE 2 117 w.heap.size w4 L _ g1 cp1 us):=J;have aI:Hid (zf r g o4 U af w4):=T;obtain ⟨aL,aS⟩:=YI hb3 aB;have aA:=(J.own.alloc (.cells #[.string (zb Z.1),.string (zb Z.2)] 117));have HT:Hid (uh f3 (L++[Z]) af=some res):=H;have aO:w.heap.size≤w4.heap.size:=ah.out.size;clear J T H Q
      go_wp2_with (at_builtin;refine wpList_append_own_at _ rfl _ _ 69 rfl w.heap.size 117 i0 _ 2 32 Tryz.underlying69 aG aK aE aF rfl (by decide) _ _ _ rfl aA ⟨w4.heap.size,0,none⟩ 1 1 [.string (zb Z.1),.string (zb Z.2)] rfl rfl (ZR _ _ _) (by simp [Value.oneCell']) (by unfold maxLen;simp only [List.length_cons] at ao;omega) (by simp only [List.length_cons] at ao;omega) (by simp;omega) ?_;intro v' w5 aj W _ aN)
      obtain ⟨g5,aD,al,aT⟩:=ai.out.snoc yR (x:=Z) (c:=[.string (zb Z.1),.string (zb Z.2)]) rfl rfl aj W aN
      have ab:(w4.alloc (.cells #[.string (zb Z.1),.string (zb Z.2)] 117)).grownBy w5 (some g1):=W;have aM:zd r w w5:=(ah.out.alloc _).grown ab fun k hk=>by have:=Option.some.inj hk;omega
      have aQ:w.heap.size≤w4.heap.size:=ah.out.size;have ag:zf r g o4 U af w5:=aI.out.keep ((ab.block r (by simp;omega) (fun e=>by have:=Option.some.inj e;omega)).trans (Below.heap_alloc _ _ _ (by omega))) ((ab.block g (by simp;omega) (fun e=>by have:=Option.some.inj e;omega)).trans (Below.heap_alloc _ _ _ (by omega)))
      refine ⟨⟨L++[Z],g5,aD,_,o4,U,af,f3,HT.out,aL,?_,al,ag,aM⟩,?_⟩
      ·simp only [List.length_append,List.length_cons,List.length_nil] at ao ⊢;omega
      ·rw [ag.left,aq];simp only [List.length_cons];omega
   ·have aJ:zo t2 [44]=false:=by simpa using hi
    rw [aJ] at cs;rw [if_neg hi] at H;clear O ak K V;go_wp2_with fail
    refine cs.mono ?_;clear cs;rintro e w3 ⟨rfl,A,h3⟩;have ae:Hid (zd r w w3):=ap.out.trans A;have I:Hid (Zf PmE 2 117 w.heap.size w3 L (.slice (some ⟨g1,0,none⟩) L.length cp1) g1 cp1 us):=aa.out.kept yR A.size fun k hB hlt=>A.block k hlt (by omega)
    have aH:Hid (zf r g o2 N (t2::ad) w3):=show zf _ _ _ _ _ _ by simpa using h3
    simp only [Option.some.injEq] at H;subst H;clear A h3;go_wp2
    refine bodyPost_ret (v:=.slice (some ⟨g1,0,none⟩) L.length cp1) (by simp [results,Tryz.results96,go_sem]) rfl ⟨ae.out,_,_,_,_,_,_,rfl,I.out,aH.out⟩
def ZU (B:Nat) (w:World) (l:List Pm) (v:Value):Prop :=
 (l=[]∧v=.slice none 0 0)∨∃g cap us,Zf PmE 2 117 B w l v g cap us
theorem ZU.kept {B:Nat} {w w':World} {l:List Pm} {v:Value} (h:ZU B w l v) (hs:w.heap.size≤w'.heap.size) (hb:∀k,B≤k→k<w.heap.size→w'.heap[k]?=w.heap[k]?):ZU B w' l v:=by
 rcases h with h | ⟨g,o,s,h⟩
 ·exact .inl h
 ·exact .inr ⟨g,o,s,h.kept yR hs hb⟩
theorem ZU.mono {B B':Nat} {w:World} {l:List Pm} {v:Value} (h:ZU B w l v) (hb:B'≤B):ZU B' w l v:=by
 rcases h with h | ⟨g,z,D,h⟩
 ·exact .inl h
 ·refine .inr ⟨g,z,D,h.val,h.ne,?_,h.len,h.wid,h.kids⟩
  refine ⟨h.own.1,?_⟩;rcases h.own.2 with y | ⟨A,o,s,y,H,G⟩
  ·exact .inl y
  ·exact .inr ⟨A,o,s,y,Nat.le_trans hb H,G⟩
def zbH (r g:Nat) (w:World) (res:PR (List Pm)) (e:Ending) (w':World):Prop :=
 zd r w w'∧match res with
  | .error a=>e=ZH a
  | .ok (l,ts)=>∃v o cap,e=.returned v∧ZU w.heap.size w' l v∧zf r g o cap ts w'
def Yd (t:Tk) (ts:List Tk) (res:PR (List Pm)):PR (List Pm) :=
 if zo t [40]=true then
  if zo (zw ts) [41]=true then .ok ([],ts.tail) else
  match res with
  | .error a=>.error a
  | .ok (l,us)=>if zo (zw us) [41]=true then .ok (l,us.tail) else .error (zw us).at0
 else .error t.at0
theorem XB (r g o cap:Nat) (f:Value) (t:Tk) (ts:List Tk) (w:World) (res:PR (List Pm)) (h:zf r g o cap (t::ts) w) (hE:zg (t::ts)) (hEnd:∀l us,res=.ok (l,us)→zg us)
  (hrow:zo t [40]=true→zo (zw ts) [41]=false→∀A o1 G,zf r g o1 G ts A→zd r w A→Calls Tryz.prog 96 #[.pointer (some ⟨r,0,none⟩),f] A (QK r g A res)) :
  Calls Tryz.prog 98 #[.pointer (some ⟨r,0,none⟩),f] w (zbH r g w (Yd t ts res)):=by
 have hr:=h.lt.1;have K:=yB r g o cap t ts [40] w h (fun hi=>(hE.tail (zi hi)).ne)
 clear h
 unfold Yd
 by_cases hi:zo t [40]=true
 ·simp only [if_pos hi] at K ⊢
  have Q:=hE.tail (zi hi);obtain ⟨t1,J,rfl⟩:=Q.cons;simp only [zz,List.tail_cons] at hrow ⊢
  by_cases hj:zo t1 [41]=true
  ·simp only [if_pos hj]
   clear hrow hEnd
   go_enter Tryz.func98,Tryz.ntmps98
   go_wp2_with fail
   refine K.mono ?_;clear K;rintro e A ⟨s,rfl,h1⟩;have R:=Zt r g _ _ t1 J [41] A h1 (fun hi=>(Q.tail (zi hi)).ne)
   have T:Hid (zd r w A):=s;rw [hj] at R;clear h1 s;go_wp2_with fail
   refine R.mono ?_;clear R;rintro e w2 ⟨rfl,D,h2⟩;have I:Hid (zd r w w2):=T.out.trans D;have af:zf r g (o+5+5) (cap-1-1) J w2:=by simpa using h2
   have ai:Hid (zf r g (o+5+5) (cap-1-1) J w2):=af;clear h2 af D;go_wp2
   refine bodyPost_ret (v:=.slice none 0 0) (by simp [results,Tryz.results98,go_sem]) rfl ⟨I.out,_,_,_,rfl,.inl ⟨rfl,rfl⟩,ai.out⟩
  ·have ab:zo t1 [41]=false:=by simpa using hj
   simp only [if_neg hj]
   go_enter Tryz.func98,Tryz.ntmps98
   go_wp2_with fail
   refine K.mono ?_;clear K;rintro e A ⟨s,rfl,h1⟩;have R:=Zt r g _ _ t1 J [41] A h1 (fun hi=>(Q.tail (zi hi)).ne)
   have T:Hid (zd r w A):=s;rw [ab] at R;clear h1 s;go_wp2_with fail
   refine R.mono ?_;clear R;rintro e w2 ⟨rfl,D,h2⟩;have O:zd r w w2:=T.out.trans D;have I:Hid (zd r w w2):=O;have cr:=hrow hi ab w2 _ _ (by simpa using h2) O
   clear h2 D O hrow;go_wp2_with fail
   refine cr.mono ?_;clear cr;rintro e w3 ⟨Y,H⟩;have U:Hid (zd r w w3):=I.out.trans Y;rcases res with a | ⟨l,us⟩
   ·obtain rfl:=H
    exact ⟨rfl,U.out,rfl⟩
   ·obtain ⟨v,g1,G,ah,o3,L,rfl,N,Z⟩:=H
    have ad:ZU w2.heap.size w3 l v:=.inr ⟨g1,G,ah,N⟩;clear N;have W:=hEnd l us rfl;obtain ⟨t3,ae,rfl⟩:=W.cons;have y:=yB r g o3 L t3 ae [41] w3 Z (fun hi=>(W.tail (zi hi)).ne)
    have al:w.heap.size≤w2.heap.size:=I.out.size;have am:r<w2.heap.size:=by omega
    have aa:Hid (ZU w2.heap.size w3 l v):=ad;clear Z ad Y hEnd
    by_cases hm:zo t3 [41]=true
    ·simp only [if_pos hm] at y
     go_wp2_with fail
     refine y.mono ?_;clear y;rintro e w4 ⟨z,rfl,h4⟩;have ag:Hid (zd r w w4):=U.out.trans z;have V:Hid (ZU w2.heap.size w4 l v):=ZU.kept aa.out z.size fun k hB hlt=>z.block k hlt (by omega)
     have ak:Hid (zf r g (o3+5) (L-1) ae w4):=h4;clear z h4;go_wp2
     refine bodyPost_ret (v:=v) (by simp [results,Tryz.results98,go_sem]) rfl ⟨ag.out,_,_,_,rfl,ZU.mono V.out al,ak.out⟩
    ·simp only [if_neg hm] at y
     have aj:zo t3 [41]=false:=by simpa using hm
     go_wp2_with fail
     refine y.mono ?_;clear y;rintro e w4 ⟨z,rfl⟩;refine ⟨rfl,U.out.trans z,?_⟩;simp only [zz,aj,Bool.false_eq_true,if_false]
 ·simp only [if_neg hi] at K ⊢
  clear hrow hEnd
  go_enter Tryz.func98,Tryz.ntmps98
  go_wp2_with fail
  refine K.mono ?_;clear K;rintro e A ⟨s,rfl⟩;exact ⟨rfl,s,rfl⟩
end Go.Proofs.YtpejpbbdgblbeaaGreatDoor
