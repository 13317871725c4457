import Derived.Test.YtpejpbbdgblbeaaGreatDoorMC16
import Derived.Test.YtpejpbbdgblbeaaGreatDoorMC14
import Derived.Test.YtpejpbbdgblbeaaGreatDoorMC15
namespace Go.Proofs.YtpejpbbdgblbeaaGreatDoor
open Go.RowKit Go.Shelf
set_option maxHeartbeats 16000000
set_option maxRecDepth 100000
theorem ze1 (a b:List UInt8):zb a++zb b=zb (a++b):=by
 apply ByteArray.ext
 rw [ByteArray.data_append]
 unfold zb
 simp
def ZS:Nat→List Tk→Except Nat (List Tk)
 | 0,ts=>.ok ts
 | n+1,ts=>if zm (zv ts) [93]=true then ZS n ts.tail else .error (zv ts).at0
def Xg (k:Nat) (s:List UInt8):Except Nat (List Tk)→PR (List UInt8)
 | .error a=>.error a
 | .ok vs=>.ok (List.replicate k 91++s++List.replicate k 93,vs)
def ZB (k:Nat):List Tk→PR (List UInt8)
 | []=>.error 0
 | t::ts=>if zm t [91]=true then ZB (k+1) ts else if t.k=1 then Xg k t.s (ZS k ts) else .error t.at0
theorem zaO {n:Nat}:∀{ts us:List Tk},ZS n ts=.ok us→zi ts→zi us:=by
 induction n with
 | zero=>intro ts us h o;cases h;exact o
 | succ n ih =>
  intro ts us h o
  unfold ZS at h
  split at h
  ·rename_i y;exact ih h (zD o y)
  ·cases h
def zaP (r g:Nat) (w:World) (res:PR (List UInt8)) (e:Ending) (w':World):Prop :=
 zd r w w'∧match res with
  | .error a=>e=ZI a
  | .ok (s,ts)=>∃o cap,e=.returned (.string (zb s))∧zg r g o cap ts w'
theorem zhL (r g o cap:Nat) (ts:List Tk) (w:World) (h:zg r g o cap ts w) (hE:zi ts) (hshort:∀t∈ts,NmT t)
  (hrep:∀(c:UInt8) (n:Nat) (w:World),n≤1099511627776→Calls Tryz.prog 135 #[.string ⟨#[c]⟩,.int .i64 n] w fun e w'=>e=.returned (.string (zb (List.replicate n c)))∧Below w.heap.size w w') :
  Calls Tryz.prog 99 #[.pointer (some ⟨r,0,none⟩)] w (zaP r g w (ZB 0 ts)):=by
 generalize hres:ZB 0 ts=R;obtain ⟨t0,aL,al⟩:=hE.cons;have hr:r<w.heap.size:=by rw [al] at h;exact h.lt.1
 have aN:g<w.heap.size:=by rw [al] at h;exact h.lt.2
 have aH:=h.few;have HD:Hid (zg r g o cap ts w):=h;have ah:Hid (ZB 0 ts=R):=hres;have HE:Hid (zi ts):=hE;have ar:Hid (∀t∈ts,NmT t):=hshort;have ag:Hid (∀(c:UInt8) (n:Nat) (w:World),n≤1099511627776→Calls Tryz.prog 135 #[.string ⟨#[c]⟩,.int .i64 n] w fun e w'=>e=.returned (.string (zb (List.replicate n c)))∧Below w.heap.size w w'):=hrep
 clear h hres hE al hrep hshort
 go_enter Tryz.func99,Tryz.ntmps99
 go_wp2_with fail
 go_loopw [3] (fun d wr=>∃(k:Nat) (J:List Tk) (o2 z:Nat),d=.int .i64 k∧ZB k J=R∧zi J∧k+J.length≤1099511627776∧zg r g o2 z J wr∧zd r w wr∧∀t∈J,NmT t) (fun _ wr=>ZP r wr)
 case atStart=>exact ⟨0,ts,o,cap,rfl,ah.out,HE.out,by omega,HD.out,zd.refl _ _,ar.out⟩
 case round =>
  obtain ⟨k,J,o2,z,rfl,Z,L,hN,ao,hk,ak⟩:=hrel;obtain ⟨H,ts3,rfl⟩:=L.cons;have cs:=Zx r g o2 z H ts3 [91] wr ao (fun hi=>(L.tail (zj hi)).ne)
  have Q:=ao.left;have HK:Hid (zd r w wr):=hk;have aA:Hid (H.k=1→H.s.length≤1099511627776):=ak H (by simp)
  have aq:Hid (∀t∈ts3,NmT t):=fun t ht=>ak t (by simp [ht])
  clear HD ah HE ao hk ak ar
  unfold ZB at Z
  simp only [List.length_cons] at hN
  by_cases hi:zm H [91]=true
  ·rw [hi] at cs
   rw [if_pos hi] at Z;have aa:=L.tail (zj hi);have aE:IntKind.i64.wrap ((k:Int)+1)=(k:Int)+1:=by rw [IntKind.wrap_i64];omega
   go_wp2_with fail
   refine cs.mono ?_;clear cs;rintro e w3 ⟨rfl,Y,h3⟩;have W:zg r g (o2+5) (z-1) ts3 w3:=by simpa using h3
   have ay:Hid (zg r g (o2+5) (z-1) ts3 w3):=W;have U:Hid (zd r w w3):=HK.out.trans Y;clear h3 W Y;go_wp2
   refine ⟨⟨k+1,ts3,_,_,by go_num,Z,aa,by omega,ay.out,U.out,aq.out⟩,?_⟩
   rw [ay.out.left,Q];simp
  ·have aG:zm H [91]=false:=by simpa using hi
   rw [aG] at cs;rw [if_neg hi] at Z;go_wp2_with fail
   refine cs.mono ?_;clear cs;rintro e w3 ⟨rfl,Y,h3⟩;have W:zg r g o2 z (H::ts3) w3:=by simpa using h3
   have U:Hid (zd r w w3):=HK.out.trans Y;have N:=xu r g o2 z H ts3 w3 W (fun hk=>(L.tail (by omega)).ne)
   clear h3 W Y
   by_cases h1:H.k=1
   ·have aP:H.s.length≤1099511627776:=aA.out h1
    simp only [if_pos h1] at N;rw [if_pos h1] at Z;have aa:=L.tail (by omega:H.k≠0)
    go_wp2_with fail
    refine N.mono ?_;clear N;rintro e w4 ⟨ae,rfl,h4⟩;have aw:Hid (zd r w w4):=U.out.trans ae;have av:Hid (zg r g (o2+5) (z-1) ts3 w4):=h4;clear ae h4;go_wp2_with fail
    obtain ⟨C,hC⟩:∃C,C=ZS k ts3:=⟨_,rfl⟩;rw [←hC] at Z;have HT:Hid (Xg k H.s C=R):=Z;have HC:Hid (C=ZS k ts3):=hC;have au:Hid (zi ts3):=aa;have az:k≤1099511627776:=by omega
    clear Z hC aa L hN Q HK
    go_loopw [12] (fun v wq=>∃(i:Nat) (af:List Tk) (o5 y:Nat),v=.int .i64 i∧i≤k∧C=ZS (k-i) af∧zi af∧zg r g o5 y af wq∧zd r w wq) (fun v _=>k-(intOf v).toNat)
    case atStart=>exact ⟨0,ts3,_,_,rfl,Nat.zero_le _,HC.out,au.out,av.out,aw.out⟩
    case round =>
     obtain ⟨i,af,o5,y,rfl,aM,A,T,G,an⟩:=hrel;obtain ⟨t5,D,rfl⟩:=T.cons;have V:=G;have ai:Hid (zd r w _):=an;clear HC au av aw U
     by_cases hlt:i<k
     ·have ax:(i:Int)<(k:Int):=by omega
      have N:=yJ r g o5 y t5 D [93] _ G (fun hi=>(T.tail (zj hi)).ne)
      rw [show k-i=(k-i-1)+1 by omega] at A
      simp only [ZS,zE,List.tail_cons] at A;have aE:IntKind.i64.wrap ((i:Int)+1)=(i:Int)+1:=by rw [IntKind.wrap_i64];omega
      clear G V an
      by_cases hm:zm t5 [93]=true
      ·simp only [if_pos hm] at N
       rw [if_pos hm] at A;have aC:Hid (C=ZS (k-i-1) D):=A;have aD:Hid (zi D):=T.tail (zj hm);clear A T;go_wp2_with fail
       refine N.mono ?_;clear N;rintro e w6 ⟨I,rfl,h6⟩;have am:Hid (zd r w w6):=ai.out.trans I;have O:Hid (zg r g (o5+5) (y-1) D w6):=h6;clear I h6;go_wp2
       exact ⟨⟨i+1,D,_,_,by go_num,by omega,by rw [aC.out,show k-(i+1)=k-i-1 by omega],aD.out,O.out,am.out⟩,by simp [intOf];omega⟩
      ·simp only [if_neg hm] at N
       rw [if_neg hm] at A;have hR:=HT.out;rw [A] at hR;simp only [Xg] at hR;subst hR;go_wp2_with fail
       refine N.mono ?_;clear N;rintro e w6 ⟨I,rfl⟩;exact ⟨rfl,ai.out.trans I,rfl⟩
     ·have ax:¬(i:Int)<(k:Int):=by omega
      rw [show k-i=0 by omega] at A
      simp only [ZS] at A;have hR:=HT.out;rw [A] at hR;simp only [Xg] at hR;subst hR;have aj:Hid (zg r g o5 y (t5::D) wr):=G;have c1:=ag.out 91 k wr az;have aO:(zb (List.replicate k 91)).size=k:=by rw [Zh,List.length_replicate]
      have aI:(zb H.s).size=H.s.length:=Zh _;have aK:(zb (List.replicate k 93)).size=k:=by rw [Zh,List.length_replicate]
      have aJ:(zb (List.replicate k 91)++zb H.s).size=k+H.s.length:=by rw [ze1,Zh,List.length_append,List.length_replicate]
      clear G V an A T HT;go_wp2_with fail
      refine c1.mono ?_;clear c1;rintro e w6 ⟨rfl,ab⟩;have I:zd r w w6:=ai.out.trans (zd.of ab);have ap:zg r g o5 y (t5::D) w6:=aj.out.keep (ab.block _ aj.out.lt.1) (ab.block _ aj.out.lt.2);have c2:=ag.out 93 k w6 az;have am:Hid (zd r w w6):=I;have O:Hid (zg r g o5 y (t5::D) w6):=ap;clear I ap ab;go_wp2_with fail
      refine c2.mono ?_;clear c2;rintro e w7 ⟨rfl,ad⟩;have aF:Hid (zd r w w7):=am.out.trans (zd.of ad);have aB:Hid (zg r g o5 y (t5::D) w7):=O.out.keep (ad.block _ O.out.lt.1) (ad.block _ O.out.lt.2);clear ad;go_wp2
      refine bodyPost_ret (v:=.string (zb (List.replicate k 91)++zb H.s++zb (List.replicate k 93))) (by simp [results,Tryz.results99,go_sem]) rfl ⟨aF.out,_,_,?_,aB.out⟩
      rw [ze1,ze1]
   ·simp only [if_neg h1] at N
    rw [if_neg h1] at Z;subst Z;go_wp2_with fail
    refine N.mono ?_;clear N;rintro e w4 ⟨ae,rfl⟩;exact ⟨rfl,U.out.trans ae,rfl⟩
def Z8 (ts:List Tk):PR (List UInt8 × List UInt8) :=
 if (zv ts).k=1 then
  if zm (zv ts.tail) [58]=true then
   match ZB 0 ts.tail.tail with
   | .error a=>.error a
   | .ok (s,us)=>.ok (((zv ts).s,s),us)
  else .error (zv ts.tail).at0
 else .error (zv ts).at0
def zaQ (r g:Nat) (w:World) (res:PR (List UInt8 × List UInt8)) (e:Ending) (w':World):Prop :=
 zd r w w'∧match res with
  | .error a=>e=ZI a
  | .ok (p,ts)=>∃o cap,e=.returned (.agg #[.string (zb p.1),.string (zb p.2)])∧zg r g o cap ts w'
abbrev prZ:Obj:=.cells #[.string ⟨#[]⟩,.string ⟨#[]⟩] 117
theorem ZA {w:World} {N:Nat} {x0 x1:Value} {ty:TypeId} (h:w.heap[N]?=some (.cells #[x0,x1] ty (0,0))) :
  w.cell? ⟨N,0,none⟩=some x0∧w.cell? ⟨N,1,none⟩=some x1∧∀j,w.frozen? ⟨N,j,none⟩=false:=by
 refine ⟨?_,?_,fun j=>?_⟩
 ·simp only [World.cell?,h];rfl
 ·simp only [World.cell?,h];rfl
 ·simp only [World.frozen?,h];simp
theorem zgt (r g o cap:Nat) (ts:List Tk) (w:World) (h:zg r g o cap ts w) (hE:zi ts)
  (hty:∀W G o1 cap1,(∃a b,ts=a::b::W)→zi W→zg r g o1 cap1 W G→Calls Tryz.prog 99 #[.pointer (some ⟨r,0,none⟩)] G (zaP r g G (ZB 0 W))) :
  Calls Tryz.prog 97 #[.pointer (some ⟨r,0,none⟩)] w (zaQ r g w (Z8 ts)):=by
 generalize hres:Z8 ts=R;obtain ⟨t,W,rfl⟩:=hE.cons;have hr:=h.lt.1;have ag:=h.lt.2;obtain ⟨w0,D⟩:∃w0,w0=w.alloc prZ:=⟨_,rfl⟩;have h0:zg r g o cap (t::W) w0:=by rw [D];exact h.alloc _
 have k0:zd r w w0:=by rw [D];exact (zd.refl r w).alloc _
 have b0:w0.heap[w.heap.size]?=some prZ:=by rw [D];exact World.alloc_heap_new _ _
 have ak:w0.heap.size=w.heap.size+1:=by rw [D];simp
 have cn:=xu r g o cap t W w0 h0 (fun hk=>(hE.tail (by omega)).ne)
 have V:Hid (w0=w.alloc prZ):=D
 unfold Z8 at hres
 simp only [zE,List.tail_cons] at hres;clear h h0 D
 by_cases hk:t.k=1
 ·simp only [if_pos hk] at cn
  rw [if_pos hk] at hres;have Y:=hE.tail (by omega:t.k≠0)
  obtain ⟨t1,N,rfl⟩:=Y.cons;simp only [zE,List.tail_cons] at hres
  go_enter Tryz.func97,Tryz.ntmps97
  go_wp2_with fail
  rw [←V.out];refine cn.mono ?_;clear cn V;rintro e G ⟨H,rfl,h1⟩;obtain ⟨w2,A⟩:∃w2,w2=G.alloc (.cells #[.string (zb t.s),.string ⟨#[]⟩] 117):=⟨_,rfl⟩;have h2:zg r g (o+5) (cap-1) (t1::N) w2:=by rw [A];exact h1.alloc _
  have al:=H.size;have b1:=(H.block _ (by omega) (by omega)).trans b0
  have b2:w2.heap[w.heap.size]?=some prZ:=by rw [A];exact (Below.heap_alloc _ _ _ (by omega)).trans b1
  have bP:w2.heap[G.heap.size]?=some (.cells #[.string (zb t.s),.string ⟨#[]⟩] 117 (0,0)):=by rw [A];exact World.alloc_heap_new _ _
  have hP:G.heap.size<w2.heap.size:=(Array.getElem?_eq_some_iff.1 bP).1;have L:Hid (zd r w w2):=show zd _ _ _ by rw [A];exact (k0.trans H).alloc _
  have Z:=yJ r g (o+5) (cap-1) t1 N [58] w2 h2 (fun hi=>(Y.tail (zj hi)).ne)
  have U:Hid (w2=G.alloc (.cells #[.string (zb t.s),.string ⟨#[]⟩] 117)):=A;have HB:Hid (w2.heap[w.heap.size]?=some prZ∧w2.heap[G.heap.size]?=some (.cells #[.string (zb t.s),.string ⟨#[]⟩] 117 (0,0))):=⟨b2,bP⟩;clear A h1 H b0 b1 b2 bP k0 h2
  by_cases hc:zm t1 [58]=true
  ·simp only [if_pos hc] at Z
   rw [if_pos hc] at hres;have ae:=Y.tail (zj hc);go_wp2_with fail
   rw [←U.out];refine Z.mono ?_;clear Z U;rintro e w3 ⟨O,rfl,h3⟩;have ct:=hty N w3 _ _ ⟨t,t1,rfl⟩ ae h3;have aa:Hid (zd r w2 w3):=O;clear hty h3 O;go_wp2_with fail
   refine ct.mono ?_;clear ct;rintro e w4 ⟨ab,y⟩;have I:zd r w2 w4:=aa.out.trans ab;cases hT:ZB 0 N with
   | error a =>
    rw [hT] at y hres;simp only at y hres;obtain rfl:=y;subst hres;exact ⟨rfl,L.out.trans I,rfl⟩
   | ok p =>
    obtain ⟨s,vs⟩:=p;rw [hT] at y hres;obtain ⟨o4,T,rfl,ad⟩:=y;simp only at hres;subst hres;have ah:=L.out.size;have ai:=I.size;have b4:=(I.block _ (by omega) (by omega)).trans HB.out.1
    have c4:=(I.block _ hP (by omega)).trans HB.out.2
    obtain ⟨-,g1,gf⟩:=ZA c4;have aj:=gf 1;obtain ⟨w5,J⟩:∃w5,w5=w4.setCell ⟨G.heap.size,1,none⟩ (.string (zb s)):=⟨_,rfl⟩;have z:∀k,k≠G.heap.size→w5.heap[k]?=w4.heap[k]?:=fun k hk=>by rw [J];exact Below.heap_setCell _ _ _ _ (by simpa using hk)
    have c5:w5.heap[G.heap.size]?=some (.cells #[.string (zb t.s),.string (zb s)] 117 (0,0)):=by rw [J];exact zq _ c4
    have b5:=(z w.heap.size (by omega)).trans b4
    obtain ⟨d0,d1,-⟩:=ZA c5;obtain ⟨q0,q1,qf⟩:=ZA b5;have k5:zd r w w5:=by rw [J];exact (L.out.trans I).setOther (by simp;omega) _
    have Q:zg r g o4 T vs w5:=ad.keep (z r (by omega)) (z g (by omega))
    have af:=J.symm;have b6:=zq (j:=1) (.string (zb s)) (zq (j:=0) (.string (zb t.s)) b5);obtain ⟨z0,z1,-⟩:=ZA (x0:=.string (zb t.s)) (x1:=.string (zb s)) b6
    have HP:Hid (zaQ r g w (.ok ((t.s,s),vs)) (.returned (.agg #[.string (zb t.s),.string (zb s)])) ((w5.setCell ⟨w.heap.size,0,none⟩ (.string (zb t.s))).setCell ⟨w.heap.size,1,none⟩ (.string (zb s)))):=by
     refine ⟨(k5.setOther (p:=⟨w.heap.size,0,none⟩) (by simp) _).setOther (p:=⟨w.heap.size,1,none⟩) (by simp) _,o4,T,rfl,Q.keep ?_ ?_⟩
     ·rw [Below.heap_setCell _ _ _ _ (by simp;omega),Below.heap_setCell _ _ _ _ (by simp;omega)]
     ·rw [Below.heap_setCell _ _ _ _ (by simp;omega),Below.heap_setCell _ _ _ _ (by simp;omega)]
    clear J z b4 c4 c5 b5 b6 k5 Q ad gf ab I HB L aa;go_wp2
    exact bodyPost_ret (v:=.agg #[.string (zb t.s),.string (zb s)]) (by simp [results,Tryz.results97,go_sem,z0,z1]) rfl HP.out
  ·simp only [if_neg hc] at Z
   rw [if_neg hc] at hres;subst hres;go_wp2_with fail
   rw [←U.out];refine Z.mono ?_;clear Z;rintro e w3 ⟨O,rfl⟩;exact ⟨rfl,L.out.trans O,rfl⟩
 ·simp only [if_neg hk] at cn
  rw [if_neg hk] at hres;subst hres
  go_enter Tryz.func97,Tryz.ntmps97
  go_wp2_with fail
  rw [←V.out];refine cn.mono ?_;clear cn;rintro e G ⟨H,rfl⟩;exact ⟨rfl,k0.trans H,rfl⟩
abbrev Pm:=List UInt8 × List UInt8
def PmE (_:Nat→Prop) (_:World) (x:Pm) (c:List Value):Prop:=c=[.string (zb x.1),.string (zb x.2)]
theorem y9:yd PmE:=⟨fun h _ _=>h,fun h _=>h,fun h=>h⟩
def zN:Nat→List Pm→List Tk→Option (PR (List Pm))
 | 0,_,_=>none
 | f+1,pre,ts =>
  match Z8 ts with
  | .error a=>some (.error a)
  | .ok (p,us)=>if zm (zv us) [44]=true then zN f (pre++[p]) us.tail else some (.ok (pre++[p],us))
theorem YI:∀(ts:List Tk) (k:Nat) (s:List UInt8) (us:List Tk),ZB k ts=.ok (s,us)→zi ts→zi us∧us.length<ts.length
 | [],k,s,us,h,hE=>absurd hE (by simp [zi])
 | t::ts,k,s,us,h,hE=>by
  unfold ZB at h
  split at h
  ·rename_i z
   have:=YI ts (k+1) s us h (hE.tail (zj z))
   exact ⟨this.1,by simp only [List.length_cons];omega⟩
  ·split at h
   ·rename_i D
    unfold Xg at h
    split at h
    ·cases h
    ·rename_i G y
     cases h
     have o:=hE.tail (by omega:t.k≠0)
     refine ⟨zaO y o,?_⟩
     have A:∀(n:Nat) (a b:List Tk),ZS n a=.ok b→b.length≤a.length:=by
      intro n
      induction n with
      | zero=>intro a b h;cases h;exact Nat.le_refl _
      | succ n ih =>
       intro a b h
       unfold ZS at h
       split at h
       ·have:=ih _ _ h;simp only [List.length_tail] at this;omega
       ·cases h
     have:=A _ _ _ y
     simp only [List.length_cons];omega
   ·cases h
theorem YV {ts us:List Tk} {p:Pm} (h:Z8 ts=.ok (p,us)) (hE:zi ts):zi us∧us.length<ts.length:=by
 obtain ⟨t,D,rfl⟩:=hE.cons
 unfold Z8 at h
 simp only [zE,List.tail_cons] at h
 split at h
 ·rename_i G
  have o:=hE.tail (by omega:t.k≠0)
  obtain ⟨H,y,rfl⟩:=o.cons;simp only [zE,List.tail_cons] at h
  split at h
  ·rename_i z
   split at h
   ·cases h
   ·rename_i s I A
    cases h
    have:=YI _ _ _ _ A (o.tail (zj z))
    exact ⟨this.1,by simp only [List.length_cons];omega⟩
  ·cases h
 ·cases h
def Ua (f:Nat) (l:List Pm) (ts:List Tk):Option (PR (List Pm)):=if zm (zv ts) [44]=true then zN f l ts.tail else some (.ok (l,ts))
def zaR (r g:Nat) (w:World) (res:PR (List Pm)) (e:Ending) (w':World):Prop :=
 zd r w w'∧match res with
  | .error a=>e=ZI a
  | .ok (l,ts)=>∃v g1 cap1 us o cap,e=.returned v∧Zj PmE 2 117 w.heap.size w' l v g1 cap1 us∧zg r g o cap ts w'
theorem zbX:(Tryz.prog.info? 117).map (fun i=>(i.zero,i.size,i.bytes))=some (some (.agg #[.string ⟨#[]⟩,.string ⟨#[]⟩]),2,32):=by kernel_rfl
theorem ze2 (r g o cap F:Nat) (ts:List Tk) (w:World) (res:PR (List Pm)) (h:zg r g o cap ts w) (hE:zi ts) (hp:zN (F+1) [] ts=some res)
  (hone:∀G o1 z A,zi A→zg r g o1 z A G→zd r w G→Calls Tryz.prog 97 #[.pointer (some ⟨r,0,none⟩)] G (zaQ r g G (Z8 A))) :
  Calls Tryz.prog 96 #[.pointer (some ⟨r,0,none⟩),.func (.func 97) #[.pointer (some ⟨r,0,none⟩)] #[]] w (zaR r g w res):=by
 obtain ⟨i0,aI,aK,aM,aG⟩:=info_parts zbX;obtain ⟨t0,aA,rfl⟩:=hE.cons;have hr:=h.lt.1;have aT:=h.lt.2;have hN:=h.few;have c1:=hone w o cap (t0::aA) hE h (zd.refl r w);rw [zN] at hp;cases hb:Z8 (t0::aA) with
 | error a =>
  rw [hb] at hp c1;simp only [Option.some.injEq] at hp;subst hp
  go_enter Tryz.func96,Tryz.ntmps96
  go_wp2_with fail
  refine c1.mono ?_;clear c1;rintro e G ⟨ab,y⟩;obtain rfl:=y;exact ⟨rfl,ab,rfl⟩
 | ok q =>
  obtain ⟨x,us⟩:=q;rw [hb] at hp c1;simp only at hp
  go_enter Tryz.func96,Tryz.ntmps96
  go_wp2_with fail
  refine c1.mono ?_;clear c1;rintro e G ⟨ab,y⟩;obtain ⟨o1,z,rfl,ae⟩:=y;obtain ⟨am,ax⟩:=YV hb hE;have HP:Hid (Ua F [x] us=some res):=hp;obtain ⟨t1,A,rfl⟩:=am.cons
  have aB:Hid (Zj PmE 2 117 w.heap.size (G.alloc (.cells #[.string (zb x.1),.string (zb x.2)] 117)) [x] (.slice (some ⟨G.heap.size,0,none⟩) 1 1) G.heap.size 1 [[.string (zb x.1),.string (zb x.2)]]) :=
   Zj.first y9 (c:=[.string (zb x.1),.string (zb x.2)]) rfl rfl ab.size
  have aE:Hid (zg r g o1 z (t1::A) (G.alloc (.cells #[.string (zb x.1),.string (zb x.2)] 117))):=ae.alloc _;have aF:Hid (zd r w (G.alloc (.cells #[.string (zb x.1),.string (zb x.2)] 117))):=ab.alloc _;have aw:Hid (zi (t1::A)):=am;have hn:A.length+2≤1099511627776:=by simp only [List.length_cons] at ax hN;omega
  have aD:Hid (∀G o1 z A,zi A→zg r g o1 z A G→zd r w G→Calls Tryz.prog 97 #[.pointer (some ⟨r,0,none⟩)] G (zaQ r g G (Z8 A))):=hone;clear ae ab am hone hp hb hE hN h ax;go_wp2_with fail
  go_loopw [5] (fun v wr=>∃(L:List Pm) (g1 z:Nat) (us:List (List Value)) (o2 Q:Nat) (W:List Tk) (f2:Nat),Ua f2 L W=some res∧zi W∧L.length+W.length≤1099511627776∧Zj PmE 2 117 w.heap.size wr L v g1 z us∧zg r g o2 Q W wr∧zd r w wr) (fun _ wr=>ZP r wr)
  case atStart=>exact ⟨[x],_,_,_,o1,z,t1::A,F,HP.out,aw.out,by simp only [List.length_cons,List.length_nil];omega,aB.out,aE.out,aF.out⟩
  case round =>
   obtain ⟨L,g1,cp1,us,o2,Q,W,f2,N,Y,aq,O,R,au⟩:=hrel;clear HP aB aE aF aw hn;obtain ⟨t2,ah,rfl⟩:=Y.cons;have cs:=Zx r g o2 Q t2 ah [44] wr R (fun hi=>(Y.tail (zj hi)).ne)
   have ap:=R.left;have U:Hid (Zj PmE 2 117 w.heap.size wr L _ g1 cp1 us):=O;have ar:Hid (zd r w wr):=au;have aC:=O.val;subst aC
   unfold Ua at N
   simp only [zE,List.tail_cons] at N
   by_cases hi:zm t2 [44]=true
   ·rw [hi] at cs
    rw [if_pos hi] at N;have av:=Y.tail (zj hi);clear O au R Y;go_wp2_with fail
    refine cs.mono ?_;clear cs;rintro e w3 ⟨rfl,D,h3⟩;simp only [if_true] at h3;have al:zd r w w3:=ar.out.trans D;have I:=U.out.kept y9 D.size fun k hB hlt=>D.block k hlt (by omega)
    cases f2 with
    | zero=>simp [zN] at N
    | succ f3 =>
     rw [zN] at N;have c3:=aD.out w3 _ _ ah av h3 al;have aU:=I.block;have J:Hid (Zj PmE 2 117 w.heap.size w3 L _ g1 cp1 us):=I;have af:Hid (zd r w w3):=al;clear I al D h3 U ar;cases hb3:Z8 ah with
     | error a =>
      rw [hb3] at N c3;simp only [Option.some.injEq] at N;subst N;go_wp2_with fail
      refine c3.mono ?_;clear c3;rintro e w4 ⟨T,y⟩;obtain rfl:=y;exact ⟨rfl,af.out.trans T,rfl⟩
     | ok q =>
      obtain ⟨Z,ag⟩:=q;rw [hb3] at N c3;simp only at N;go_wp2_with fail
      refine c3.mono ?_;clear c3;rintro e w4 ⟨T,y⟩;have an:Hid (zd r w w4):=af.out.trans T;obtain ⟨o4,V,rfl,ae⟩:=y;have H:=J.out.kept y9 T.size fun k hB hlt=>T.block k hlt (by omega)
      have ao:Hid (Zj PmE 2 117 w.heap.size w4 L _ g1 cp1 us):=H;have aN:Hid (zg r g o4 V ag w4):=ae;obtain ⟨aL,aR⟩:=YV hb3 av;have ay:=(H.own.alloc (.cells #[.string (zb Z.1),.string (zb Z.2)] 117));have HT:Hid (Ua f3 (L++[Z]) ag=some res):=N;have aQ:w.heap.size≤w4.heap.size:=an.out.size;clear H ae N T
      go_wp2_with (at_builtin;refine wpList_append_own_at _ rfl _ _ 69 rfl w.heap.size 117 i0 _ 2 32 Tryz.underlying69 aI aK aM aG rfl (by decide) _ _ _ rfl ay ⟨w4.heap.size,0,none⟩ 1 1 [.string (zb Z.1),.string (zb Z.2)] rfl rfl (ZQ _ _ _) (by simp [Value.oneCell']) (by unfold maxLen;simp only [List.length_cons] at aq;omega) (by simp only [List.length_cons] at aq;omega) (by simp;omega) ?_;intro v' w5 aj aa _ aH)
      obtain ⟨g5,az,ak,aV⟩:=ao.out.snoc y9 (x:=Z) (c:=[.string (zb Z.1),.string (zb Z.2)]) rfl rfl aj aa aH
      have ad:(w4.alloc (.cells #[.string (zb Z.1),.string (zb Z.2)] 117)).grownBy w5 (some g1):=aa;have aP:zd r w w5:=(an.out.alloc _).grown ad fun k hk=>by have:=Option.some.inj hk;omega
      have aS:w.heap.size≤w4.heap.size:=an.out.size;have ai:zg r g o4 V ag w5:=aN.out.keep ((ad.block r (by simp;omega) (fun e=>by have:=Option.some.inj e;omega)).trans (Below.heap_alloc _ _ _ (by omega))) ((ad.block g (by simp;omega) (fun e=>by have:=Option.some.inj e;omega)).trans (Below.heap_alloc _ _ _ (by omega)))
      refine ⟨⟨L++[Z],g5,az,_,o4,V,ag,f3,HT.out,aL,?_,ak,ai,aP⟩,?_⟩
      ·simp only [List.length_append,List.length_cons,List.length_nil] at aq ⊢;omega
      ·rw [ai.left,ap];simp only [List.length_cons];omega
   ·have aO:zm t2 [44]=false:=by simpa using hi
    rw [aO] at cs;rw [if_neg hi] at N;clear O au R Y;go_wp2_with fail
    refine cs.mono ?_;clear cs;rintro e w3 ⟨rfl,D,h3⟩;have af:Hid (zd r w w3):=ar.out.trans D;have J:Hid (Zj PmE 2 117 w.heap.size w3 L (.slice (some ⟨g1,0,none⟩) L.length cp1) g1 cp1 us):=U.out.kept y9 D.size fun k hB hlt=>D.block k hlt (by omega)
    have aJ:Hid (zg r g o2 Q (t2::ah) w3):=show zg _ _ _ _ _ _ by simpa using h3
    simp only [Option.some.injEq] at N;subst N;clear D h3;go_wp2
    refine bodyPost_ret (v:=.slice (some ⟨g1,0,none⟩) L.length cp1) (by simp [results,Tryz.results96,go_sem]) rfl ⟨af.out,_,_,_,_,_,_,rfl,J.out,aJ.out⟩
def ZV (B:Nat) (w:World) (l:List Pm) (v:Value):Prop :=
 (l=[]∧v=.slice none 0 0)∨∃g cap us,Zj PmE 2 117 B w l v g cap us
theorem ZV.kept {B:Nat} {w w':World} {l:List Pm} {v:Value} (h:ZV B w l v) (hs:w.heap.size≤w'.heap.size) (hb:∀k,B≤k→k<w.heap.size→w'.heap[k]?=w.heap[k]?):ZV B w' l v:=by
 rcases h with h | ⟨g,o,y,h⟩
 ·exact .inl h
 ·exact .inr ⟨g,o,y,h.kept y9 hs hb⟩
theorem ZV.mono {B B':Nat} {w:World} {l:List Pm} {v:Value} (h:ZV B w l v) (hb:B'≤B):ZV B' w l v:=by
 rcases h with h | ⟨g,y,I,h⟩
 ·exact .inl h
 ·refine .inr ⟨g,y,I,h.val,h.ne,?_,h.len,h.wid,h.kids⟩
  refine ⟨h.own.1,?_⟩;rcases h.own.2 with z | ⟨H,o,A,z,D,G⟩
  ·exact .inl z
  ·exact .inr ⟨H,o,A,z,Nat.le_trans hb D,G⟩
def zcY (r g:Nat) (w:World) (res:PR (List Pm)) (e:Ending) (w':World):Prop :=
 zd r w w'∧match res with
  | .error a=>e=ZI a
  | .ok (l,ts)=>∃v o cap,e=.returned v∧ZV w.heap.size w' l v∧zg r g o cap ts w'
def Yo (t:Tk) (ts:List Tk) (res:PR (List Pm)):PR (List Pm) :=
 if zm t [40]=true then
  if zm (zv ts) [41]=true then .ok ([],ts.tail) else
  match res with
  | .error a=>.error a
  | .ok (l,us)=>if zm (zv us) [41]=true then .ok (l,us.tail) else .error (zv us).at0
 else .error t.at0
theorem XZ (r g o cap:Nat) (f:Value) (t:Tk) (ts:List Tk) (w:World) (res:PR (List Pm)) (h:zg r g o cap (t::ts) w) (hE:zi (t::ts)) (hEnd:∀l us,res=.ok (l,us)→zi us)
  (hrow:zm t [40]=true→zm (zv ts) [41]=false→∀G o1 H,zg r g o1 H ts G→zd r w G→Calls Tryz.prog 96 #[.pointer (some ⟨r,0,none⟩),f] G (zaR r g G res)) :
  Calls Tryz.prog 98 #[.pointer (some ⟨r,0,none⟩),f] w (zcY r g w (Yo t ts res)):=by
 have hr:=h.lt.1;have N:=yJ r g o cap t ts [40] w h (fun hi=>(hE.tail (zj hi)).ne)
 clear h
 unfold Yo
 by_cases hi:zm t [40]=true
 ·simp only [if_pos hi] at N ⊢
  have Y:=hE.tail (zj hi);obtain ⟨t1,J,rfl⟩:=Y.cons;simp only [zE,List.tail_cons] at hrow ⊢
  by_cases hj:zm t1 [41]=true
  ·simp only [if_pos hj]
   clear hrow hEnd
   go_enter Tryz.func98,Tryz.ntmps98
   go_wp2_with fail
   refine N.mono ?_;clear N;rintro e G ⟨y,rfl,h1⟩;have R:=Zx r g _ _ t1 J [41] G h1 (fun hi=>(Y.tail (zj hi)).ne)
   have V:Hid (zd r w G):=y;rw [hj] at R;clear h1 y;go_wp2_with fail
   refine R.mono ?_;clear R;rintro e w2 ⟨rfl,I,h2⟩;have L:Hid (zd r w w2):=V.out.trans I;have ae:zg r g (o+5+5) (cap-1-1) J w2:=by simpa using h2
   have ak:Hid (zg r g (o+5+5) (cap-1-1) J w2):=ae;clear h2 ae I;go_wp2
   refine bodyPost_ret (v:=.slice none 0 0) (by simp [results,Tryz.results98,go_sem]) rfl ⟨L.out,_,_,_,rfl,.inl ⟨rfl,rfl⟩,ak.out⟩
  ·have aa:zm t1 [41]=false:=by simpa using hj
   simp only [if_neg hj]
   go_enter Tryz.func98,Tryz.ntmps98
   go_wp2_with fail
   refine N.mono ?_;clear N;rintro e G ⟨y,rfl,h1⟩;have R:=Zx r g _ _ t1 J [41] G h1 (fun hi=>(Y.tail (zj hi)).ne)
   have V:Hid (zd r w G):=y;rw [aa] at R;clear h1 y;go_wp2_with fail
   refine R.mono ?_;clear R;rintro e w2 ⟨rfl,I,h2⟩;have T:zd r w w2:=V.out.trans I;have L:Hid (zd r w w2):=T;have cr:=hrow hi aa w2 _ _ (by simpa using h2) T
   clear h2 I T hrow;go_wp2_with fail
   refine cr.mono ?_;clear cr;rintro e w3 ⟨ah,D⟩;have U:Hid (zd r w w3):=L.out.trans ah;rcases res with a | ⟨l,us⟩
   ·obtain rfl:=D
    exact ⟨rfl,U.out,rfl⟩
   ·obtain ⟨v,g1,H,aj,o3,Q,rfl,O,ag⟩:=D
    have ad:ZV w2.heap.size w3 l v:=.inr ⟨g1,H,aj,O⟩;clear O;have Z:=hEnd l us rfl;obtain ⟨t3,ab,rfl⟩:=Z.cons;have z:=yJ r g o3 Q t3 ab [41] w3 ag (fun hi=>(Z.tail (zj hi)).ne)
    have ai:w.heap.size≤w2.heap.size:=L.out.size;have ao:r<w2.heap.size:=by omega
    have af:Hid (ZV w2.heap.size w3 l v):=ad;clear ag ad ah hEnd
    by_cases hm:zm t3 [41]=true
    ·simp only [if_pos hm] at z
     go_wp2_with fail
     refine z.mono ?_;clear z;rintro e w4 ⟨A,rfl,h4⟩;have an:Hid (zd r w w4):=U.out.trans A;have W:Hid (ZV w2.heap.size w4 l v):=ZV.kept af.out A.size fun k hB hlt=>A.block k hlt (by omega)
     have am:Hid (zg r g (o3+5) (Q-1) ab w4):=h4;clear A h4;go_wp2
     refine bodyPost_ret (v:=v) (by simp [results,Tryz.results98,go_sem]) rfl ⟨an.out,_,_,_,rfl,ZV.mono W.out ai,am.out⟩
    ·simp only [if_neg hm] at z
     have al:zm t3 [41]=false:=by simpa using hm
     go_wp2_with fail
     refine z.mono ?_;clear z;rintro e w4 ⟨A,rfl⟩;refine ⟨rfl,U.out.trans A,?_⟩;simp only [zE,al,Bool.false_eq_true,if_false]
 ·simp only [if_neg hi] at N ⊢
  clear hrow hEnd
  go_enter Tryz.func98,Tryz.ntmps98
  go_wp2_with fail
  refine N.mono ?_;clear N;rintro e G ⟨y,rfl⟩;exact ⟨rfl,y,rfl⟩
end Go.Proofs.YtpejpbbdgblbeaaGreatDoor
