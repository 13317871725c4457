import Derived.Test.YtpejpbbdgblbeaaGreatDoorMC16
import Derived.Test.YtpejpbbdgblbeaaGreatDoorMC14
import Derived.Test.YtpejpbbdgblbeaaGreatDoorMC15
namespace Go.Proofs.YtpejpbbdgblbeaaGreatDoor
open Go.RowKit Go.Shelf
set_option maxHeartbeats 16000000
set_option maxRecDepth 100000
theorem ze1 (a b:List UInt8):zb a++zb b=zb (a++b):=by
 apply ByteArray.ext
 rw [ByteArray.data_append]
 unfold zb
 simp
def ZS:Nat→List Tk→Except Nat (List Tk)
 | 0,ts=>.ok ts
 | n+1,ts=>if zm (zv ts) [93]=true then ZS n ts.tail else .error (zv ts).at0
def Xg (k:Nat) (s:List UInt8):Except Nat (List Tk)→PR (List UInt8)
 | .error a=>.error a
 | .ok vs=>.ok (List.replicate k 91++s++List.replicate k 93,vs)
def ZB (k:Nat):List Tk→PR (List UInt8)
 | []=>.error 0
 | t::ts=>if zm t [91]=true then ZB (k+1) ts else if t.k=1 then Xg k t.s (ZS k ts) else .error t.at0
theorem zaQ {n:Nat}:∀{ts us:List Tk},ZS n ts=.ok us→zi ts→zi us:=by
 induction n with
 | zero=>intro ts us h o;cases h;exact o
 | succ n ih =>
  intro ts us h o
  unfold ZS at h
  split at h
  ·rename_i y;exact ih h (zD o y)
  ·cases h
def zaR (r g:Nat) (w:World) (res:PR (List UInt8)) (e:Ending) (w':World):Prop :=
 zd r w w'∧match res with
  | .error a=>e=ZI a
  | .ok (s,ts)=>∃o cap,e=.returned (.string (zb s))∧zg r g o cap ts w'
theorem zhL (r g o cap:Nat) (ts:List Tk) (w:World) (h:zg r g o cap ts w) (hE:zi ts) (hshort:∀t∈ts,NmT t)
  (hrep:∀(c:UInt8) (n:Nat) (w:World),n≤1099511627776→Calls Tryz.prog 135 #[.string ⟨#[c]⟩,.int .i64 n] w fun e w'=>e=.returned (.string (zb (List.replicate n c)))∧Below w.heap.size w w') :
  Calls Tryz.prog 99 #[.pointer (some ⟨r,0,none⟩)] w (zaR r g w (ZB 0 ts)):=by
 generalize hres:ZB 0 ts=R;obtain ⟨t0,aJ,ai⟩:=hE.cons;have hr:r<w.heap.size:=by rw [ai] at h;exact h.lt.1
 have aO:g<w.heap.size:=by rw [ai] at h;exact h.lt.2
 have aH:=h.few;have HD:Hid (zg r g o cap ts w):=h;have ah:Hid (ZB 0 ts=R):=hres;have HE:Hid (zi ts):=hE;have ax:Hid (∀t∈ts,NmT t):=hshort;have ag:Hid (∀(c:UInt8) (n:Nat) (w:World),n≤1099511627776→Calls Tryz.prog 135 #[.string ⟨#[c]⟩,.int .i64 n] w fun e w'=>e=.returned (.string (zb (List.replicate n c)))∧Below w.heap.size w w'):=hrep
 clear h hres hE ai hrep hshort
 go_enter Tryz.func99,Tryz.ntmps99
 go_wp2_with fail
 go_loopw [3] (fun d wr=>∃(k:Nat) (J:List Tk) (o2 z:Nat),d=.int .i64 k∧ZB k J=R∧zi J∧k+J.length≤1099511627776∧zg r g o2 z J wr∧zd r w wr∧∀t∈J,NmT t) (fun _ wr=>ZP r wr)
 case atStart=>exact ⟨0,ts,o,cap,rfl,ah.out,HE.out,by omega,HD.out,zd.refl _ _,ax.out⟩
 case round =>
  obtain ⟨k,J,o2,z,rfl,Z,L,hN,aj,hk,al⟩:=hrel;obtain ⟨G,ts3,rfl⟩:=L.cons;have cs:=Zx r g o2 z G ts3 [91] wr aj (fun hi=>(L.tail (zj hi)).ne)
  have Y:=aj.left;have HK:Hid (zd r w wr):=hk;have aC:Hid (G.k=1→G.s.length≤1099511627776):=al G (by simp)
  have ay:Hid (∀t∈ts3,NmT t):=fun t ht=>al t (by simp [ht])
  clear HD ah HE aj hk al ax
  unfold ZB at Z
  simp only [List.length_cons] at hN
  by_cases hi:zm G [91]=true
  ·rw [hi] at cs
   rw [if_pos hi] at Z;have ab:=L.tail (zj hi);have aD:IntKind.i64.wrap ((k:Int)+1)=(k:Int)+1:=by rw [IntKind.wrap_i64];omega
   go_wp2_with fail
   refine cs.mono ?_;clear cs;rintro e w3 ⟨rfl,Q,h3⟩;have V:zg r g (o2+5) (z-1) ts3 w3:=by simpa using h3
   have ap:Hid (zg r g (o2+5) (z-1) ts3 w3):=V;have O:Hid (zd r w w3):=HK.out.trans Q;clear h3 V Q;go_wp2
   refine ⟨⟨k+1,ts3,_,_,by go_num,Z,ab,by omega,ap.out,O.out,ay.out⟩,?_⟩
   rw [ap.out.left,Y];simp
  ·have aF:zm G [91]=false:=by simpa using hi
   rw [aF] at cs;rw [if_neg hi] at Z;go_wp2_with fail
   refine cs.mono ?_;clear cs;rintro e w3 ⟨rfl,Q,h3⟩;have V:zg r g o2 z (G::ts3) w3:=by simpa using h3
   have O:Hid (zd r w w3):=HK.out.trans Q;have N:=xu r g o2 z G ts3 w3 V (fun hk=>(L.tail (by omega)).ne)
   clear h3 V Q
   by_cases h1:G.k=1
   ·have aP:G.s.length≤1099511627776:=aC.out h1
    simp only [if_pos h1] at N;rw [if_pos h1] at Z;have ab:=L.tail (by omega:G.k≠0)
    go_wp2_with fail
    refine N.mono ?_;clear N;rintro e w4 ⟨aa,rfl,h4⟩;have av:Hid (zd r w w4):=O.out.trans aa;have aw:Hid (zg r g (o2+5) (z-1) ts3 w4):=h4;clear aa h4;go_wp2_with fail
    obtain ⟨C,hC⟩:∃C,C=ZS k ts3:=⟨_,rfl⟩;rw [←hC] at Z;have HT:Hid (Xg k G.s C=R):=Z;have HC:Hid (C=ZS k ts3):=hC;have az:Hid (zi ts3):=ab;have au:k≤1099511627776:=by omega
    clear Z hC ab L hN Y HK
    go_loopw [12] (fun v wq=>∃(i:Nat) (ae:List Tk) (o5 y:Nat),v=.int .i64 i∧i≤k∧C=ZS (k-i) ae∧zi ae∧zg r g o5 y ae wq∧zd r w wq) (fun v _=>k-(intOf v).toNat)
    case atStart=>exact ⟨0,ts3,_,_,rfl,Nat.zero_le _,HC.out,az.out,aw.out,av.out⟩
    case round =>
     obtain ⟨i,ae,o5,y,rfl,aN,A,T,H,ak⟩:=hrel;obtain ⟨t5,D,rfl⟩:=T.cons;have U:=H;have ao:Hid (zd r w _):=ak;clear HC az aw av O
     by_cases hlt:i<k
     ·have aq:(i:Int)<(k:Int):=by omega
      have N:=yJ r g o5 y t5 D [93] _ H (fun hi=>(T.tail (zj hi)).ne)
      rw [show k-i=(k-i-1)+1 by omega] at A
      simp only [ZS,zE,List.tail_cons] at A;have aD:IntKind.i64.wrap ((i:Int)+1)=(i:Int)+1:=by rw [IntKind.wrap_i64];omega
      clear H U ak
      by_cases hm:zm t5 [93]=true
      ·simp only [if_pos hm] at N
       rw [if_pos hm] at A;have aG:Hid (C=ZS (k-i-1) D):=A;have aB:Hid (zi D):=T.tail (zj hm);clear A T;go_wp2_with fail
       refine N.mono ?_;clear N;rintro e w6 ⟨I,rfl,h6⟩;have am:Hid (zd r w w6):=ao.out.trans I;have W:Hid (zg r g (o5+5) (y-1) D w6):=h6;clear I h6;go_wp2
       exact ⟨⟨i+1,D,_,_,by go_num,by omega,by rw [aG.out,show k-(i+1)=k-i-1 by omega],aB.out,W.out,am.out⟩,by simp [intOf];omega⟩
      ·simp only [if_neg hm] at N
       rw [if_neg hm] at A;have hR:=HT.out;rw [A] at hR;simp only [Xg] at hR;subst hR;go_wp2_with fail
       refine N.mono ?_;clear N;rintro e w6 ⟨I,rfl⟩;exact ⟨rfl,ao.out.trans I,rfl⟩
     ·have aq:¬(i:Int)<(k:Int):=by omega
      rw [show k-i=0 by omega] at A
      simp only [ZS] at A;have hR:=HT.out;rw [A] at hR;simp only [Xg] at hR;subst hR;have an:Hid (zg r g o5 y (t5::D) wr):=H;have c1:=ag.out 91 k wr au;have aK:(zb (List.replicate k 91)).size=k:=by rw [Zh,List.length_replicate]
      have aL:(zb G.s).size=G.s.length:=Zh _;have aM:(zb (List.replicate k 93)).size=k:=by rw [Zh,List.length_replicate]
      have aI:(zb (List.replicate k 91)++zb G.s).size=k+G.s.length:=by rw [ze1,Zh,List.length_append,List.length_replicate]
      clear H U ak A T HT;go_wp2_with fail
      refine c1.mono ?_;clear c1;rintro e w6 ⟨rfl,ad⟩;have I:zd r w w6:=ao.out.trans (zd.of ad);have ar:zg r g o5 y (t5::D) w6:=an.out.keep (ad.block _ an.out.lt.1) (ad.block _ an.out.lt.2);have c2:=ag.out 93 k w6 au;have am:Hid (zd r w w6):=I;have W:Hid (zg r g o5 y (t5::D) w6):=ar;clear I ar ad;go_wp2_with fail
      refine c2.mono ?_;clear c2;rintro e w7 ⟨rfl,af⟩;have aA:Hid (zd r w w7):=am.out.trans (zd.of af);have aE:Hid (zg r g o5 y (t5::D) w7):=W.out.keep (af.block _ W.out.lt.1) (af.block _ W.out.lt.2);clear af;go_wp2
      refine bodyPost_ret (v:=.string (zb (List.replicate k 91)++zb G.s++zb (List.replicate k 93))) (by simp [results,Tryz.results99,go_sem]) rfl ⟨aA.out,_,_,?_,aE.out⟩
      rw [ze1,ze1]
   ·simp only [if_neg h1] at N
    rw [if_neg h1] at Z;subst Z;go_wp2_with fail
    refine N.mono ?_;clear N;rintro e w4 ⟨aa,rfl⟩;exact ⟨rfl,O.out.trans aa,rfl⟩
def Z8 (ts:List Tk):PR (List UInt8 × List UInt8) :=
 if (zv ts).k=1 then
  if zm (zv ts.tail) [58]=true then
   match ZB 0 ts.tail.tail with
   | .error a=>.error a
   | .ok (s,us)=>.ok (((zv ts).s,s),us)
  else .error (zv ts.tail).at0
 else .error (zv ts).at0
def zaS (r g:Nat) (w:World) (res:PR (List UInt8 × List UInt8)) (e:Ending) (w':World):Prop :=
 zd r w w'∧match res with
  | .error a=>e=ZI a
  | .ok (p,ts)=>∃o cap,e=.returned (.agg #[.string (zb p.1),.string (zb p.2)])∧zg r g o cap ts w'
abbrev prZ:Obj:=.cells #[.string ⟨#[]⟩,.string ⟨#[]⟩] 117
theorem ZA {w:World} {N:Nat} {x0 x1:Value} {ty:TypeId} (h:w.heap[N]?=some (.cells #[x0,x1] ty (0,0))) :
  w.cell? ⟨N,0,none⟩=some x0∧w.cell? ⟨N,1,none⟩=some x1∧∀j,w.frozen? ⟨N,j,none⟩=false:=by
 refine ⟨?_,?_,fun j=>?_⟩
 ·simp only [World.cell?,h];rfl
 ·simp only [World.cell?,h];rfl
 ·simp only [World.frozen?,h];simp
theorem zgt (r g o cap:Nat) (ts:List Tk) (w:World) (h:zg r g o cap ts w) (hE:zi ts)
  (hty:∀V H o1 cap1,(∃a b,ts=a::b::V)→zi V→zg r g o1 cap1 V H→Calls Tryz.prog 99 #[.pointer (some ⟨r,0,none⟩)] H (zaR r g H (ZB 0 V))) :
  Calls Tryz.prog 97 #[.pointer (some ⟨r,0,none⟩)] w (zaS r g w (Z8 ts)):=by
 generalize hres:Z8 ts=R;obtain ⟨t,V,rfl⟩:=hE.cons;have hr:=h.lt.1;have aj:=h.lt.2;obtain ⟨w0,D⟩:∃w0,w0=w.alloc prZ:=⟨_,rfl⟩;have h0:zg r g o cap (t::V) w0:=by rw [D];exact h.alloc _
 have k0:zd r w w0:=by rw [D];exact (zd.refl r w).alloc _
 have b0:w0.heap[w.heap.size]?=some prZ:=by rw [D];exact World.alloc_heap_new _ _
 have ak:w0.heap.size=w.heap.size+1:=by rw [D];simp
 have cn:=xu r g o cap t V w0 h0 (fun hk=>(hE.tail (by omega)).ne)
 have W:Hid (w0=w.alloc prZ):=D
 unfold Z8 at hres
 simp only [zE,List.tail_cons] at hres;clear h h0 D
 by_cases hk:t.k=1
 ·simp only [if_pos hk] at cn
  rw [if_pos hk] at hres;have U:=hE.tail (by omega:t.k≠0)
  obtain ⟨t1,O,rfl⟩:=U.cons;simp only [zE,List.tail_cons] at hres
  go_enter Tryz.func97,Tryz.ntmps97
  go_wp2_with fail
  rw [←W.out];refine cn.mono ?_;clear cn W;rintro e H ⟨I,rfl,h1⟩;obtain ⟨w2,G⟩:∃w2,w2=H.alloc (.cells #[.string (zb t.s),.string ⟨#[]⟩] 117):=⟨_,rfl⟩;have h2:zg r g (o+5) (cap-1) (t1::O) w2:=by rw [G];exact h1.alloc _
  have ag:=I.size;have b1:=(I.block _ (by omega) (by omega)).trans b0
  have b2:w2.heap[w.heap.size]?=some prZ:=by rw [G];exact (Below.heap_alloc _ _ _ (by omega)).trans b1
  have bP:w2.heap[H.heap.size]?=some (.cells #[.string (zb t.s),.string ⟨#[]⟩] 117 (0,0)):=by rw [G];exact World.alloc_heap_new _ _
  have hP:H.heap.size<w2.heap.size:=(Array.getElem?_eq_some_iff.1 bP).1;have J:Hid (zd r w w2):=show zd _ _ _ by rw [G];exact (k0.trans I).alloc _
  have Z:=yJ r g (o+5) (cap-1) t1 O [58] w2 h2 (fun hi=>(U.tail (zj hi)).ne)
  have Y:Hid (w2=H.alloc (.cells #[.string (zb t.s),.string ⟨#[]⟩] 117)):=G;have HB:Hid (w2.heap[w.heap.size]?=some prZ∧w2.heap[H.heap.size]?=some (.cells #[.string (zb t.s),.string ⟨#[]⟩] 117 (0,0))):=⟨b2,bP⟩;clear G h1 I b0 b1 b2 bP k0 h2
  by_cases hc:zm t1 [58]=true
  ·simp only [if_pos hc] at Z
   rw [if_pos hc] at hres;have ae:=U.tail (zj hc);go_wp2_with fail
   rw [←Y.out];refine Z.mono ?_;clear Z Y;rintro e w3 ⟨N,rfl,h3⟩;have ct:=hty O w3 _ _ ⟨t,t1,rfl⟩ ae h3;have aa:Hid (zd r w2 w3):=N;clear hty h3 N;go_wp2_with fail
   refine ct.mono ?_;clear ct;rintro e w4 ⟨ab,y⟩;have A:zd r w2 w4:=aa.out.trans ab;cases hT:ZB 0 O with
   | error a =>
    rw [hT] at y hres;simp only at y hres;obtain rfl:=y;subst hres;exact ⟨rfl,J.out.trans A,rfl⟩
   | ok p =>
    obtain ⟨s,vs⟩:=p;rw [hT] at y hres;obtain ⟨o4,Q,rfl,ad⟩:=y;simp only at hres;subst hres;have ah:=J.out.size;have ai:=A.size;have b4:=(A.block _ (by omega) (by omega)).trans HB.out.1
    have c4:=(A.block _ hP (by omega)).trans HB.out.2
    obtain ⟨-,g1,gf⟩:=ZA c4;have al:=gf 1;obtain ⟨w5,L⟩:∃w5,w5=w4.setCell ⟨H.heap.size,1,none⟩ (.string (zb s)):=⟨_,rfl⟩;have z:∀k,k≠H.heap.size→w5.heap[k]?=w4.heap[k]?:=fun k hk=>by rw [L];exact Below.heap_setCell _ _ _ _ (by simpa using hk)
    have c5:w5.heap[H.heap.size]?=some (.cells #[.string (zb t.s),.string (zb s)] 117 (0,0)):=by rw [L];exact zq _ c4
    have b5:=(z w.heap.size (by omega)).trans b4
    obtain ⟨d0,d1,-⟩:=ZA c5;obtain ⟨q0,q1,qf⟩:=ZA b5;have k5:zd r w w5:=by rw [L];exact (J.out.trans A).setOther (by simp;omega) _
    have T:zg r g o4 Q vs w5:=ad.keep (z r (by omega)) (z g (by omega))
    have af:=L.symm;have b6:=zq (j:=1) (.string (zb s)) (zq (j:=0) (.string (zb t.s)) b5);obtain ⟨z0,z1,-⟩:=ZA (x0:=.string (zb t.s)) (x1:=.string (zb s)) b6
    have HP:Hid (zaS r g w (.ok ((t.s,s),vs)) (.returned (.agg #[.string (zb t.s),.string (zb s)])) ((w5.setCell ⟨w.heap.size,0,none⟩ (.string (zb t.s))).setCell ⟨w.heap.size,1,none⟩ (.string (zb s)))):=by
     refine ⟨(k5.setOther (p:=⟨w.heap.size,0,none⟩) (by simp) _).setOther (p:=⟨w.heap.size,1,none⟩) (by simp) _,o4,Q,rfl,T.keep ?_ ?_⟩
     ·rw [Below.heap_setCell _ _ _ _ (by simp;omega),Below.heap_setCell _ _ _ _ (by simp;omega)]
     ·rw [Below.heap_setCell _ _ _ _ (by simp;omega),Below.heap_setCell _ _ _ _ (by simp;omega)]
    clear L z b4 c4 c5 b5 b6 k5 T ad gf ab A HB J aa;go_wp2
    exact bodyPost_ret (v:=.agg #[.string (zb t.s),.string (zb s)]) (by simp [results,Tryz.results97,go_sem,z0,z1]) rfl HP.out
  ·simp only [if_neg hc] at Z
   rw [if_neg hc] at hres;subst hres;go_wp2_with fail
   rw [←Y.out];refine Z.mono ?_;clear Z;rintro e w3 ⟨N,rfl⟩;exact ⟨rfl,J.out.trans N,rfl⟩
 ·simp only [if_neg hk] at cn
  rw [if_neg hk] at hres;subst hres
  go_enter Tryz.func97,Tryz.ntmps97
  go_wp2_with fail
  rw [←W.out];refine cn.mono ?_;clear cn;rintro e H ⟨I,rfl⟩;exact ⟨rfl,k0.trans I,rfl⟩
abbrev Pm:=List UInt8 × List UInt8
def PmE (_:Nat→Prop) (_:World) (x:Pm) (c:List Value):Prop:=c=[.string (zb x.1),.string (zb x.2)]
theorem y9:yd PmE:=⟨fun h _ _=>h,fun h _=>h,fun h=>h⟩
def zN:Nat→List Pm→List Tk→Option (PR (List Pm))
 | 0,_,_=>none
 | f+1,pre,ts =>
  match Z8 ts with
  | .error a=>some (.error a)
  | .ok (p,us)=>if zm (zv us) [44]=true then zN f (pre++[p]) us.tail else some (.ok (pre++[p],us))
theorem YI:∀(ts:List Tk) (k:Nat) (s:List UInt8) (us:List Tk),ZB k ts=.ok (s,us)→zi ts→zi us∧us.length<ts.length
 | [],k,s,us,h,hE=>absurd hE (by simp [zi])
 | t::ts,k,s,us,h,hE=>by
  unfold ZB at h
  split at h
  ·rename_i A
   have:=YI ts (k+1) s us h (hE.tail (zj A))
   exact ⟨this.1,by simp only [List.length_cons];omega⟩
  ·split at h
   ·rename_i G
    unfold Xg at h
    split at h
    ·cases h
    ·rename_i D y
     cases h
     have o:=hE.tail (by omega:t.k≠0)
     refine ⟨zaQ y o,?_⟩
     have z:∀(n:Nat) (a b:List Tk),ZS n a=.ok b→b.length≤a.length:=by
      intro n
      induction n with
      | zero=>intro a b h;cases h;exact Nat.le_refl _
      | succ n ih =>
       intro a b h
       unfold ZS at h
       split at h
       ·have:=ih _ _ h;simp only [List.length_tail] at this;omega
       ·cases h
     have:=z _ _ _ y
     simp only [List.length_cons];omega
   ·cases h
theorem YV {ts us:List Tk} {p:Pm} (h:Z8 ts=.ok (p,us)) (hE:zi ts):zi us∧us.length<ts.length:=by
 obtain ⟨t,z,rfl⟩:=hE.cons
 unfold Z8 at h
 simp only [zE,List.tail_cons] at h
 split at h
 ·rename_i H
  have o:=hE.tail (by omega:t.k≠0)
  obtain ⟨I,D,rfl⟩:=o.cons;simp only [zE,List.tail_cons] at h
  split at h
  ·rename_i A
   split at h
   ·cases h
   ·rename_i s G y
    cases h
    have:=YI _ _ _ _ y (o.tail (zj A))
    exact ⟨this.1,by simp only [List.length_cons];omega⟩
  ·cases h
 ·cases h
def Ub (f:Nat) (l:List Pm) (ts:List Tk):Option (PR (List Pm)):=if zm (zv ts) [44]=true then zN f l ts.tail else some (.ok (l,ts))
def zaT (r g:Nat) (w:World) (res:PR (List Pm)) (e:Ending) (w':World):Prop :=
 zd r w w'∧match res with
  | .error a=>e=ZI a
  | .ok (l,ts)=>∃v g1 cap1 us o cap,e=.returned v∧Zj PmE 2 117 w.heap.size w' l v g1 cap1 us∧zg r g o cap ts w'
theorem zbX:(Tryz.prog.info? 117).map (fun i=>(i.zero,i.size,i.bytes))=some (some (.agg #[.string ⟨#[]⟩,.string ⟨#[]⟩]),2,32):=by kernel_rfl
theorem ze2 (r g o cap F:Nat) (ts:List Tk) (w:World) (res:PR (List Pm)) (h:zg r g o cap ts w) (hE:zi ts) (hp:zN (F+1) [] ts=some res)
  (hone:∀G o1 z A,zi A→zg r g o1 z A G→zd r w G→Calls Tryz.prog 97 #[.pointer (some ⟨r,0,none⟩)] G (zaS r g G (Z8 A))) :
  Calls Tryz.prog 96 #[.pointer (some ⟨r,0,none⟩),.func (.func 97) #[.pointer (some ⟨r,0,none⟩)] #[]] w (zaT r g w res):=by
 obtain ⟨i0,aO,aH,aM,aN⟩:=info_parts zbX;obtain ⟨t0,aB,rfl⟩:=hE.cons;have hr:=h.lt.1;have aV:=h.lt.2;have hN:=h.few;have c1:=hone w o cap (t0::aB) hE h (zd.refl r w);rw [zN] at hp;cases hb:Z8 (t0::aB) with
 | error a =>
  rw [hb] at hp c1;simp only [Option.some.injEq] at hp;subst hp
  go_enter Tryz.func96,Tryz.ntmps96
  go_wp2_with fail
  refine c1.mono ?_;clear c1;rintro e G ⟨ad,y⟩;obtain rfl:=y;exact ⟨rfl,ad,rfl⟩
 | ok q =>
  obtain ⟨x,us⟩:=q;rw [hb] at hp c1;simp only at hp
  go_enter Tryz.func96,Tryz.ntmps96
  go_wp2_with fail
  refine c1.mono ?_;clear c1;rintro e G ⟨ad,y⟩;obtain ⟨o1,z,rfl,V⟩:=y;obtain ⟨ao,aw⟩:=YV hb hE;have HP:Hid (Ub F [x] us=some res):=hp;obtain ⟨t1,A,rfl⟩:=ao.cons
  have aF:Hid (Zj PmE 2 117 w.heap.size (G.alloc (.cells #[.string (zb x.1),.string (zb x.2)] 117)) [x] (.slice (some ⟨G.heap.size,0,none⟩) 1 1) G.heap.size 1 [[.string (zb x.1),.string (zb x.2)]]) :=
   Zj.first y9 (c:=[.string (zb x.1),.string (zb x.2)]) rfl rfl ad.size
  have aC:Hid (zg r g o1 z (t1::A) (G.alloc (.cells #[.string (zb x.1),.string (zb x.2)] 117))):=V.alloc _;have ay:Hid (zd r w (G.alloc (.cells #[.string (zb x.1),.string (zb x.2)] 117))):=ad.alloc _;have aA:Hid (zi (t1::A)):=ao;have hn:A.length+2≤1099511627776:=by simp only [List.length_cons] at aw hN;omega
  have av:Hid (∀G o1 z A,zi A→zg r g o1 z A G→zd r w G→Calls Tryz.prog 97 #[.pointer (some ⟨r,0,none⟩)] G (zaS r g G (Z8 A))):=hone;clear V ad ao hone hp hb hE hN h aw;go_wp2_with fail
  go_loopw [5] (fun v wr=>∃(L:List Pm) (g1 z:Nat) (us:List (List Value)) (o2 Q:Nat) (Z:List Tk) (f2:Nat),Ub f2 L Z=some res∧zi Z∧L.length+Z.length≤1099511627776∧Zj PmE 2 117 w.heap.size wr L v g1 z us∧zg r g o2 Q Z wr∧zd r w wr) (fun _ wr=>ZP r wr)
  case atStart=>exact ⟨[x],_,_,_,o1,z,t1::A,F,HP.out,aA.out,by simp only [List.length_cons,List.length_nil];omega,aF.out,aC.out,ay.out⟩
  case round =>
   obtain ⟨L,g1,cp1,us,o2,Q,Z,f2,H,ab,ak,O,R,aq⟩:=hrel;clear HP aF aC ay aA hn;obtain ⟨t2,ag,rfl⟩:=ab.cons;have cs:=Zx r g o2 Q t2 ag [44] wr R (fun hi=>(ab.tail (zj hi)).ne)
   have au:=R.left;have Y:Hid (Zj PmE 2 117 w.heap.size wr L _ g1 cp1 us):=O;have am:Hid (zd r w wr):=aq;have aD:=O.val;subst aD
   unfold Ub at H
   simp only [zE,List.tail_cons] at H
   by_cases hi:zm t2 [44]=true
   ·rw [hi] at cs
    rw [if_pos hi] at H;have az:=ab.tail (zj hi);clear O aq R ab;go_wp2_with fail
    refine cs.mono ?_;clear cs;rintro e w3 ⟨rfl,D,h3⟩;simp only [if_true] at h3;have ar:zd r w w3:=am.out.trans D;have N:=Y.out.kept y9 D.size fun k hB hlt=>D.block k hlt (by omega)
    cases f2 with
    | zero=>simp [zN] at H
    | succ f3 =>
     rw [zN] at H;have c3:=av.out w3 _ _ ag az h3 ar;have aU:=N.block;have I:Hid (Zj PmE 2 117 w.heap.size w3 L _ g1 cp1 us):=N;have af:Hid (zd r w w3):=ar;clear N ar D h3 Y am;cases hb3:Z8 ag with
     | error a =>
      rw [hb3] at H c3;simp only [Option.some.injEq] at H;subst H;go_wp2_with fail
      refine c3.mono ?_;clear c3;rintro e w4 ⟨T,y⟩;obtain rfl:=y;exact ⟨rfl,af.out.trans T,rfl⟩
     | ok q =>
      obtain ⟨W,ah⟩:=q;rw [hb3] at H c3;simp only at H;go_wp2_with fail
      refine c3.mono ?_;clear c3;rintro e w4 ⟨T,y⟩;have ap:Hid (zd r w w4):=af.out.trans T;obtain ⟨o4,U,rfl,V⟩:=y;have J:=I.out.kept y9 T.size fun k hB hlt=>T.block k hlt (by omega)
      have aj:Hid (Zj PmE 2 117 w.heap.size w4 L _ g1 cp1 us):=J;have aG:Hid (zg r g o4 U ah w4):=V;obtain ⟨aK,aR⟩:=YV hb3 az;have aE:=(J.own.alloc (.cells #[.string (zb W.1),.string (zb W.2)] 117));have HT:Hid (Ub f3 (L++[W]) ah=some res):=H;have aQ:w.heap.size≤w4.heap.size:=ap.out.size;clear J V H T
      go_wp2_with (at_builtin;refine wpList_append_own_at _ rfl _ _ 69 rfl w.heap.size 117 i0 _ 2 32 Tryz.underlying69 aO aH aM aN rfl (by decide) _ _ _ rfl aE ⟨w4.heap.size,0,none⟩ 1 1 [.string (zb W.1),.string (zb W.2)] rfl rfl (ZQ _ _ _) (by simp [Value.oneCell']) (by unfold maxLen;simp only [List.length_cons] at ak;omega) (by simp only [List.length_cons] at ak;omega) (by simp;omega) ?_;intro v' w5 al aa _ aI)
      obtain ⟨g5,ax,an,aT⟩:=aj.out.snoc y9 (x:=W) (c:=[.string (zb W.1),.string (zb W.2)]) rfl rfl al aa aI
      have ae:(w4.alloc (.cells #[.string (zb W.1),.string (zb W.2)] 117)).grownBy w5 (some g1):=aa;have aL:zd r w w5:=(ap.out.alloc _).grown ae fun k hk=>by have:=Option.some.inj hk;omega
      have aS:w.heap.size≤w4.heap.size:=ap.out.size;have ai:zg r g o4 U ah w5:=aG.out.keep ((ae.block r (by simp;omega) (fun e=>by have:=Option.some.inj e;omega)).trans (Below.heap_alloc _ _ _ (by omega))) ((ae.block g (by simp;omega) (fun e=>by have:=Option.some.inj e;omega)).trans (Below.heap_alloc _ _ _ (by omega)))
      refine ⟨⟨L++[W],g5,ax,_,o4,U,ah,f3,HT.out,aK,?_,an,ai,aL⟩,?_⟩
      ·simp only [List.length_append,List.length_cons,List.length_nil] at ak ⊢;omega
      ·rw [ai.left,au];simp only [List.length_cons];omega
   ·have aP:zm t2 [44]=false:=by simpa using hi
    rw [aP] at cs;rw [if_neg hi] at H;clear O aq R ab;go_wp2_with fail
    refine cs.mono ?_;clear cs;rintro e w3 ⟨rfl,D,h3⟩;have af:Hid (zd r w w3):=am.out.trans D;have I:Hid (Zj PmE 2 117 w.heap.size w3 L (.slice (some ⟨g1,0,none⟩) L.length cp1) g1 cp1 us):=Y.out.kept y9 D.size fun k hB hlt=>D.block k hlt (by omega)
    have aJ:Hid (zg r g o2 Q (t2::ag) w3):=show zg _ _ _ _ _ _ by simpa using h3
    simp only [Option.some.injEq] at H;subst H;clear D h3;go_wp2
    refine bodyPost_ret (v:=.slice (some ⟨g1,0,none⟩) L.length cp1) (by simp [results,Tryz.results96,go_sem]) rfl ⟨af.out,_,_,_,_,_,_,rfl,I.out,aJ.out⟩
def ZV (B:Nat) (w:World) (l:List Pm) (v:Value):Prop :=
 (l=[]∧v=.slice none 0 0)∨∃g cap us,Zj PmE 2 117 B w l v g cap us
theorem ZV.kept {B:Nat} {w w':World} {l:List Pm} {v:Value} (h:ZV B w l v) (hs:w.heap.size≤w'.heap.size) (hb:∀k,B≤k→k<w.heap.size→w'.heap[k]?=w.heap[k]?):ZV B w' l v:=by
 rcases h with h | ⟨g,o,y,h⟩
 ·exact .inl h
 ·exact .inr ⟨g,o,y,h.kept y9 hs hb⟩
theorem ZV.mono {B B':Nat} {w:World} {l:List Pm} {v:Value} (h:ZV B w l v) (hb:B'≤B):ZV B' w l v:=by
 rcases h with h | ⟨g,A,G,h⟩
 ·exact .inl h
 ·refine .inr ⟨g,A,G,h.val,h.ne,?_,h.len,h.wid,h.kids⟩
  refine ⟨h.own.1,?_⟩;rcases h.own.2 with y | ⟨I,o,z,y,H,D⟩
  ·exact .inl y
  ·exact .inr ⟨I,o,z,y,Nat.le_trans hb H,D⟩
def zcY (r g:Nat) (w:World) (res:PR (List Pm)) (e:Ending) (w':World):Prop :=
 zd r w w'∧match res with
  | .error a=>e=ZI a
  | .ok (l,ts)=>∃v o cap,e=.returned v∧ZV w.heap.size w' l v∧zg r g o cap ts w'
def Yo (t:Tk) (ts:List Tk) (res:PR (List Pm)):PR (List Pm) :=
 if zm t [40]=true then
  if zm (zv ts) [41]=true then .ok ([],ts.tail) else
  match res with
  | .error a=>.error a
  | .ok (l,us)=>if zm (zv us) [41]=true then .ok (l,us.tail) else .error (zv us).at0
 else .error t.at0
theorem XZ (r g o cap:Nat) (f:Value) (t:Tk) (ts:List Tk) (w:World) (res:PR (List Pm)) (h:zg r g o cap (t::ts) w) (hE:zi (t::ts)) (hEnd:∀l us,res=.ok (l,us)→zi us)
  (hrow:zm t [40]=true→zm (zv ts) [41]=false→∀I o1 G,zg r g o1 G ts I→zd r w I→Calls Tryz.prog 96 #[.pointer (some ⟨r,0,none⟩),f] I (zaT r g I res)) :
  Calls Tryz.prog 98 #[.pointer (some ⟨r,0,none⟩),f] w (zcY r g w (Yo t ts res)):=by
 have hr:=h.lt.1;have Q:=yJ r g o cap t ts [40] w h (fun hi=>(hE.tail (zj hi)).ne)
 clear h
 unfold Yo
 by_cases hi:zm t [40]=true
 ·simp only [if_pos hi] at Q ⊢
  have R:=hE.tail (zj hi);obtain ⟨t1,L,rfl⟩:=R.cons;simp only [zE,List.tail_cons] at hrow ⊢
  by_cases hj:zm t1 [41]=true
  ·simp only [if_pos hj]
   clear hrow hEnd
   go_enter Tryz.func98,Tryz.ntmps98
   go_wp2_with fail
   refine Q.mono ?_;clear Q;rintro e I ⟨y,rfl,h1⟩;have U:=Zx r g _ _ t1 L [41] I h1 (fun hi=>(R.tail (zj hi)).ne)
   have W:Hid (zd r w I):=y;rw [hj] at U;clear h1 y;go_wp2_with fail
   refine U.mono ?_;clear U;rintro e w2 ⟨rfl,H,h2⟩;have J:Hid (zd r w w2):=W.out.trans H;have af:zg r g (o+5+5) (cap-1-1) L w2:=by simpa using h2
   have aj:Hid (zg r g (o+5+5) (cap-1-1) L w2):=af;clear h2 af H;go_wp2
   refine bodyPost_ret (v:=.slice none 0 0) (by simp [results,Tryz.results98,go_sem]) rfl ⟨J.out,_,_,_,rfl,.inl ⟨rfl,rfl⟩,aj.out⟩
  ·have ae:zm t1 [41]=false:=by simpa using hj
   simp only [if_neg hj]
   go_enter Tryz.func98,Tryz.ntmps98
   go_wp2_with fail
   refine Q.mono ?_;clear Q;rintro e I ⟨y,rfl,h1⟩;have U:=Zx r g _ _ t1 L [41] I h1 (fun hi=>(R.tail (zj hi)).ne)
   have W:Hid (zd r w I):=y;rw [ae] at U;clear h1 y;go_wp2_with fail
   refine U.mono ?_;clear U;rintro e w2 ⟨rfl,H,h2⟩;have Y:zd r w w2:=W.out.trans H;have J:Hid (zd r w w2):=Y;have cr:=hrow hi ae w2 _ _ (by simpa using h2) Y
   clear h2 H Y hrow;go_wp2_with fail
   refine cr.mono ?_;clear cr;rintro e w3 ⟨aa,D⟩;have T:Hid (zd r w w3):=J.out.trans aa;rcases res with a | ⟨l,us⟩
   ·obtain rfl:=D
    exact ⟨rfl,T.out,rfl⟩
   ·obtain ⟨v,g1,G,ak,o3,O,rfl,N,ab⟩:=D
    have Z:ZV w2.heap.size w3 l v:=.inr ⟨g1,G,ak,N⟩;clear N;have ag:=hEnd l us rfl;obtain ⟨t3,ah,rfl⟩:=ag.cons;have A:=yJ r g o3 O t3 ah [41] w3 ab (fun hi=>(ag.tail (zj hi)).ne)
    have ai:w.heap.size≤w2.heap.size:=J.out.size;have ao:r<w2.heap.size:=by omega
    have ad:Hid (ZV w2.heap.size w3 l v):=Z;clear ab Z aa hEnd
    by_cases hm:zm t3 [41]=true
    ·simp only [if_pos hm] at A
     go_wp2_with fail
     refine A.mono ?_;clear A;rintro e w4 ⟨z,rfl,h4⟩;have al:Hid (zd r w w4):=T.out.trans z;have V:Hid (ZV w2.heap.size w4 l v):=ZV.kept ad.out z.size fun k hB hlt=>z.block k hlt (by omega)
     have am:Hid (zg r g (o3+5) (O-1) ah w4):=h4;clear z h4;go_wp2
     refine bodyPost_ret (v:=v) (by simp [results,Tryz.results98,go_sem]) rfl ⟨al.out,_,_,_,rfl,ZV.mono V.out ai,am.out⟩
    ·simp only [if_neg hm] at A
     have an:zm t3 [41]=false:=by simpa using hm
     go_wp2_with fail
     refine A.mono ?_;clear A;rintro e w4 ⟨z,rfl⟩;refine ⟨rfl,T.out.trans z,?_⟩;simp only [zE,an,Bool.false_eq_true,if_false]
 ·simp only [if_neg hi] at Q ⊢
  clear hrow hEnd
  go_enter Tryz.func98,Tryz.ntmps98
  go_wp2_with fail
  refine Q.mono ?_;clear Q;rintro e I ⟨y,rfl⟩;exact ⟨rfl,y,rfl⟩
end Go.Proofs.YtpejpbbdgblbeaaGreatDoor
