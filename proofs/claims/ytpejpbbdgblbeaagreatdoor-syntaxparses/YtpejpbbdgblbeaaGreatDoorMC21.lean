import Derived.Test.YtpejpbbdgblbeaaGreatDoorMC16
import Derived.Test.YtpejpbbdgblbeaaGreatDoorMC14
import Derived.Test.YtpejpbbdgblbeaaGreatDoorMC15
namespace Go.Proofs.YtpejpbbdgblbeaaGreatDoor
open Go.RowKit Go.Shelf
set_option maxHeartbeats 16000000
set_option maxRecDepth 100000
theorem zfA (a b:List UInt8):za a++za b=za (a++b):=by
 apply ByteArray.ext
 rw [ByteArray.data_append]
 unfold za
 simp
def yJ:Nat→List Tk→Except Nat (List Tk)
 | 0,ts=>.ok ts
 | n+1,ts=>if zn (zx ts) [93]=true then yJ n ts.tail else .error (zx ts).at0
def XZ (k:Nat) (s:List UInt8):Except Nat (List Tk)→PR (List UInt8)
 | .error a=>.error a
 | .ok vs=>.ok (List.replicate k 91++s++List.replicate k 93,vs)
def yF (k:Nat):List Tk→PR (List UInt8)
 | []=>.error 0
 | t::ts=>if zn t [91]=true then yF (k+1) ts else if t.k=1 then XZ k t.s (yJ k ts) else .error t.at0
theorem zbn {n:Nat}:∀{ts us:List Tk},yJ n ts=.ok us→zj ts→zj us:=by
 induction n with
 | zero=>intro ts us h hE;cases h;exact hE
 | succ n ih =>
  intro ts us h hE
  unfold yJ at h
  split at h
  ·rename_i hi;exact ih h (zT hE hi)
  ·cases h
def zbo (r g:Nat) (w:World) (res:PR (List UInt8)) (e:Ending) (w':World):Prop :=
 zc r w w'∧match res with
  | .error a=>e=Z2 a
  | .ok (s,ts)=>∃o cap,e=.returned (.string (za s))∧zh r g o cap ts w'
theorem zhz (r g o cap:Nat) (ts:List Tk) (w:World) (h:zh r g o cap ts w) (hE:zj ts) (hshort:∀t∈ts,NmT t)
  (hrep:∀(c:UInt8) (n:Nat) (w:World),n≤1099511627776→Calls Tryz.prog 135 #[.string ⟨#[c]⟩,.int .i64 n] w fun e w'=>e=.returned (.string (za (List.replicate n c)))∧Below w.heap.size w w') :
  Calls Tryz.prog 99 #[.pointer (some ⟨r,0,none⟩)] w (zbo r g w (yF 0 ts)):=by
 generalize hres:yF 0 ts=R;obtain ⟨t0,ts0,hts⟩:=hE.cons;have hr:r<w.heap.size:=by rw [hts] at h;exact h.lt.1
 have hgw:g<w.heap.size:=by rw [hts] at h;exact h.lt.2
 have hfew:=h.few;have HD:Hid (zh r g o cap ts w):=h;have HRES:Hid (yF 0 ts=R):=hres;have HE:Hid (zj ts):=hE;have HSH:Hid (∀t∈ts,NmT t):=hshort;have HREP:Hid (∀(c:UInt8) (n:Nat) (w:World),n≤1099511627776→Calls Tryz.prog 135 #[.string ⟨#[c]⟩,.int .i64 n] w fun e w'=>e=.returned (.string (za (List.replicate n c)))∧Below w.heap.size w w'):=hrep
 clear h hres hE hts hrep hshort
 go_enter Tryz.func99,Tryz.ntmps99
 go_wp2_with fail
 go_loopw [3] (fun d wr=>∃(k:Nat) (ts2:List Tk) (o2 cap2:Nat),d=.int .i64 k∧yF k ts2=R∧zj ts2∧k+ts2.length≤1099511627776∧zh r g o2 cap2 ts2 wr∧zc r w wr∧∀t∈ts2,NmT t) (fun _ wr=>yu r wr)
 case atStart=>exact ⟨0,ts,o,cap,rfl,HRES.out,HE.out,by omega,HD.out,zc.refl _ _,HSH.out⟩
 case round =>
  obtain ⟨k,ts2,o2,cap2,rfl,hT,hE2,hN,hrd,hk,hsh⟩:=hrel;obtain ⟨t2,ts3,rfl⟩:=hE2.cons;have cs:=ZL r g o2 cap2 t2 ts3 [91] wr hrd (fun hi=>(hE2.tail (zl hi)).ne)
  have hleft:=hrd.left;have HK:Hid (zc r w wr):=hk;have HSN:Hid (t2.k=1→t2.s.length≤1099511627776):=hsh t2 (by simp)
  have HSH2:Hid (∀t∈ts3,NmT t):=fun t ht=>hsh t (by simp [ht])
  clear HD HRES HE hrd hk hsh HSH
  unfold yF at hT
  simp only [List.length_cons] at hN
  by_cases hi:zn t2 [91]=true
  ·rw [hi] at cs
   rw [if_pos hi] at hT;have hE3:=hE2.tail (zl hi);have hwr:IntKind.i64.wrap ((k:Int)+1)=(k:Int)+1:=by rw [IntKind.wrap_i64];omega
   go_wp2_with fail
   refine cs.mono ?_;clear cs;rintro e w3 ⟨rfl,hk3,h3⟩;have h3':zh r g (o2+5) (cap2-1) ts3 w3:=by simpa using h3
   have HR3:Hid (zh r g (o2+5) (cap2-1) ts3 w3):=h3';have HK3:Hid (zc r w w3):=HK.out.trans hk3;clear h3 h3' hk3;go_wp2
   refine ⟨⟨k+1,ts3,_,_,by go_num,hT,hE3,by omega,HR3.out,HK3.out,HSH2.out⟩,?_⟩
   rw [HR3.out.left,hleft];simp
  ·have hi':zn t2 [91]=false:=by simpa using hi
   rw [hi'] at cs;rw [if_neg hi] at hT;go_wp2_with fail
   refine cs.mono ?_;clear cs;rintro e w3 ⟨rfl,hk3,h3⟩;have h3':zh r g o2 cap2 (t2::ts3) w3:=by simpa using h3
   have HK3:Hid (zc r w w3):=HK.out.trans hk3;have cn:=Xl r g o2 cap2 t2 ts3 w3 h3' (fun hk=>(hE2.tail (by omega)).ne)
   clear h3 h3' hk3
   by_cases h1:t2.k=1
   ·have hsn:t2.s.length≤1099511627776:=HSN.out h1
    simp only [if_pos h1] at cn;rw [if_pos h1] at hT;have hE3:=hE2.tail (by omega:t2.k≠0)
    go_wp2_with fail
    refine cn.mono ?_;clear cn;rintro e w4 ⟨hk4,rfl,h4⟩;have HK4:Hid (zc r w w4):=HK3.out.trans hk4;have HR4:Hid (zh r g (o2+5) (cap2-1) ts3 w4):=h4;clear hk4 h4;go_wp2_with fail
    obtain ⟨C,hC⟩:∃C,C=yJ k ts3:=⟨_,rfl⟩;rw [←hC] at hT;have HT:Hid (XZ k t2.s C=R):=hT;have HC:Hid (C=yJ k ts3):=hC;have HE3:Hid (zj ts3):=hE3;have hkn:k≤1099511627776:=by omega
    clear hT hC hE3 hE2 hN hleft HK
    go_loopw [12] (fun v wq=>∃(i:Nat) (ts5:List Tk) (o5 cap5:Nat),v=.int .i64 i∧i≤k∧C=yJ (k-i) ts5∧zj ts5∧zh r g o5 cap5 ts5 wq∧zc r w wq) (fun v _=>k-(intOf v).toNat)
    case atStart=>exact ⟨0,ts3,_,_,rfl,Nat.zero_le _,HC.out,HE3.out,HR4.out,HK4.out⟩
    case round =>
     obtain ⟨i,ts5,o5,cap5,rfl,hi5,hC5,hE5,hrd5,hk5⟩:=hrel;obtain ⟨t5,ts6,rfl⟩:=hE5.cons;have hrd5':=hrd5;have HK5:Hid (zc r w _):=hk5;clear HC HE3 HR4 HK4 HK3
     by_cases hlt:i<k
     ·have hlt':(i:Int)<(k:Int):=by omega
      have cn:=Yt r g o5 cap5 t5 ts6 [93] _ hrd5 (fun hi=>(hE5.tail (zl hi)).ne)
      rw [show k-i=(k-i-1)+1 by omega] at hC5
      simp only [yJ,zI,List.tail_cons] at hC5;have hwr:IntKind.i64.wrap ((i:Int)+1)=(i:Int)+1:=by rw [IntKind.wrap_i64];omega
      clear hrd5 hrd5' hk5
      by_cases hm:zn t5 [93]=true
      ·simp only [if_pos hm] at cn
       rw [if_pos hm] at hC5;have HC5:Hid (C=yJ (k-i-1) ts6):=hC5;have HE5:Hid (zj ts6):=hE5.tail (zl hm);clear hC5 hE5;go_wp2_with fail
       refine cn.mono ?_;clear cn;rintro e w6 ⟨hk6,rfl,h6⟩;have HK6:Hid (zc r w w6):=HK5.out.trans hk6;have HR6:Hid (zh r g (o5+5) (cap5-1) ts6 w6):=h6;clear hk6 h6;go_wp2
       exact ⟨⟨i+1,ts6,_,_,by go_num,by omega,by rw [HC5.out,show k-(i+1)=k-i-1 by omega],HE5.out,HR6.out,HK6.out⟩,by simp [intOf];omega⟩
      ·simp only [if_neg hm] at cn
       rw [if_neg hm] at hC5;have hR:=HT.out;rw [hC5] at hR;simp only [XZ] at hR;subst hR;go_wp2_with fail
       refine cn.mono ?_;clear cn;rintro e w6 ⟨hk6,rfl⟩;exact ⟨rfl,HK5.out.trans hk6,rfl⟩
     ·have hlt':¬(i:Int)<(k:Int):=by omega
      rw [show k-i=0 by omega] at hC5
      simp only [yJ] at hC5;have hR:=HT.out;rw [hC5] at hR;simp only [XZ] at hR;subst hR;have HR5:Hid (zh r g o5 cap5 (t5::ts6) wr):=hrd5;have c1:=HREP.out 91 k wr hkn;have hz1:(za (List.replicate k 91)).size=k:=by rw [Zs,List.length_replicate]
      have hz2:(za t2.s).size=t2.s.length:=Zs _;have hz3:(za (List.replicate k 93)).size=k:=by rw [Zs,List.length_replicate]
      have hz4:(za (List.replicate k 91)++za t2.s).size=k+t2.s.length:=by rw [zfA,Zs,List.length_append,List.length_replicate]
      clear hrd5 hrd5' hk5 hC5 hE5 HT;go_wp2_with fail
      refine c1.mono ?_;clear c1;rintro e w6 ⟨rfl,hb6⟩;have hk6:zc r w w6:=HK5.out.trans (zc.of hb6);have hr6:zh r g o5 cap5 (t5::ts6) w6:=HR5.out.keep (hb6.block _ HR5.out.lt.1) (hb6.block _ HR5.out.lt.2);have c2:=HREP.out 93 k w6 hkn;have HK6:Hid (zc r w w6):=hk6;have HR6:Hid (zh r g o5 cap5 (t5::ts6) w6):=hr6;clear hk6 hr6 hb6;go_wp2_with fail
      refine c2.mono ?_;clear c2;rintro e w7 ⟨rfl,hb7⟩;have HK7:Hid (zc r w w7):=HK6.out.trans (zc.of hb7);have HR7:Hid (zh r g o5 cap5 (t5::ts6) w7):=HR6.out.keep (hb7.block _ HR6.out.lt.1) (hb7.block _ HR6.out.lt.2);clear hb7;go_wp2
      refine bodyPost_ret (v:=.string (za (List.replicate k 91)++za t2.s++za (List.replicate k 93))) (by simp [results,Tryz.results99,go_sem]) rfl ⟨HK7.out,_,_,?_,HR7.out⟩
      rw [zfA,zfA]
   ·simp only [if_neg h1] at cn
    rw [if_neg h1] at hT;subst hT;go_wp2_with fail
    refine cn.mono ?_;clear cn;rintro e w4 ⟨hk4,rfl⟩;exact ⟨rfl,HK3.out.trans hk4,rfl⟩
def YE (ts:List Tk):PR (List UInt8 × List UInt8) :=
 if (zx ts).k=1 then
  if zn (zx ts.tail) [58]=true then
   match yF 0 ts.tail.tail with
   | .error a=>.error a
   | .ok (s,us)=>.ok (((zx ts).s,s),us)
  else .error (zx ts.tail).at0
 else .error (zx ts).at0
def zbp (r g:Nat) (w:World) (res:PR (List UInt8 × List UInt8)) (e:Ending) (w':World):Prop :=
 zc r w w'∧match res with
  | .error a=>e=Z2 a
  | .ok (p,ts)=>∃o cap,e=.returned (.agg #[.string (za p.1),.string (za p.2)])∧zh r g o cap ts w'
abbrev prZ:Obj:=.cells #[.string ⟨#[]⟩,.string ⟨#[]⟩] 117
theorem zZ {w:World} {N:Nat} {x0 x1:Value} {ty:TypeId} (h:w.heap[N]?=some (.cells #[x0,x1] ty (0,0))) :
  w.cell? ⟨N,0,none⟩=some x0∧w.cell? ⟨N,1,none⟩=some x1∧∀j,w.frozen? ⟨N,j,none⟩=false:=by
 refine ⟨?_,?_,fun j=>?_⟩
 ·simp only [World.cell?,h];rfl
 ·simp only [World.cell?,h];rfl
 ·simp only [World.frozen?,h];simp
theorem zgI (r g o cap:Nat) (ts:List Tk) (w:World) (h:zh r g o cap ts w) (hE:zj ts)
  (hty:∀us w1 o1 cap1,(∃a b,ts=a::b::us)→zj us→zh r g o1 cap1 us w1→Calls Tryz.prog 99 #[.pointer (some ⟨r,0,none⟩)] w1 (zbo r g w1 (yF 0 us))) :
  Calls Tryz.prog 97 #[.pointer (some ⟨r,0,none⟩)] w (zbp r g w (YE ts)):=by
 generalize hres:YE ts=R;obtain ⟨t,us,rfl⟩:=hE.cons;have hr:=h.lt.1;have hgw:=h.lt.2;obtain ⟨w0,hw0⟩:∃w0,w0=w.alloc prZ:=⟨_,rfl⟩;have h0:zh r g o cap (t::us) w0:=by rw [hw0];exact h.alloc _
 have k0:zc r w w0:=by rw [hw0];exact (zc.refl r w).alloc _
 have b0:w0.heap[w.heap.size]?=some prZ:=by rw [hw0];exact World.alloc_heap_new _ _
 have hs0:w0.heap.size=w.heap.size+1:=by rw [hw0];simp
 have cn:=Xl r g o cap t us w0 h0 (fun hk=>(hE.tail (by omega)).ne)
 have HW0:Hid (w0=w.alloc prZ):=hw0
 unfold YE at hres
 simp only [zI,List.tail_cons] at hres;clear h h0 hw0
 by_cases hk:t.k=1
 ·simp only [if_pos hk] at cn
  rw [if_pos hk] at hres;have hE1:=hE.tail (by omega:t.k≠0)
  obtain ⟨t1,us1,rfl⟩:=hE1.cons;simp only [zI,List.tail_cons] at hres
  go_enter Tryz.func97,Tryz.ntmps97
  go_wp2_with fail
  rw [←HW0.out];refine cn.mono ?_;clear cn HW0;rintro e w1 ⟨hk1,rfl,h1⟩;obtain ⟨w2,hw2⟩:∃w2,w2=w1.alloc (.cells #[.string (za t.s),.string ⟨#[]⟩] 117):=⟨_,rfl⟩;have h2:zh r g (o+5) (cap-1) (t1::us1) w2:=by rw [hw2];exact h1.alloc _
  have hs1:=hk1.size;have b1:=(hk1.block _ (by omega) (by omega)).trans b0
  have b2:w2.heap[w.heap.size]?=some prZ:=by rw [hw2];exact (Below.heap_alloc _ _ _ (by omega)).trans b1
  have bP:w2.heap[w1.heap.size]?=some (.cells #[.string (za t.s),.string ⟨#[]⟩] 117 (0,0)):=by rw [hw2];exact World.alloc_heap_new _ _
  have hP:w1.heap.size<w2.heap.size:=(Array.getElem?_eq_some_iff.1 bP).1;have HK2:Hid (zc r w w2):=show zc _ _ _ by rw [hw2];exact (k0.trans hk1).alloc _
  have cd:=Yt r g (o+5) (cap-1) t1 us1 [58] w2 h2 (fun hi=>(hE1.tail (zl hi)).ne)
  have HW2:Hid (w2=w1.alloc (.cells #[.string (za t.s),.string ⟨#[]⟩] 117)):=hw2;have HB:Hid (w2.heap[w.heap.size]?=some prZ∧w2.heap[w1.heap.size]?=some (.cells #[.string (za t.s),.string ⟨#[]⟩] 117 (0,0))):=⟨b2,bP⟩;clear hw2 h1 hk1 b0 b1 b2 bP k0 h2
  by_cases hc:zn t1 [58]=true
  ·simp only [if_pos hc] at cd
   rw [if_pos hc] at hres;have hE2:=hE1.tail (zl hc);go_wp2_with fail
   rw [←HW2.out];refine cd.mono ?_;clear cd HW2;rintro e w3 ⟨hk3,rfl,h3⟩;have ct:=hty us1 w3 _ _ ⟨t,t1,rfl⟩ hE2 h3;have HK3:Hid (zc r w2 w3):=hk3;clear hty h3 hk3;go_wp2_with fail
   refine ct.mono ?_;clear ct;rintro e w4 ⟨hk4,hpost⟩;have k24:zc r w2 w4:=HK3.out.trans hk4;cases hT:yF 0 us1 with
   | error a =>
    rw [hT] at hpost hres;simp only at hpost hres;obtain rfl:=hpost;subst hres;exact ⟨rfl,HK2.out.trans k24,rfl⟩
   | ok p =>
    obtain ⟨s,vs⟩:=p;rw [hT] at hpost hres;obtain ⟨o4,cap4,rfl,hrd⟩:=hpost;simp only at hres;subst hres;have hs2:=HK2.out.size;have hs4:=k24.size;have b4:=(k24.block _ (by omega) (by omega)).trans HB.out.1
    have c4:=(k24.block _ hP (by omega)).trans HB.out.2
    obtain ⟨-,g1,gf⟩:=zZ c4;have gf1:=gf 1;obtain ⟨w5,hw5⟩:∃w5,w5=w4.setCell ⟨w1.heap.size,1,none⟩ (.string (za s)):=⟨_,rfl⟩;have hkeep:∀k,k≠w1.heap.size→w5.heap[k]?=w4.heap[k]?:=fun k hk=>by rw [hw5];exact Below.heap_setCell _ _ _ _ (by simpa using hk)
    have c5:w5.heap[w1.heap.size]?=some (.cells #[.string (za t.s),.string (za s)] 117 (0,0)):=by rw [hw5];exact zm _ c4
    have b5:=(hkeep w.heap.size (by omega)).trans b4
    obtain ⟨d0,d1,-⟩:=zZ c5;obtain ⟨q0,q1,qf⟩:=zZ b5;have k5:zc r w w5:=by rw [hw5];exact (HK2.out.trans k24).setOther (by simp;omega) _
    have hrd5:zh r g o4 cap4 vs w5:=hrd.keep (hkeep r (by omega)) (hkeep g (by omega))
    have hw5':=hw5.symm;have b6:=zm (j:=1) (.string (za s)) (zm (j:=0) (.string (za t.s)) b5);obtain ⟨z0,z1,-⟩:=zZ (x0:=.string (za t.s)) (x1:=.string (za s)) b6
    have HP:Hid (zbp r g w (.ok ((t.s,s),vs)) (.returned (.agg #[.string (za t.s),.string (za s)])) ((w5.setCell ⟨w.heap.size,0,none⟩ (.string (za t.s))).setCell ⟨w.heap.size,1,none⟩ (.string (za s)))):=by
     refine ⟨(k5.setOther (p:=⟨w.heap.size,0,none⟩) (by simp) _).setOther (p:=⟨w.heap.size,1,none⟩) (by simp) _,o4,cap4,rfl,hrd5.keep ?_ ?_⟩
     ·rw [Below.heap_setCell _ _ _ _ (by simp;omega),Below.heap_setCell _ _ _ _ (by simp;omega)]
     ·rw [Below.heap_setCell _ _ _ _ (by simp;omega),Below.heap_setCell _ _ _ _ (by simp;omega)]
    clear hw5 hkeep b4 c4 c5 b5 b6 k5 hrd5 hrd gf hk4 k24 HB HK2 HK3;go_wp2
    exact bodyPost_ret (v:=.agg #[.string (za t.s),.string (za s)]) (by simp [results,Tryz.results97,go_sem,z0,z1]) rfl HP.out
  ·simp only [if_neg hc] at cd
   rw [if_neg hc] at hres;subst hres;go_wp2_with fail
   rw [←HW2.out];refine cd.mono ?_;clear cd;rintro e w3 ⟨hk3,rfl⟩;exact ⟨rfl,HK2.out.trans hk3,rfl⟩
 ·simp only [if_neg hk] at cn
  rw [if_neg hk] at hres;subst hres
  go_enter Tryz.func97,Tryz.ntmps97
  go_wp2_with fail
  rw [←HW0.out];refine cn.mono ?_;clear cn;rintro e w1 ⟨hk1,rfl⟩;exact ⟨rfl,k0.trans hk1,rfl⟩
abbrev Pm:=List UInt8 × List UInt8
def PmE (_:Nat→Prop) (_:World) (x:Pm) (c:List Value):Prop:=c=[.string (za x.1),.string (za x.2)]
theorem yj:yO PmE:=⟨fun h _ _=>h,fun h _=>h,fun h=>h⟩
def Zm:Nat→List Pm→List Tk→Option (PR (List Pm))
 | 0,_,_=>none
 | f+1,pre,ts =>
  match YE ts with
  | .error a=>some (.error a)
  | .ok (p,us)=>if zn (zx us) [44]=true then Zm f (pre++[p]) us.tail else some (.ok (pre++[p],us))
theorem Y0:∀(ts:List Tk) (k:Nat) (s:List UInt8) (us:List Tk),yF k ts=.ok (s,us)→zj ts→zj us∧us.length<ts.length
 | [],k,s,us,h,hE=>absurd hE (by simp [zj])
 | t::ts,k,s,us,h,hE=>by
  unfold yF at h
  split at h
  ·rename_i hi
   have:=Y0 ts (k+1) s us h (hE.tail (zl hi))
   exact ⟨this.1,by simp only [List.length_cons];omega⟩
  ·split at h
   ·rename_i hk
    unfold XZ at h
    split at h
    ·cases h
    ·rename_i vs hv
     cases h
     have hE1:=hE.tail (by omega:t.k≠0)
     refine ⟨zbn hv hE1,?_⟩
     have hl:∀(n:Nat) (a b:List Tk),yJ n a=.ok b→b.length≤a.length:=by
      intro n
      induction n with
      | zero=>intro a b h;cases h;exact Nat.le_refl _
      | succ n ih =>
       intro a b h
       unfold yJ at h
       split at h
       ·have:=ih _ _ h;simp only [List.length_tail] at this;omega
       ·cases h
     have:=hl _ _ _ hv
     simp only [List.length_cons];omega
   ·cases h
theorem Xz {ts us:List Tk} {p:Pm} (h:YE ts=.ok (p,us)) (hE:zj ts):zj us∧us.length<ts.length:=by
 obtain ⟨t,ts1,rfl⟩:=hE.cons
 unfold YE at h
 simp only [zI,List.tail_cons] at h
 split at h
 ·rename_i hk
  have hE1:=hE.tail (by omega:t.k≠0)
  obtain ⟨t1,ts2,rfl⟩:=hE1.cons;simp only [zI,List.tail_cons] at h
  split at h
  ·rename_i hi
   split at h
   ·cases h
   ·rename_i s vs hv
    cases h
    have:=Y0 _ _ _ _ hv (hE1.tail (zl hi))
    exact ⟨this.1,by simp only [List.length_cons];omega⟩
  ·cases h
 ·cases h
def UM (f:Nat) (l:List Pm) (ts:List Tk):Option (PR (List Pm)):=if zn (zx ts) [44]=true then Zm f l ts.tail else some (.ok (l,ts))
def zbq (r g:Nat) (w:World) (res:PR (List Pm)) (e:Ending) (w':World):Prop :=
 zc r w w'∧match res with
  | .error a=>e=Z2 a
  | .ok (l,ts)=>∃v g1 cap1 us o cap,e=.returned v∧Zu PmE 2 117 w.heap.size w' l v g1 cap1 us∧zh r g o cap ts w'
theorem qg:(Tryz.prog.info? 117).map (fun i=>(i.zero,i.size,i.bytes))=some (some (.agg #[.string ⟨#[]⟩,.string ⟨#[]⟩]),2,32):=by kernel_rfl
theorem zfB (r g o cap F:Nat) (ts:List Tk) (w:World) (res:PR (List Pm)) (h:zh r g o cap ts w) (hE:zj ts) (hp:Zm (F+1) [] ts=some res)
  (hone:∀w1 o1 cap1 ts1,zj ts1→zh r g o1 cap1 ts1 w1→zc r w w1→Calls Tryz.prog 97 #[.pointer (some ⟨r,0,none⟩)] w1 (zbp r g w1 (YE ts1))) :
  Calls Tryz.prog 96 #[.pointer (some ⟨r,0,none⟩),.func (.func 97) #[.pointer (some ⟨r,0,none⟩)] #[]] w (zbq r g w res):=by
 obtain ⟨i0,hi0,hz0,hz1,hz2⟩:=info_parts qg;obtain ⟨t0,ts0,rfl⟩:=hE.cons;have hr:=h.lt.1;have hgw:=h.lt.2;have hN:=h.few;have c1:=hone w o cap (t0::ts0) hE h (zc.refl r w);rw [Zm] at hp;cases hb:YE (t0::ts0) with
 | error a =>
  rw [hb] at hp c1;simp only [Option.some.injEq] at hp;subst hp
  go_enter Tryz.func96,Tryz.ntmps96
  go_wp2_with fail
  refine c1.mono ?_;clear c1;rintro e w1 ⟨hk1,hpost⟩;obtain rfl:=hpost;exact ⟨rfl,hk1,rfl⟩
 | ok q =>
  obtain ⟨x,us⟩:=q;rw [hb] at hp c1;simp only at hp
  go_enter Tryz.func96,Tryz.ntmps96
  go_wp2_with fail
  refine c1.mono ?_;clear c1;rintro e w1 ⟨hk1,hpost⟩;obtain ⟨o1,cap1,rfl,hrd⟩:=hpost;obtain ⟨hE1,hl1⟩:=Xz hb hE;have HP:Hid (UM F [x] us=some res):=hp;obtain ⟨t1,ts1,rfl⟩:=hE1.cons
  have HR1:Hid (Zu PmE 2 117 w.heap.size (w1.alloc (.cells #[.string (za x.1),.string (za x.2)] 117)) [x] (.slice (some ⟨w1.heap.size,0,none⟩) 1 1) w1.heap.size 1 [[.string (za x.1),.string (za x.2)]]) :=
   Zu.first yj (c:=[.string (za x.1),.string (za x.2)]) rfl rfl hk1.size
  have HD1:Hid (zh r g o1 cap1 (t1::ts1) (w1.alloc (.cells #[.string (za x.1),.string (za x.2)] 117))):=hrd.alloc _;have HK1:Hid (zc r w (w1.alloc (.cells #[.string (za x.1),.string (za x.2)] 117))):=hk1.alloc _;have HE1:Hid (zj (t1::ts1)):=hE1;have hn:ts1.length+2≤1099511627776:=by simp only [List.length_cons] at hl1 hN;omega
  have HONE:Hid (∀w1 o1 cap1 ts1,zj ts1→zh r g o1 cap1 ts1 w1→zc r w w1→Calls Tryz.prog 97 #[.pointer (some ⟨r,0,none⟩)] w1 (zbp r g w1 (YE ts1))):=hone;clear hrd hk1 hE1 hone hp hb hE hN h hl1;go_wp2_with fail
  go_loopw [5] (fun v wr=>∃(L:List Pm) (g1 cap1:Nat) (us:List (List Value)) (o2 cap2:Nat) (ts2:List Tk) (f2:Nat),UM f2 L ts2=some res∧zj ts2∧L.length+ts2.length≤1099511627776∧Zu PmE 2 117 w.heap.size wr L v g1 cap1 us∧zh r g o2 cap2 ts2 wr∧zc r w wr) (fun _ wr=>yu r wr)
  case atStart=>exact ⟨[x],_,_,_,o1,cap1,t1::ts1,F,HP.out,HE1.out,by simp only [List.length_cons,List.length_nil];omega,HR1.out,HD1.out,HK1.out⟩
  case round =>
   obtain ⟨L,g1,cp1,us,o2,cap2,ts2,f2,hT,hE2,hN2,hrow,hrd2,hk2⟩:=hrel;clear HP HR1 HD1 HK1 HE1 hn;obtain ⟨t2,ts3,rfl⟩:=hE2.cons;have cs:=ZL r g o2 cap2 t2 ts3 [44] wr hrd2 (fun hi=>(hE2.tail (zl hi)).ne)
   have hleft:=hrd2.left;have HROW:Hid (Zu PmE 2 117 w.heap.size wr L _ g1 cp1 us):=hrow;have HK2:Hid (zc r w wr):=hk2;have hval:=hrow.val;subst hval
   unfold UM at hT
   simp only [zI,List.tail_cons] at hT
   by_cases hi:zn t2 [44]=true
   ·rw [hi] at cs
    rw [if_pos hi] at hT;have hE3:=hE2.tail (zl hi);clear hrow hk2 hrd2 hE2;go_wp2_with fail
    refine cs.mono ?_;clear cs;rintro e w3 ⟨rfl,hk3,h3⟩;simp only [if_true] at h3;have hkk:zc r w w3:=HK2.out.trans hk3;have hrow3:=HROW.out.kept yj hk3.size fun k hB hlt=>hk3.block k hlt (by omega)
    cases f2 with
    | zero=>simp [Zm] at hT
    | succ f3 =>
     rw [Zm] at hT;have c3:=HONE.out w3 _ _ ts3 hE3 h3 hkk;have hg3:=hrow3.block;have HROW3:Hid (Zu PmE 2 117 w.heap.size w3 L _ g1 cp1 us):=hrow3;have HK3:Hid (zc r w w3):=hkk;clear hrow3 hkk hk3 h3 HROW HK2;cases hb3:YE ts3 with
     | error a =>
      rw [hb3] at hT c3;simp only [Option.some.injEq] at hT;subst hT;go_wp2_with fail
      refine c3.mono ?_;clear c3;rintro e w4 ⟨hk4,hpost⟩;obtain rfl:=hpost;exact ⟨rfl,HK3.out.trans hk4,rfl⟩
     | ok q =>
      obtain ⟨x3,us3⟩:=q;rw [hb3] at hT c3;simp only at hT;go_wp2_with fail
      refine c3.mono ?_;clear c3;rintro e w4 ⟨hk4,hpost⟩;have HK4:Hid (zc r w w4):=HK3.out.trans hk4;obtain ⟨o4,cap4,rfl,hrd⟩:=hpost;have hrow4:=HROW3.out.kept yj hk4.size fun k hB hlt=>hk4.block k hlt (by omega)
      have HROW4:Hid (Zu PmE 2 117 w.heap.size w4 L _ g1 cp1 us):=hrow4;have HRD:Hid (zh r g o4 cap4 us3 w4):=hrd;obtain ⟨hE5,hl5⟩:=Xz hb3 hE3;have HOWN:=(hrow4.own.alloc (.cells #[.string (za x3.1),.string (za x3.2)] 117));have HT:Hid (UM f3 (L++[x3]) us3=some res):=hT;have hsz4:w.heap.size≤w4.heap.size:=HK4.out.size;clear hrow4 hrd hT hk4
      go_wp2_with (at_builtin;refine wpList_append_own_at _ rfl _ _ 69 rfl w.heap.size 117 i0 _ 2 32 Tryz.underlying69 hi0 hz0 hz1 hz2 rfl (by decide) _ _ _ rfl HOWN ⟨w4.heap.size,0,none⟩ 1 1 [.string (za x3.1),.string (za x3.2)] rfl rfl (Zl _ _ _) (by simp [Value.oneCell']) (by unfold maxLen;simp only [List.length_cons] at hN2;omega) (by simp only [List.length_cons] at hN2;omega) (by simp;omega) ?_;intro v' w5 hown' hgrow _ hat)
      obtain ⟨g5,cap5,hrow5,hg5⟩:=HROW4.out.snoc yj (x:=x3) (c:=[.string (za x3.1),.string (za x3.2)]) rfl rfl hown' hgrow hat
      have hgr5:(w4.alloc (.cells #[.string (za x3.1),.string (za x3.2)] 117)).grownBy w5 (some g1):=hgrow;have hk5:zc r w w5:=(HK4.out.alloc _).grown hgr5 fun k hk=>by have:=Option.some.inj hk;omega
      have hr4:w.heap.size≤w4.heap.size:=HK4.out.size;have hrd5:zh r g o4 cap4 us3 w5:=HRD.out.keep ((hgr5.block r (by simp;omega) (fun e=>by have:=Option.some.inj e;omega)).trans (Below.heap_alloc _ _ _ (by omega))) ((hgr5.block g (by simp;omega) (fun e=>by have:=Option.some.inj e;omega)).trans (Below.heap_alloc _ _ _ (by omega)))
      refine ⟨⟨L++[x3],g5,cap5,_,o4,cap4,us3,f3,HT.out,hE5,?_,hrow5,hrd5,hk5⟩,?_⟩
      ·simp only [List.length_append,List.length_cons,List.length_nil] at hN2 ⊢;omega
      ·rw [hrd5.left,hleft];simp only [List.length_cons];omega
   ·have hi':zn t2 [44]=false:=by simpa using hi
    rw [hi'] at cs;rw [if_neg hi] at hT;clear hrow hk2 hrd2 hE2;go_wp2_with fail
    refine cs.mono ?_;clear cs;rintro e w3 ⟨rfl,hk3,h3⟩;have HK3:Hid (zc r w w3):=HK2.out.trans hk3;have HROW3:Hid (Zu PmE 2 117 w.heap.size w3 L (.slice (some ⟨g1,0,none⟩) L.length cp1) g1 cp1 us):=HROW.out.kept yj hk3.size fun k hB hlt=>hk3.block k hlt (by omega)
    have HR3:Hid (zh r g o2 cap2 (t2::ts3) w3):=show zh _ _ _ _ _ _ by simpa using h3
    simp only [Option.some.injEq] at hT;subst hT;clear hk3 h3;go_wp2
    refine bodyPost_ret (v:=.slice (some ⟨g1,0,none⟩) L.length cp1) (by simp [results,Tryz.results96,go_sem]) rfl ⟨HK3.out,_,_,_,_,_,_,rfl,HROW3.out,HR3.out⟩
def ye (B:Nat) (w:World) (l:List Pm) (v:Value):Prop :=
 (l=[]∧v=.slice none 0 0)∨∃g cap us,Zu PmE 2 117 B w l v g cap us
theorem ye.kept {B:Nat} {w w':World} {l:List Pm} {v:Value} (h:ye B w l v) (hs:w.heap.size≤w'.heap.size) (hb:∀k,B≤k→k<w.heap.size→w'.heap[k]?=w.heap[k]?):ye B w' l v:=by
 rcases h with h | ⟨g,cap,us,h⟩
 ·exact .inl h
 ·exact .inr ⟨g,cap,us,h.kept yj hs hb⟩
theorem ye.mono {B B':Nat} {w:World} {l:List Pm} {v:Value} (h:ye B w l v) (hb:B'≤B):ye B' w l v:=by
 rcases h with h | ⟨g,cap,us,h⟩
 ·exact .inl h
 ·refine .inr ⟨g,cap,us,h.val,h.ne,?_,h.len,h.wid,h.kids⟩
  refine ⟨h.own.1,?_⟩;rcases h.own.2 with h1 | ⟨g',cap',cur,h1,h2,h3⟩
  ·exact .inl h1
  ·exact .inr ⟨g',cap',cur,h1,Nat.le_trans hb h2,h3⟩
def zdF (r g:Nat) (w:World) (res:PR (List Pm)) (e:Ending) (w':World):Prop :=
 zc r w w'∧match res with
  | .error a=>e=Z2 a
  | .ok (l,ts)=>∃v o cap,e=.returned v∧ye w.heap.size w' l v∧zh r g o cap ts w'
def Y8 (t:Tk) (ts:List Tk) (res:PR (List Pm)):PR (List Pm) :=
 if zn t [40]=true then
  if zn (zx ts) [41]=true then .ok ([],ts.tail) else
  match res with
  | .error a=>.error a
  | .ok (l,us)=>if zn (zx us) [41]=true then .ok (l,us.tail) else .error (zx us).at0
 else .error t.at0
theorem vT (r g o cap:Nat) (f:Value) (t:Tk) (ts:List Tk) (w:World) (res:PR (List Pm)) (h:zh r g o cap (t::ts) w) (hE:zj (t::ts)) (hEnd:∀l us,res=.ok (l,us)→zj us)
  (hrow:zn t [40]=true→zn (zx ts) [41]=false→∀w1 o1 cap1,zh r g o1 cap1 ts w1→zc r w w1→Calls Tryz.prog 96 #[.pointer (some ⟨r,0,none⟩),f] w1 (zbq r g w1 res)) :
  Calls Tryz.prog 98 #[.pointer (some ⟨r,0,none⟩),f] w (zdF r g w (Y8 t ts res)):=by
 have hr:=h.lt.1;have cn:=Yt r g o cap t ts [40] w h (fun hi=>(hE.tail (zl hi)).ne)
 clear h
 unfold Y8
 by_cases hi:zn t [40]=true
 ·simp only [if_pos hi] at cn ⊢
  have hE1:=hE.tail (zl hi);obtain ⟨t1,ts1,rfl⟩:=hE1.cons;simp only [zI,List.tail_cons] at hrow ⊢
  by_cases hj:zn t1 [41]=true
  ·simp only [if_pos hj]
   clear hrow hEnd
   go_enter Tryz.func98,Tryz.ntmps98
   go_wp2_with fail
   refine cn.mono ?_;clear cn;rintro e w1 ⟨hk1,rfl,h1⟩;have cs:=ZL r g _ _ t1 ts1 [41] w1 h1 (fun hi=>(hE1.tail (zl hi)).ne)
   have HK1:Hid (zc r w w1):=hk1;rw [hj] at cs;clear h1 hk1;go_wp2_with fail
   refine cs.mono ?_;clear cs;rintro e w2 ⟨rfl,hk2,h2⟩;have HK2:Hid (zc r w w2):=HK1.out.trans hk2;have h2':zh r g (o+5+5) (cap-1-1) ts1 w2:=by simpa using h2
   have HR2:Hid (zh r g (o+5+5) (cap-1-1) ts1 w2):=h2';clear h2 h2' hk2;go_wp2
   refine bodyPost_ret (v:=.slice none 0 0) (by simp [results,Tryz.results98,go_sem]) rfl ⟨HK2.out,_,_,_,rfl,.inl ⟨rfl,rfl⟩,HR2.out⟩
  ·have hj':zn t1 [41]=false:=by simpa using hj
   simp only [if_neg hj]
   go_enter Tryz.func98,Tryz.ntmps98
   go_wp2_with fail
   refine cn.mono ?_;clear cn;rintro e w1 ⟨hk1,rfl,h1⟩;have cs:=ZL r g _ _ t1 ts1 [41] w1 h1 (fun hi=>(hE1.tail (zl hi)).ne)
   have HK1:Hid (zc r w w1):=hk1;rw [hj'] at cs;clear h1 hk1;go_wp2_with fail
   refine cs.mono ?_;clear cs;rintro e w2 ⟨rfl,hk2,h2⟩;have hkk:zc r w w2:=HK1.out.trans hk2;have HK2:Hid (zc r w w2):=hkk;have cr:=hrow hi hj' w2 _ _ (by simpa using h2) hkk
   clear h2 hk2 hkk hrow;go_wp2_with fail
   refine cr.mono ?_;clear cr;rintro e w3 ⟨hk3,hpost⟩;have HK3:Hid (zc r w w3):=HK2.out.trans hk3;rcases res with a | ⟨l,us⟩
   ·obtain rfl:=hpost
    exact ⟨rfl,HK3.out,rfl⟩
   ·obtain ⟨v,g1,cap1,us1,o3,cap3,rfl,hrw0,hrd⟩:=hpost
    have hrw:ye w2.heap.size w3 l v:=.inr ⟨g1,cap1,us1,hrw0⟩;clear hrw0;have hE3:=hEnd l us rfl;obtain ⟨t3,ts3,rfl⟩:=hE3.cons;have cn2:=Yt r g o3 cap3 t3 ts3 [41] w3 hrd (fun hi=>(hE3.tail (zl hi)).ne)
    have hsz:w.heap.size≤w2.heap.size:=HK2.out.size;have hr2:r<w2.heap.size:=by omega
    have HRow:Hid (ye w2.heap.size w3 l v):=hrw;clear hrd hrw hk3 hEnd
    by_cases hm:zn t3 [41]=true
    ·simp only [if_pos hm] at cn2
     go_wp2_with fail
     refine cn2.mono ?_;clear cn2;rintro e w4 ⟨hk4,rfl,h4⟩;have HK4:Hid (zc r w w4):=HK3.out.trans hk4;have HRow4:Hid (ye w2.heap.size w4 l v):=ye.kept HRow.out hk4.size fun k hB hlt=>hk4.block k hlt (by omega)
     have HR4:Hid (zh r g (o3+5) (cap3-1) ts3 w4):=h4;clear hk4 h4;go_wp2
     refine bodyPost_ret (v:=v) (by simp [results,Tryz.results98,go_sem]) rfl ⟨HK4.out,_,_,_,rfl,ye.mono HRow4.out hsz,HR4.out⟩
    ·simp only [if_neg hm] at cn2
     have hm':zn t3 [41]=false:=by simpa using hm
     go_wp2_with fail
     refine cn2.mono ?_;clear cn2;rintro e w4 ⟨hk4,rfl⟩;refine ⟨rfl,HK3.out.trans hk4,?_⟩;simp only [zI,hm',Bool.false_eq_true,if_false]
 ·simp only [if_neg hi] at cn ⊢
  clear hrow hEnd
  go_enter Tryz.func98,Tryz.ntmps98
  go_wp2_with fail
  refine cn.mono ?_;clear cn;rintro e w1 ⟨hk1,rfl⟩;exact ⟨rfl,hk1,rfl⟩
end Go.Proofs.YtpejpbbdgblbeaaGreatDoor
