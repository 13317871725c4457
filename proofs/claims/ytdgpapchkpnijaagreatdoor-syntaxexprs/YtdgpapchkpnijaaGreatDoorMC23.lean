import Derived.Test.YtdgpapchkpnijaaGreatDoorMC18
import Derived.Test.YtdgpapchkpnijaaGreatDoorMC15
import Derived.Test.YtdgpapchkpnijaaGreatDoorMC17
namespace Go.Proofs.YtdgpapchkpnijaaGreatDoor
open Go.RowKit Go.Shelf
set_option maxHeartbeats 16000000
set_option maxRecDepth 100000
theorem zcR (a b:List UInt8):za a++za b=za (a++b):=by
 apply ByteArray.ext
 rw [ByteArray.data_append]
 unfold za
 simp
def YO:Nat→List Tk→Except Nat (List Tk)
 | 0,ts=>.ok ts
 | n+1,ts=>if zo (zz ts) [93]=true then YO n ts.tail else .error (zz ts).at0
def Qm (k:Nat) (s:List UInt8):Except Nat (List Tk)→PR (List UInt8)
 | .error a=>.error a
 | .ok vs=>.ok (List.replicate k 91++s++List.replicate k 93,vs)
def YI (k:Nat):List Tk→PR (List UInt8)
 | []=>.error 0
 | t::ts=>if zo t [91]=true then YI (k+1) ts else if t.k=1 then Qm k t.s (YO k ts) else .error t.at0
theorem Qn {n:Nat}:∀{ts us:List Tk},YO n ts=.ok us→zk ts→zk us:=by
 induction n with
 | zero=>intro ts us h hE;cases h;exact hE
 | succ n ih =>
  intro ts us h hE
  unfold YO at h
  split at h
  ·rename_i hi;exact ih h (zU hE hi)
  ·cases h
def Qo (r g:Nat) (w:World) (res:PR (List UInt8)) (e:Ending) (w':World):Prop :=
 zb r w w'∧match res with
  | .error a=>e=ZF a
  | .ok (s,ts)=>∃o cap,e=.returned (.string (za s))∧zg r g o cap ts w'
theorem zeA (r g o cap:Nat) (ts:List Tk) (w:World) (h:zg r g o cap ts w) (hE:zk ts) (hshort:∀t∈ts,NmT t)
  (hrep:∀(c:UInt8) (n:Nat) (w:World),n≤1099511627776→Calls Tryz.prog 141 #[.string ⟨#[c]⟩,.int .i64 n] w fun e w'=>e=.returned (.string (za (List.replicate n c)))∧Below w.heap.size w w') :
  Calls Tryz.prog 106 #[.pointer (some ⟨r,0,none⟩)] w (Qo r g w (YI 0 ts)):=by
 generalize hres:YI 0 ts=R;obtain ⟨t0,ts0,hts⟩:=hE.cons;have hr:r<w.heap.size:=by rw [hts] at h;exact h.lt.1
 have hgw:g<w.heap.size:=by rw [hts] at h;exact h.lt.2
 have hfew:=h.few;have HD:Hid (zg r g o cap ts w):=h;have HRES:Hid (YI 0 ts=R):=hres;have HE:Hid (zk ts):=hE;have HSH:Hid (∀t∈ts,NmT t):=hshort;have HREP:Hid (∀(c:UInt8) (n:Nat) (w:World),n≤1099511627776→Calls Tryz.prog 141 #[.string ⟨#[c]⟩,.int .i64 n] w fun e w'=>e=.returned (.string (za (List.replicate n c)))∧Below w.heap.size w w'):=hrep
 clear h hres hE hts hrep hshort
 go_enter Tryz.func106,Tryz.ntmps106
 go_wp2_with fail
 go_loopw [3] (fun d wr=>∃(k:Nat) (ts2:List Tk) (o2 cap2:Nat),d=.int .i64 k∧YI k ts2=R∧zk ts2∧k+ts2.length≤1099511627776∧zg r g o2 cap2 ts2 wr∧zb r w wr∧∀t∈ts2,NmT t) (fun _ wr=>ZQ r wr)
 case atStart=>exact ⟨0,ts,o,cap,rfl,HRES.out,HE.out,by omega,HD.out,zb.refl _ _,HSH.out⟩
 case round =>
  obtain ⟨k,ts2,o2,cap2,rfl,hT,hE2,hN,hrd,hk,hsh⟩:=hrel;obtain ⟨t2,ts3,rfl⟩:=hE2.cons;have cs:=Zu r g o2 cap2 t2 ts3 [91] wr hrd (fun hi=>(hE2.tail (zi hi)).ne)
  have hleft:=hrd.left;have HK:Hid (zb r w wr):=hk;have HSN:Hid (t2.k=1→t2.s.length≤1099511627776):=hsh t2 (by simp)
  have HSH2:Hid (∀t∈ts3,NmT t):=fun t ht=>hsh t (by simp [ht])
  clear HD HRES HE hrd hk hsh HSH
  unfold YI at hT
  simp only [List.length_cons] at hN
  by_cases hi:zo t2 [91]=true
  ·rw [hi] at cs
   rw [if_pos hi] at hT;have hE3:=hE2.tail (zi hi);have hwr:IntKind.i64.wrap ((k:Int)+1)=(k:Int)+1:=by rw [IntKind.wrap_i64];omega
   go_wp2_with fail
   refine cs.mono ?_;clear cs;rintro e w3 ⟨rfl,hk3,h3⟩;have h3':zg r g (o2+5) (cap2-1) ts3 w3:=by simpa using h3
   have HR3:Hid (zg r g (o2+5) (cap2-1) ts3 w3):=h3';have HK3:Hid (zb r w w3):=HK.out.trans hk3;clear h3 h3' hk3;go_wp2
   refine ⟨⟨k+1,ts3,_,_,by go_num,hT,hE3,by omega,HR3.out,HK3.out,HSH2.out⟩,?_⟩
   rw [HR3.out.left,hleft];simp
  ·have hi':zo t2 [91]=false:=by simpa using hi
   rw [hi'] at cs;rw [if_neg hi] at hT;go_wp2_with fail
   refine cs.mono ?_;clear cs;rintro e w3 ⟨rfl,hk3,h3⟩;have h3':zg r g o2 cap2 (t2::ts3) w3:=by simpa using h3
   have HK3:Hid (zb r w w3):=HK.out.trans hk3;have cn:=xe r g o2 cap2 t2 ts3 w3 h3' (fun hk=>(hE2.tail (by omega)).ne)
   clear h3 h3' hk3
   by_cases h1:t2.k=1
   ·have hsn:t2.s.length≤1099511627776:=HSN.out h1
    simp only [if_pos h1] at cn;rw [if_pos h1] at hT;have hE3:=hE2.tail (by omega:t2.k≠0)
    go_wp2_with fail
    refine cn.mono ?_;clear cn;rintro e w4 ⟨hk4,rfl,h4⟩;have HK4:Hid (zb r w w4):=HK3.out.trans hk4;have HR4:Hid (zg r g (o2+5) (cap2-1) ts3 w4):=h4;clear hk4 h4;go_wp2_with fail
    obtain ⟨C,hC⟩:∃C,C=YO k ts3:=⟨_,rfl⟩;rw [←hC] at hT;have HT:Hid (Qm k t2.s C=R):=hT;have HC:Hid (C=YO k ts3):=hC;have HE3:Hid (zk ts3):=hE3;have hkn:k≤1099511627776:=by omega
    clear hT hC hE3 hE2 hN hleft HK
    go_loopw [12] (fun v wq=>∃(i:Nat) (ts5:List Tk) (o5 cap5:Nat),v=.int .i64 i∧i≤k∧C=YO (k-i) ts5∧zk ts5∧zg r g o5 cap5 ts5 wq∧zb r w wq) (fun v _=>k-(intOf v).toNat)
    case atStart=>exact ⟨0,ts3,_,_,rfl,Nat.zero_le _,HC.out,HE3.out,HR4.out,HK4.out⟩
    case round =>
     obtain ⟨i,ts5,o5,cap5,rfl,hi5,hC5,hE5,hrd5,hk5⟩:=hrel;obtain ⟨t5,ts6,rfl⟩:=hE5.cons;have hrd5':=hrd5;have HK5:Hid (zb r w _):=hk5;clear HC HE3 HR4 HK4 HK3
     by_cases hlt:i<k
     ·have hlt':(i:Int)<(k:Int):=by omega
      have cn:=yF r g o5 cap5 t5 ts6 [93] _ hrd5 (fun hi=>(hE5.tail (zi hi)).ne)
      rw [show k-i=(k-i-1)+1 by omega] at hC5
      simp only [YO,zC,List.tail_cons] at hC5;have hwr:IntKind.i64.wrap ((i:Int)+1)=(i:Int)+1:=by rw [IntKind.wrap_i64];omega
      clear hrd5 hrd5' hk5
      by_cases hm:zo t5 [93]=true
      ·simp only [if_pos hm] at cn
       rw [if_pos hm] at hC5;have HC5:Hid (C=YO (k-i-1) ts6):=hC5;have HE5:Hid (zk ts6):=hE5.tail (zi hm);clear hC5 hE5;go_wp2_with fail
       refine cn.mono ?_;clear cn;rintro e w6 ⟨hk6,rfl,h6⟩;have HK6:Hid (zb r w w6):=HK5.out.trans hk6;have HR6:Hid (zg r g (o5+5) (cap5-1) ts6 w6):=h6;clear hk6 h6;go_wp2
       exact ⟨⟨i+1,ts6,_,_,by go_num,by omega,by rw [HC5.out,show k-(i+1)=k-i-1 by omega],HE5.out,HR6.out,HK6.out⟩,by simp [intOf];omega⟩
      ·simp only [if_neg hm] at cn
       rw [if_neg hm] at hC5;have hR:=HT.out;rw [hC5] at hR;simp only [Qm] at hR;subst hR;go_wp2_with fail
       refine cn.mono ?_;clear cn;rintro e w6 ⟨hk6,rfl⟩;exact ⟨rfl,HK5.out.trans hk6,rfl⟩
     ·have hlt':¬(i:Int)<(k:Int):=by omega
      rw [show k-i=0 by omega] at hC5
      simp only [YO] at hC5;have hR:=HT.out;rw [hC5] at hR;simp only [Qm] at hR;subst hR;have HR5:Hid (zg r g o5 cap5 (t5::ts6) wr):=hrd5;have c1:=HREP.out 91 k wr hkn;have hz1:(za (List.replicate k 91)).size=k:=by rw [Zd,List.length_replicate]
      have hz2:(za t2.s).size=t2.s.length:=Zd _;have hz3:(za (List.replicate k 93)).size=k:=by rw [Zd,List.length_replicate]
      have hz4:(za (List.replicate k 91)++za t2.s).size=k+t2.s.length:=by rw [zcR,Zd,List.length_append,List.length_replicate]
      clear hrd5 hrd5' hk5 hC5 hE5 HT;go_wp2_with fail
      refine c1.mono ?_;clear c1;rintro e w6 ⟨rfl,hb6⟩;have hk6:zb r w w6:=HK5.out.trans (zb.of hb6);have hr6:zg r g o5 cap5 (t5::ts6) w6:=HR5.out.keep (hb6.block _ HR5.out.lt.1) (hb6.block _ HR5.out.lt.2);have c2:=HREP.out 93 k w6 hkn;have HK6:Hid (zb r w w6):=hk6;have HR6:Hid (zg r g o5 cap5 (t5::ts6) w6):=hr6;clear hk6 hr6 hb6;go_wp2_with fail
      refine c2.mono ?_;clear c2;rintro e w7 ⟨rfl,hb7⟩;have HK7:Hid (zb r w w7):=HK6.out.trans (zb.of hb7);have HR7:Hid (zg r g o5 cap5 (t5::ts6) w7):=HR6.out.keep (hb7.block _ HR6.out.lt.1) (hb7.block _ HR6.out.lt.2);clear hb7;go_wp2
      refine bodyPost_ret (v:=.string (za (List.replicate k 91)++za t2.s++za (List.replicate k 93))) (by simp [results,Tryz.results106,go_sem]) rfl ⟨HK7.out,_,_,?_,HR7.out⟩
      rw [zcR,zcR]
   ·simp only [if_neg h1] at cn
    rw [if_neg h1] at hT;subst hT;go_wp2_with fail
    refine cn.mono ?_;clear cn;rintro e w4 ⟨hk4,rfl⟩;exact ⟨rfl,HK3.out.trans hk4,rfl⟩
def Yj (ts:List Tk):PR (List UInt8 × List UInt8) :=
 if (zz ts).k=1 then
  if zo (zz ts.tail) [58]=true then
   match YI 0 ts.tail.tail with
   | .error a=>.error a
   | .ok (s,us)=>.ok (((zz ts).s,s),us)
  else .error (zz ts.tail).at0
 else .error (zz ts).at0
def Qp (r g:Nat) (w:World) (res:PR (List UInt8 × List UInt8)) (e:Ending) (w':World):Prop :=
 zb r w w'∧match res with
  | .error a=>e=ZF a
  | .ok (p,ts)=>∃o cap,e=.returned (.agg #[.string (za p.1),.string (za p.2)])∧zg r g o cap ts w'
abbrev prZ:Obj:=.cells #[.string ⟨#[]⟩,.string ⟨#[]⟩] 121
theorem ZL {w:World} {N:Nat} {x0 x1:Value} {ty:TypeId} (h:w.heap[N]?=some (.cells #[x0,x1] ty (0,0))) :
  w.cell? ⟨N,0,none⟩=some x0∧w.cell? ⟨N,1,none⟩=some x1∧∀j,w.frozen? ⟨N,j,none⟩=false:=by
 refine ⟨?_,?_,fun j=>?_⟩
 ·simp only [World.cell?,h];rfl
 ·simp only [World.cell?,h];rfl
 ·simp only [World.frozen?,h];simp
theorem zdT (r g o cap:Nat) (ts:List Tk) (w:World) (h:zg r g o cap ts w) (hE:zk ts)
  (hty:∀us w1 o1 cap1,(∃a b,ts=a::b::us)→zk us→zg r g o1 cap1 us w1→Calls Tryz.prog 106 #[.pointer (some ⟨r,0,none⟩)] w1 (Qo r g w1 (YI 0 us))) :
  Calls Tryz.prog 104 #[.pointer (some ⟨r,0,none⟩)] w (Qp r g w (Yj ts)):=by
 generalize hres:Yj ts=R;obtain ⟨t,us,rfl⟩:=hE.cons;have hr:=h.lt.1;have hgw:=h.lt.2;obtain ⟨w0,hw0⟩:∃w0,w0=w.alloc prZ:=⟨_,rfl⟩;have h0:zg r g o cap (t::us) w0:=by rw [hw0];exact h.alloc _
 have k0:zb r w w0:=by rw [hw0];exact (zb.refl r w).alloc _
 have b0:w0.heap[w.heap.size]?=some prZ:=by rw [hw0];exact World.alloc_heap_new _ _
 have hs0:w0.heap.size=w.heap.size+1:=by rw [hw0];simp
 have cn:=xe r g o cap t us w0 h0 (fun hk=>(hE.tail (by omega)).ne)
 have HW0:Hid (w0=w.alloc prZ):=hw0
 unfold Yj at hres
 simp only [zC,List.tail_cons] at hres;clear h h0 hw0
 by_cases hk:t.k=1
 ·simp only [if_pos hk] at cn
  rw [if_pos hk] at hres;have hE1:=hE.tail (by omega:t.k≠0)
  obtain ⟨t1,us1,rfl⟩:=hE1.cons;simp only [zC,List.tail_cons] at hres
  go_enter Tryz.func104,Tryz.ntmps104
  go_wp2_with fail
  rw [←HW0.out];refine cn.mono ?_;clear cn HW0;rintro e w1 ⟨hk1,rfl,h1⟩;obtain ⟨w2,hw2⟩:∃w2,w2=w1.alloc (.cells #[.string (za t.s),.string ⟨#[]⟩] 121):=⟨_,rfl⟩;have h2:zg r g (o+5) (cap-1) (t1::us1) w2:=by rw [hw2];exact h1.alloc _
  have hs1:=hk1.size;have b1:=(hk1.block _ (by omega) (by omega)).trans b0
  have b2:w2.heap[w.heap.size]?=some prZ:=by rw [hw2];exact (Below.heap_alloc _ _ _ (by omega)).trans b1
  have bP:w2.heap[w1.heap.size]?=some (.cells #[.string (za t.s),.string ⟨#[]⟩] 121 (0,0)):=by rw [hw2];exact World.alloc_heap_new _ _
  have hP:w1.heap.size<w2.heap.size:=(Array.getElem?_eq_some_iff.1 bP).1;have HK2:Hid (zb r w w2):=show zb _ _ _ by rw [hw2];exact (k0.trans hk1).alloc _
  have cd:=yF r g (o+5) (cap-1) t1 us1 [58] w2 h2 (fun hi=>(hE1.tail (zi hi)).ne)
  have HW2:Hid (w2=w1.alloc (.cells #[.string (za t.s),.string ⟨#[]⟩] 121)):=hw2;have HB:Hid (w2.heap[w.heap.size]?=some prZ∧w2.heap[w1.heap.size]?=some (.cells #[.string (za t.s),.string ⟨#[]⟩] 121 (0,0))):=⟨b2,bP⟩;clear hw2 h1 hk1 b0 b1 b2 bP k0 h2
  by_cases hc:zo t1 [58]=true
  ·simp only [if_pos hc] at cd
   rw [if_pos hc] at hres;have hE2:=hE1.tail (zi hc);go_wp2_with fail
   rw [←HW2.out];refine cd.mono ?_;clear cd HW2;rintro e w3 ⟨hk3,rfl,h3⟩;have ct:=hty us1 w3 _ _ ⟨t,t1,rfl⟩ hE2 h3;have HK3:Hid (zb r w2 w3):=hk3;clear hty h3 hk3;go_wp2_with fail
   refine ct.mono ?_;clear ct;rintro e w4 ⟨hk4,hpost⟩;have k24:zb r w2 w4:=HK3.out.trans hk4;cases hT:YI 0 us1 with
   | error a =>
    rw [hT] at hpost hres;simp only at hpost hres;obtain rfl:=hpost;subst hres;exact ⟨rfl,HK2.out.trans k24,rfl⟩
   | ok p =>
    obtain ⟨s,vs⟩:=p;rw [hT] at hpost hres;obtain ⟨o4,cap4,rfl,hrd⟩:=hpost;simp only at hres;subst hres;have hs2:=HK2.out.size;have hs4:=k24.size;have b4:=(k24.block _ (by omega) (by omega)).trans HB.out.1
    have c4:=(k24.block _ hP (by omega)).trans HB.out.2
    obtain ⟨-,g1,gf⟩:=ZL c4;have gf1:=gf 1;obtain ⟨w5,hw5⟩:∃w5,w5=w4.setCell ⟨w1.heap.size,1,none⟩ (.string (za s)):=⟨_,rfl⟩;have hkeep:∀k,k≠w1.heap.size→w5.heap[k]?=w4.heap[k]?:=fun k hk=>by rw [hw5];exact Below.heap_setCell _ _ _ _ (by simpa using hk)
    have c5:w5.heap[w1.heap.size]?=some (.cells #[.string (za t.s),.string (za s)] 121 (0,0)):=by rw [hw5];exact zp _ c4
    have b5:=(hkeep w.heap.size (by omega)).trans b4
    obtain ⟨d0,d1,-⟩:=ZL c5;obtain ⟨q0,q1,qf⟩:=ZL b5;have k5:zb r w w5:=by rw [hw5];exact (HK2.out.trans k24).setOther (by simp;omega) _
    have hrd5:zg r g o4 cap4 vs w5:=hrd.keep (hkeep r (by omega)) (hkeep g (by omega))
    have hw5':=hw5.symm;have b6:=zp (j:=1) (.string (za s)) (zp (j:=0) (.string (za t.s)) b5);obtain ⟨z0,z1,-⟩:=ZL (x0:=.string (za t.s)) (x1:=.string (za s)) b6
    have HP:Hid (Qp r g w (.ok ((t.s,s),vs)) (.returned (.agg #[.string (za t.s),.string (za s)])) ((w5.setCell ⟨w.heap.size,0,none⟩ (.string (za t.s))).setCell ⟨w.heap.size,1,none⟩ (.string (za s)))):=by
     refine ⟨(k5.setOther (p:=⟨w.heap.size,0,none⟩) (by simp) _).setOther (p:=⟨w.heap.size,1,none⟩) (by simp) _,o4,cap4,rfl,hrd5.keep ?_ ?_⟩
     ·rw [Below.heap_setCell _ _ _ _ (by simp;omega),Below.heap_setCell _ _ _ _ (by simp;omega)]
     ·rw [Below.heap_setCell _ _ _ _ (by simp;omega),Below.heap_setCell _ _ _ _ (by simp;omega)]
    clear hw5 hkeep b4 c4 c5 b5 b6 k5 hrd5 hrd gf hk4 k24 HB HK2 HK3;go_wp2
    exact bodyPost_ret (v:=.agg #[.string (za t.s),.string (za s)]) (by simp [results,Tryz.results104,go_sem,z0,z1]) rfl HP.out
  ·simp only [if_neg hc] at cd
   rw [if_neg hc] at hres;subst hres;go_wp2_with fail
   rw [←HW2.out];refine cd.mono ?_;clear cd;rintro e w3 ⟨hk3,rfl⟩;exact ⟨rfl,HK2.out.trans hk3,rfl⟩
 ·simp only [if_neg hk] at cn
  rw [if_neg hk] at hres;subst hres
  go_enter Tryz.func104,Tryz.ntmps104
  go_wp2_with fail
  rw [←HW0.out];refine cn.mono ?_;clear cn;rintro e w1 ⟨hk1,rfl⟩;exact ⟨rfl,k0.trans hk1,rfl⟩
abbrev Pm:=List UInt8 × List UInt8
def PmE (_:Nat→Prop) (_:World) (x:Pm) (c:List Value):Prop:=c=[.string (za x.1),.string (za x.2)]
theorem yR:Z8 PmE:=⟨fun h _ _=>h,fun h _=>h,fun h=>h⟩
def Zl:Nat→List Pm→List Tk→Option (PR (List Pm))
 | 0,_,_=>none
 | f+1,pre,ts =>
  match Yj ts with
  | .error a=>some (.error a)
  | .ok (p,us)=>if zo (zz us) [44]=true then Zl f (pre++[p]) us.tail else some (.ok (pre++[p],us))
theorem Yu:∀(ts:List Tk) (k:Nat) (s:List UInt8) (us:List Tk),YI k ts=.ok (s,us)→zk ts→zk us∧us.length<ts.length
 | [],k,s,us,h,hE=>absurd hE (by simp [zk])
 | t::ts,k,s,us,h,hE=>by
  unfold YI at h
  split at h
  ·rename_i hi
   have:=Yu ts (k+1) s us h (hE.tail (zi hi))
   exact ⟨this.1,by simp only [List.length_cons];omega⟩
  ·split at h
   ·rename_i hk
    unfold Qm at h
    split at h
    ·cases h
    ·rename_i vs hv
     cases h
     have hE1:=hE.tail (by omega:t.k≠0)
     refine ⟨Qn hv hE1,?_⟩
     have hl:∀(n:Nat) (a b:List Tk),YO n a=.ok b→b.length≤a.length:=by
      intro n
      induction n with
      | zero=>intro a b h;cases h;exact Nat.le_refl _
      | succ n ih =>
       intro a b h
       unfold YO at h
       split at h
       ·have:=ih _ _ h;simp only [List.length_tail] at this;omega
       ·cases h
     have:=hl _ _ _ hv
     simp only [List.length_cons];omega
   ·cases h
theorem xx {ts us:List Tk} {p:Pm} (h:Yj ts=.ok (p,us)) (hE:zk ts):zk us∧us.length<ts.length:=by
 obtain ⟨t,ts1,rfl⟩:=hE.cons
 unfold Yj at h
 simp only [zC,List.tail_cons] at h
 split at h
 ·rename_i hk
  have hE1:=hE.tail (by omega:t.k≠0)
  obtain ⟨t1,ts2,rfl⟩:=hE1.cons;simp only [zC,List.tail_cons] at h
  split at h
  ·rename_i hi
   split at h
   ·cases h
   ·rename_i s vs hv
    cases h
    have:=Yu _ _ _ _ hv (hE1.tail (zi hi))
    exact ⟨this.1,by simp only [List.length_cons];omega⟩
  ·cases h
 ·cases h
def V1 (f:Nat) (l:List Pm) (ts:List Tk):Option (PR (List Pm)):=if zo (zz ts) [44]=true then Zl f l ts.tail else some (.ok (l,ts))
def Qq (r g:Nat) (w:World) (res:PR (List Pm)) (e:Ending) (w':World):Prop :=
 zb r w w'∧match res with
  | .error a=>e=ZF a
  | .ok (l,ts)=>∃v g1 cap1 us o cap,e=.returned v∧Zf PmE 2 121 w.heap.size w' l v g1 cap1 us∧zg r g o cap ts w'
theorem zax:(Tryz.prog.info? 121).map (fun i=>(i.zero,i.size,i.bytes))=some (some (.agg #[.string ⟨#[]⟩,.string ⟨#[]⟩]),2,32):=by kernel_rfl
theorem zcS (r g o cap F:Nat) (ts:List Tk) (w:World) (res:PR (List Pm)) (h:zg r g o cap ts w) (hE:zk ts) (hp:Zl (F+1) [] ts=some res)
  (hone:∀w1 o1 cap1 ts1,zk ts1→zg r g o1 cap1 ts1 w1→zb r w w1→Calls Tryz.prog 104 #[.pointer (some ⟨r,0,none⟩)] w1 (Qp r g w1 (Yj ts1))) :
  Calls Tryz.prog 103 #[.pointer (some ⟨r,0,none⟩),.func (.func 104) #[.pointer (some ⟨r,0,none⟩)] #[]] w (Qq r g w res):=by
 obtain ⟨i0,hi0,hz0,hz1,hz2⟩:=info_parts zax;obtain ⟨t0,ts0,rfl⟩:=hE.cons;have hr:=h.lt.1;have hgw:=h.lt.2;have hN:=h.few;have c1:=hone w o cap (t0::ts0) hE h (zb.refl r w);rw [Zl] at hp;cases hb:Yj (t0::ts0) with
 | error a =>
  rw [hb] at hp c1;simp only [Option.some.injEq] at hp;subst hp
  go_enter Tryz.func103,Tryz.ntmps103
  go_wp2_with fail
  refine c1.mono ?_;clear c1;rintro e w1 ⟨hk1,hpost⟩;obtain rfl:=hpost;exact ⟨rfl,hk1,rfl⟩
 | ok q =>
  obtain ⟨x,us⟩:=q;rw [hb] at hp c1;simp only at hp
  go_enter Tryz.func103,Tryz.ntmps103
  go_wp2_with fail
  refine c1.mono ?_;clear c1;rintro e w1 ⟨hk1,hpost⟩;obtain ⟨o1,cap1,rfl,hrd⟩:=hpost;obtain ⟨hE1,hl1⟩:=xx hb hE;have HP:Hid (V1 F [x] us=some res):=hp;obtain ⟨t1,ts1,rfl⟩:=hE1.cons
  have HR1:Hid (Zf PmE 2 121 w.heap.size (w1.alloc (.cells #[.string (za x.1),.string (za x.2)] 121)) [x] (.slice (some ⟨w1.heap.size,0,none⟩) 1 1) w1.heap.size 1 [[.string (za x.1),.string (za x.2)]]) :=
   Zf.first yR (c:=[.string (za x.1),.string (za x.2)]) rfl rfl hk1.size
  have HD1:Hid (zg r g o1 cap1 (t1::ts1) (w1.alloc (.cells #[.string (za x.1),.string (za x.2)] 121))):=hrd.alloc _;have HK1:Hid (zb r w (w1.alloc (.cells #[.string (za x.1),.string (za x.2)] 121))):=hk1.alloc _;have HE1:Hid (zk (t1::ts1)):=hE1;have hn:ts1.length+2≤1099511627776:=by simp only [List.length_cons] at hl1 hN;omega
  have HONE:Hid (∀w1 o1 cap1 ts1,zk ts1→zg r g o1 cap1 ts1 w1→zb r w w1→Calls Tryz.prog 104 #[.pointer (some ⟨r,0,none⟩)] w1 (Qp r g w1 (Yj ts1))):=hone;clear hrd hk1 hE1 hone hp hb hE hN h hl1;go_wp2_with fail
  go_loopw [5] (fun v wr=>∃(L:List Pm) (g1 cap1:Nat) (us:List (List Value)) (o2 cap2:Nat) (ts2:List Tk) (f2:Nat),V1 f2 L ts2=some res∧zk ts2∧L.length+ts2.length≤1099511627776∧Zf PmE 2 121 w.heap.size wr L v g1 cap1 us∧zg r g o2 cap2 ts2 wr∧zb r w wr) (fun _ wr=>ZQ r wr)
  case atStart=>exact ⟨[x],_,_,_,o1,cap1,t1::ts1,F,HP.out,HE1.out,by simp only [List.length_cons,List.length_nil];omega,HR1.out,HD1.out,HK1.out⟩
  case round =>
   obtain ⟨L,g1,cp1,us,o2,cap2,ts2,f2,hT,hE2,hN2,hrow,hrd2,hk2⟩:=hrel;clear HP HR1 HD1 HK1 HE1 hn;obtain ⟨t2,ts3,rfl⟩:=hE2.cons;have cs:=Zu r g o2 cap2 t2 ts3 [44] wr hrd2 (fun hi=>(hE2.tail (zi hi)).ne)
   have hleft:=hrd2.left;have HROW:Hid (Zf PmE 2 121 w.heap.size wr L _ g1 cp1 us):=hrow;have HK2:Hid (zb r w wr):=hk2;have hval:=hrow.val;subst hval
   unfold V1 at hT
   simp only [zC,List.tail_cons] at hT
   by_cases hi:zo t2 [44]=true
   ·rw [hi] at cs
    rw [if_pos hi] at hT;have hE3:=hE2.tail (zi hi);clear hrow hk2 hrd2 hE2;go_wp2_with fail
    refine cs.mono ?_;clear cs;rintro e w3 ⟨rfl,hk3,h3⟩;simp only [if_true] at h3;have hkk:zb r w w3:=HK2.out.trans hk3;have hrow3:=HROW.out.kept yR hk3.size fun k hB hlt=>hk3.block k hlt (by omega)
    cases f2 with
    | zero=>simp [Zl] at hT
    | succ f3 =>
     rw [Zl] at hT;have c3:=HONE.out w3 _ _ ts3 hE3 h3 hkk;have hg3:=hrow3.block;have HROW3:Hid (Zf PmE 2 121 w.heap.size w3 L _ g1 cp1 us):=hrow3;have HK3:Hid (zb r w w3):=hkk;clear hrow3 hkk hk3 h3 HROW HK2;cases hb3:Yj ts3 with
     | error a =>
      rw [hb3] at hT c3;simp only [Option.some.injEq] at hT;subst hT;go_wp2_with fail
      refine c3.mono ?_;clear c3;rintro e w4 ⟨hk4,hpost⟩;obtain rfl:=hpost;exact ⟨rfl,HK3.out.trans hk4,rfl⟩
     | ok q =>
      obtain ⟨x3,us3⟩:=q;rw [hb3] at hT c3;simp only at hT;go_wp2_with fail
      refine c3.mono ?_;clear c3;rintro e w4 ⟨hk4,hpost⟩;have HK4:Hid (zb r w w4):=HK3.out.trans hk4;obtain ⟨o4,cap4,rfl,hrd⟩:=hpost;have hrow4:=HROW3.out.kept yR hk4.size fun k hB hlt=>hk4.block k hlt (by omega)
      have HROW4:Hid (Zf PmE 2 121 w.heap.size w4 L _ g1 cp1 us):=hrow4;have HRD:Hid (zg r g o4 cap4 us3 w4):=hrd;obtain ⟨hE5,hl5⟩:=xx hb3 hE3;have HOWN:=(hrow4.own.alloc (.cells #[.string (za x3.1),.string (za x3.2)] 121));have HT:Hid (V1 f3 (L++[x3]) us3=some res):=hT;have hsz4:w.heap.size≤w4.heap.size:=HK4.out.size;clear hrow4 hrd hT hk4
      go_wp2_with (at_builtin;refine wpList_append_own_at _ rfl _ _ 72 rfl w.heap.size 121 i0 _ 2 32 Tryz.underlying72 hi0 hz0 hz1 hz2 rfl (by decide) _ _ _ rfl HOWN ⟨w4.heap.size,0,none⟩ 1 1 [.string (za x3.1),.string (za x3.2)] rfl rfl (Zn _ _ _) (by simp [Value.oneCell']) (by unfold maxLen;simp only [List.length_cons] at hN2;omega) (by simp only [List.length_cons] at hN2;omega) (by simp;omega) ?_;intro v' w5 hown' hgrow _ hat)
      obtain ⟨g5,cap5,hrow5,hg5⟩:=HROW4.out.snoc yR (x:=x3) (c:=[.string (za x3.1),.string (za x3.2)]) rfl rfl hown' hgrow hat
      have hgr5:(w4.alloc (.cells #[.string (za x3.1),.string (za x3.2)] 121)).grownBy w5 (some g1):=hgrow;have hk5:zb r w w5:=(HK4.out.alloc _).grown hgr5 fun k hk=>by have:=Option.some.inj hk;omega
      have hr4:w.heap.size≤w4.heap.size:=HK4.out.size;have hrd5:zg r g o4 cap4 us3 w5:=HRD.out.keep ((hgr5.block r (by simp;omega) (fun e=>by have:=Option.some.inj e;omega)).trans (Below.heap_alloc _ _ _ (by omega))) ((hgr5.block g (by simp;omega) (fun e=>by have:=Option.some.inj e;omega)).trans (Below.heap_alloc _ _ _ (by omega)))
      refine ⟨⟨L++[x3],g5,cap5,_,o4,cap4,us3,f3,HT.out,hE5,?_,hrow5,hrd5,hk5⟩,?_⟩
      ·simp only [List.length_append,List.length_cons,List.length_nil] at hN2 ⊢;omega
      ·rw [hrd5.left,hleft];simp only [List.length_cons];omega
   ·have hi':zo t2 [44]=false:=by simpa using hi
    rw [hi'] at cs;rw [if_neg hi] at hT;clear hrow hk2 hrd2 hE2;go_wp2_with fail
    refine cs.mono ?_;clear cs;rintro e w3 ⟨rfl,hk3,h3⟩;have HK3:Hid (zb r w w3):=HK2.out.trans hk3;have HROW3:Hid (Zf PmE 2 121 w.heap.size w3 L (.slice (some ⟨g1,0,none⟩) L.length cp1) g1 cp1 us):=HROW.out.kept yR hk3.size fun k hB hlt=>hk3.block k hlt (by omega)
    have HR3:Hid (zg r g o2 cap2 (t2::ts3) w3):=show zg _ _ _ _ _ _ by simpa using h3
    simp only [Option.some.injEq] at hT;subst hT;clear hk3 h3;go_wp2
    refine bodyPost_ret (v:=.slice (some ⟨g1,0,none⟩) L.length cp1) (by simp [results,Tryz.results103,go_sem]) rfl ⟨HK3.out,_,_,_,_,_,_,rfl,HROW3.out,HR3.out⟩
def Z1 (B:Nat) (w:World) (l:List Pm) (v:Value):Prop :=
 (l=[]∧v=.slice none 0 0)∨∃g cap us,Zf PmE 2 121 B w l v g cap us
theorem Z1.kept {B:Nat} {w w':World} {l:List Pm} {v:Value} (h:Z1 B w l v) (hs:w.heap.size≤w'.heap.size) (hb:∀k,B≤k→k<w.heap.size→w'.heap[k]?=w.heap[k]?):Z1 B w' l v:=by
 rcases h with h | ⟨g,cap,us,h⟩
 ·exact .inl h
 ·exact .inr ⟨g,cap,us,h.kept yR hs hb⟩
theorem Z1.mono {B B':Nat} {w:World} {l:List Pm} {v:Value} (h:Z1 B w l v) (hb:B'≤B):Z1 B' w l v:=by
 rcases h with h | ⟨g,cap,us,h⟩
 ·exact .inl h
 ·refine .inr ⟨g,cap,us,h.val,h.ne,?_,h.len,h.wid,h.kids⟩
  refine ⟨h.own.1,?_⟩;rcases h.own.2 with h1 | ⟨g',cap',cur,h1,h2,h3⟩
  ·exact .inl h1
  ·exact .inr ⟨g',cap',cur,h1,Nat.le_trans hb h2,h3⟩
def zbh (r g:Nat) (w:World) (res:PR (List Pm)) (e:Ending) (w':World):Prop :=
 zb r w w'∧match res with
  | .error a=>e=ZF a
  | .ok (l,ts)=>∃v o cap,e=.returned v∧Z1 w.heap.size w' l v∧zg r g o cap ts w'
def Yd (t:Tk) (ts:List Tk) (res:PR (List Pm)):PR (List Pm) :=
 if zo t [40]=true then
  if zo (zz ts) [41]=true then .ok ([],ts.tail) else
  match res with
  | .error a=>.error a
  | .ok (l,us)=>if zo (zz us) [41]=true then .ok (l,us.tail) else .error (zz us).at0
 else .error t.at0
theorem XB (r g o cap:Nat) (f:Value) (t:Tk) (ts:List Tk) (w:World) (res:PR (List Pm)) (h:zg r g o cap (t::ts) w) (hE:zk (t::ts)) (hEnd:∀l us,res=.ok (l,us)→zk us)
  (hrow:zo t [40]=true→zo (zz ts) [41]=false→∀w1 o1 cap1,zg r g o1 cap1 ts w1→zb r w w1→Calls Tryz.prog 103 #[.pointer (some ⟨r,0,none⟩),f] w1 (Qq r g w1 res)) :
  Calls Tryz.prog 105 #[.pointer (some ⟨r,0,none⟩),f] w (zbh r g w (Yd t ts res)):=by
 have hr:=h.lt.1;have cn:=yF r g o cap t ts [40] w h (fun hi=>(hE.tail (zi hi)).ne)
 clear h
 unfold Yd
 by_cases hi:zo t [40]=true
 ·simp only [if_pos hi] at cn ⊢
  have hE1:=hE.tail (zi hi);obtain ⟨t1,ts1,rfl⟩:=hE1.cons;simp only [zC,List.tail_cons] at hrow ⊢
  by_cases hj:zo t1 [41]=true
  ·simp only [if_pos hj]
   clear hrow hEnd
   go_enter Tryz.func105,Tryz.ntmps105
   go_wp2_with fail
   refine cn.mono ?_;clear cn;rintro e w1 ⟨hk1,rfl,h1⟩;have cs:=Zu r g _ _ t1 ts1 [41] w1 h1 (fun hi=>(hE1.tail (zi hi)).ne)
   have HK1:Hid (zb r w w1):=hk1;rw [hj] at cs;clear h1 hk1;go_wp2_with fail
   refine cs.mono ?_;clear cs;rintro e w2 ⟨rfl,hk2,h2⟩;have HK2:Hid (zb r w w2):=HK1.out.trans hk2;have h2':zg r g (o+5+5) (cap-1-1) ts1 w2:=by simpa using h2
   have HR2:Hid (zg r g (o+5+5) (cap-1-1) ts1 w2):=h2';clear h2 h2' hk2;go_wp2
   refine bodyPost_ret (v:=.slice none 0 0) (by simp [results,Tryz.results105,go_sem]) rfl ⟨HK2.out,_,_,_,rfl,.inl ⟨rfl,rfl⟩,HR2.out⟩
  ·have hj':zo t1 [41]=false:=by simpa using hj
   simp only [if_neg hj]
   go_enter Tryz.func105,Tryz.ntmps105
   go_wp2_with fail
   refine cn.mono ?_;clear cn;rintro e w1 ⟨hk1,rfl,h1⟩;have cs:=Zu r g _ _ t1 ts1 [41] w1 h1 (fun hi=>(hE1.tail (zi hi)).ne)
   have HK1:Hid (zb r w w1):=hk1;rw [hj'] at cs;clear h1 hk1;go_wp2_with fail
   refine cs.mono ?_;clear cs;rintro e w2 ⟨rfl,hk2,h2⟩;have hkk:zb r w w2:=HK1.out.trans hk2;have HK2:Hid (zb r w w2):=hkk;have cr:=hrow hi hj' w2 _ _ (by simpa using h2) hkk
   clear h2 hk2 hkk hrow;go_wp2_with fail
   refine cr.mono ?_;clear cr;rintro e w3 ⟨hk3,hpost⟩;have HK3:Hid (zb r w w3):=HK2.out.trans hk3;rcases res with a | ⟨l,us⟩
   ·obtain rfl:=hpost
    exact ⟨rfl,HK3.out,rfl⟩
   ·obtain ⟨v,g1,cap1,us1,o3,cap3,rfl,hrw0,hrd⟩:=hpost
    have hrw:Z1 w2.heap.size w3 l v:=.inr ⟨g1,cap1,us1,hrw0⟩;clear hrw0;have hE3:=hEnd l us rfl;obtain ⟨t3,ts3,rfl⟩:=hE3.cons;have cn2:=yF r g o3 cap3 t3 ts3 [41] w3 hrd (fun hi=>(hE3.tail (zi hi)).ne)
    have hsz:w.heap.size≤w2.heap.size:=HK2.out.size;have hr2:r<w2.heap.size:=by omega
    have HRow:Hid (Z1 w2.heap.size w3 l v):=hrw;clear hrd hrw hk3 hEnd
    by_cases hm:zo t3 [41]=true
    ·simp only [if_pos hm] at cn2
     go_wp2_with fail
     refine cn2.mono ?_;clear cn2;rintro e w4 ⟨hk4,rfl,h4⟩;have HK4:Hid (zb r w w4):=HK3.out.trans hk4;have HRow4:Hid (Z1 w2.heap.size w4 l v):=Z1.kept HRow.out hk4.size fun k hB hlt=>hk4.block k hlt (by omega)
     have HR4:Hid (zg r g (o3+5) (cap3-1) ts3 w4):=h4;clear hk4 h4;go_wp2
     refine bodyPost_ret (v:=v) (by simp [results,Tryz.results105,go_sem]) rfl ⟨HK4.out,_,_,_,rfl,Z1.mono HRow4.out hsz,HR4.out⟩
    ·simp only [if_neg hm] at cn2
     have hm':zo t3 [41]=false:=by simpa using hm
     go_wp2_with fail
     refine cn2.mono ?_;clear cn2;rintro e w4 ⟨hk4,rfl⟩;refine ⟨rfl,HK3.out.trans hk4,?_⟩;simp only [zC,hm',Bool.false_eq_true,if_false]
 ·simp only [if_neg hi] at cn ⊢
  clear hrow hEnd
  go_enter Tryz.func105,Tryz.ntmps105
  go_wp2_with fail
  refine cn.mono ?_;clear cn;rintro e w1 ⟨hk1,rfl⟩;exact ⟨rfl,hk1,rfl⟩
end Go.Proofs.YtdgpapchkpnijaaGreatDoor
