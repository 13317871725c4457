import Derived.Test.YtdgpapchkpnijaaGreatDoorXRef4
import Derived.BigQuiet
namespace Go.Proofs.YtdgpapchkpnijaaGreatDoor
open Go.RowKit Go.Shelf
set_option maxHeartbeats 16000000
set_option maxRecDepth 100000
theorem qC (w:World) :
  Calls Tryz.prog 113 #[] w fun e w'=>e=.returned (.slice (some ⟨w.heap.size,0,none⟩) 25 25)∧w'=w.alloc (.cells (refSigns.map fun x=>Value.string (za x)).toArray 9):=by
 go_enter Tryz.func113,Tryz.ntmps113
 go_wp2
 go_ret
 exact ⟨rfl,rfl⟩
def X9 (K N' X E:Nat) (s:List UInt8):Value:=.tuple #[.agg #[.int .i64 K,.string (za s),.int .i64 N',.int .i64 0,.int .i64 0],.int .i64 X,.int .i64 E]
def rtR (a:Nat) (R:TR) (v:Value):Prop:=∃(K N' X:Nat) (s:List UInt8),v=X9 K N' X R.e s∧(R.e=0→K=R.k∧s=R.s∧N'=R.n∧X=a+R.sz)
theorem vO {a:Nat} {R R':TR} (h:R=R'):rtR a R (X9 R'.k R'.n (a+R'.sz) R'.e R'.s):=by
 subst h;exact ⟨_,_,_,_,rfl,fun _=>⟨rfl,rfl,rfl,rfl⟩⟩
theorem Vg {a K X e:Nat} {R:TR} {s:List UInt8} (h:R.e=e) (he:e≠0):rtR a R (X9 K 0 X e s):=by
 subst h;exact ⟨_,_,_,_,rfl,fun h=>absurd h he⟩
theorem VC {p:UInt8→Bool} {l:List UInt8} {a k:Nat} (hk:a+k≤l.length) (h1:∀j (h:a+j<l.length),j<k→p l[a+j]=true) (h2:∀h:a+k<l.length,p l[a+k]=false):((l.drop a).takeWhile p).length=k:=by
 refine YB p (l.drop a) k (by rw [List.length_drop];omega) (fun j h hj=>?_) (fun h=>?_)
 ·rw [List.getElem_drop];exact h1 j (by rw [List.length_drop] at h;omega) hj
 ·rw [List.getElem_drop];exact h2 (by rw [List.length_drop] at h;omega)
theorem V7 {p:UInt8→Bool} {l:List UInt8} {a k:Nat} (h:((l.drop a).takeWhile p).length=k):(l.drop a).take k=(l.drop a).takeWhile p:=by
 rw [←h];exact xR p _
theorem Ur (l:List UInt8) (a:Nat) (w:World) (hl:l.length≤5000) (ha:a<l.length) (hk:Zg (l[a]).toNat=true) :
  Calls Tryz.prog 64 #[.string (za l),.int .i64 (a:Nat)] w fun e w'=>(∃v,e=.returned v∧rtR a (Z4 (l.drop a)) v)∧Below w.heap.size w w':=by
 have hsz:(za l).size=l.length:=rfl;have hA:Below w.heap.size w (w.alloc ZZ):=(Below.refl w.heap.size w).alloc (Nat.le_refl _) _;have HA:Hid (Below w.heap.size w (w.alloc ZZ)):=hA;have hidx:=fun wx=>yT wx l a ha
 obtain ⟨n,hn⟩:∃n,n=(l[a]).toNat:=⟨_,rfl⟩;rw [←hn] at hidx hk;have hn256:n<256:=by rw [hn];exact UInt8.toNat_lt _
 have c1:=yX n (w.alloc ZZ) hn256;rw [hk] at c1;clear hA hn
 go_enter Tryz.func64,Tryz.ntmps64
 go_wp2_with fail
 refine c1.mono ?_;clear c1;rintro e w1 ⟨rfl,rfl⟩;go_wp2_with fail
 go_loopw [8] (fun v wr=>∃k:Nat,v=.int .i64 ((a:Int)+k)∧a+k≤l.length∧(∀j (h:a+j<l.length),j<k→yz (l[a+j]).toNat=true)∧wr=w.alloc ZZ) (fun v _=>l.length-(intOf v).toNat)
 case atStart=>exact ⟨0,by simp,by omega,fun j h hj=>by omega,rfl⟩
 case round =>
  obtain ⟨k,rfl,hk2,hall,rfl⟩:=hrel;have HAL:Hid (∀j (h:a+j<l.length),j<k→yz (l[a+j]).toNat=true):=hall;clear hall hidx
  by_cases hlt:a+k<l.length
  ·have hidx:=fun wx=>yT wx l (a+k) hlt
   have e1:((a+k:Nat):Int)=(a:Int)+k:=by omega
   simp only [e1] at hidx;have hi2:(a:Int)+k<l.length:=by omega
   obtain ⟨c,hc⟩:∃c,c=(l[a+k]).toNat:=⟨_,rfl⟩;rw [←hc] at hidx;have hc256:c<256:=by rw [hc];exact UInt8.toNat_lt _
   have HC:Hid (c=(l[a+k]).toNat):=hc;clear hc e1;have c2:=yX c (w.alloc ZZ) hc256;have c3:=Yh c (w.alloc ZZ) hc256;go_wp2_with fail
   refine c2.mono ?_;clear c2;rintro e w1 ⟨rfl,rfl⟩;cases h1:Zg c with
   | true =>
    go_wp2
    refine ⟨⟨k+1,by go_num,by omega,fun j h hj=>?_,by first | rfl | trivial⟩,by simp [intOf];omega⟩
    by_cases hji:j<k
    ·exact HAL.out j h hji
    ·obtain rfl:j=k:=by omega
     rw [←HC.out];simp [yz,h1]
   | false =>
    go_wp2_with fail
    refine c3.mono ?_;rintro e w1 ⟨rfl,rfl⟩;cases h2:z6 c with
    | true =>
     go_wp2
     refine ⟨⟨k+1,by go_num,by omega,fun j h hj=>?_,by first | rfl | trivial⟩,by simp [intOf];omega⟩
     by_cases hji:j<k
     ·exact HAL.out j h hji
     ·obtain rfl:j=k:=by omega
      rw [←HC.out];simp [yz,h2]
    | false =>
     have HL:Hid (((l.drop a).takeWhile fun c=>yz c.toNat).length=k):=VC hk2 HAL.out (fun _=>by rw [←HC.out];simp [yz,h1,h2])
     clear hidx;have hsub:=fun wx=>Xf wx l a k hk2
     have HNL:Hid ((l.drop a).take k=ZY (l.drop a)):=V7 HL.out;rw [HNL.out] at hsub;obtain ⟨x,hx⟩:∃x,x=ZY (l.drop a):=⟨_,rfl⟩;rw [←hx] at hsub;have hxl:x.length=k:=by rw [hx];exact HL.out
     have hszx:(za x).size=k:=hxl;have HX:Hid (x=ZY (l.drop a)):=hx;have cW:=VG x (w.alloc ZZ);rw [World.size_alloc] at cW;clear hx;go_wp2_with fail
     refine cW.mono ?_;clear cW;rintro e w2 ⟨rfl,hb2⟩;obtain ⟨hc1,hf1⟩:=yW hb2;have HB:Hid (Below w.heap.size w w2):=HA.out.trans (hb2.mono (by omega))
     clear hb2;cases hq:ym x with
     | true =>
      have HR:Hid (Z4 (l.drop a)=⟨5,x,0,k,0⟩):=by unfold Z4;rw [←HX.out,if_pos hq,hxl];rfl
      go_wp2
      exact bodyPost_ret (v:=X9 5 0 (a+k) 0 x) (by simp [results,Tryz.results64,go_sem,X9,hc1]) rfl ⟨⟨_,rfl,vO HR.out⟩,Za HB.out _ _ _ _ _⟩
     | false =>
      by_cases h20:20<k
      ·have HR:Hid (Z4 (l.drop a)=⟨0,[],0,0,5⟩):=by unfold Z4;rw [←HX.out,if_neg (by rw [hq];simp),if_pos (by rw [hxl];exact h20)];rfl
       go_wp2
       exact bodyPost_ret (v:=X9 0 0 0 5 []) (by simp [results,Tryz.results64,go_sem,X9,hc1]) rfl ⟨⟨_,rfl,Vg (by rw [HR.out]) (by decide)⟩,Za HB.out _ _ _ _ _⟩
      ·have HR:Hid (Z4 (l.drop a)=⟨1,x,0,k,0⟩):=by unfold Z4;rw [←HX.out,if_neg (by rw [hq];simp),if_neg (by rw [hxl];exact h20),hxl];rfl
       go_wp2
       exact bodyPost_ret (v:=X9 1 0 (a+k) 0 x) (by simp [results,Tryz.results64,go_sem,X9,hc1]) rfl ⟨⟨_,rfl,vO HR.out⟩,Za HB.out _ _ _ _ _⟩
  ·have hi2:¬ (a:Int)+k<l.length:=by omega
   have HL:Hid (((l.drop a).takeWhile fun c=>yz c.toNat).length=k):=VC hk2 HAL.out (fun h=>absurd h (by omega))
   have hsub:=fun wx=>Xf wx l a k hk2
   have HNL:Hid ((l.drop a).take k=ZY (l.drop a)):=V7 HL.out;rw [HNL.out] at hsub;obtain ⟨x,hx⟩:∃x,x=ZY (l.drop a):=⟨_,rfl⟩;rw [←hx] at hsub;have hxl:x.length=k:=by rw [hx];exact HL.out
   have hszx:(za x).size=k:=hxl;have HX:Hid (x=ZY (l.drop a)):=hx;have cW:=VG x (w.alloc ZZ);rw [World.size_alloc] at cW;clear hx;go_wp2_with fail
   refine cW.mono ?_;clear cW;rintro e w2 ⟨rfl,hb2⟩;obtain ⟨hc1,hf1⟩:=yW hb2;have HB:Hid (Below w.heap.size w w2):=HA.out.trans (hb2.mono (by omega))
   clear hb2;cases hq:ym x with
   | true =>
    have HR:Hid (Z4 (l.drop a)=⟨5,x,0,k,0⟩):=by unfold Z4;rw [←HX.out,if_pos hq,hxl];rfl
    go_wp2
    exact bodyPost_ret (v:=X9 5 0 (a+k) 0 x) (by simp [results,Tryz.results64,go_sem,X9,hc1]) rfl ⟨⟨_,rfl,vO HR.out⟩,Za HB.out _ _ _ _ _⟩
   | false =>
    by_cases h20:20<k
    ·have HR:Hid (Z4 (l.drop a)=⟨0,[],0,0,5⟩):=by unfold Z4;rw [←HX.out,if_neg (by rw [hq];simp),if_pos (by rw [hxl];exact h20)];rfl
     go_wp2
     exact bodyPost_ret (v:=X9 0 0 0 5 []) (by simp [results,Tryz.results64,go_sem,X9,hc1]) rfl ⟨⟨_,rfl,Vg (by rw [HR.out]) (by decide)⟩,Za HB.out _ _ _ _ _⟩
    ·have HR:Hid (Z4 (l.drop a)=⟨1,x,0,k,0⟩):=by unfold Z4;rw [←HX.out,if_neg (by rw [hq];simp),if_neg (by rw [hxl];exact h20),hxl];rfl
     go_wp2
     exact bodyPost_ret (v:=X9 1 0 (a+k) 0 x) (by simp [results,Tryz.results64,go_sem,X9,hc1]) rfl ⟨⟨_,rfl,vO HR.out⟩,Za HB.out _ _ _ _ _⟩
theorem qD (l:List UInt8) (a:Nat) (w:World) (hl:l.length≤5000) (ha:a<l.length) (hk0:Zg (l[a]).toNat=false) (hk:z6 (l[a]).toNat=true) :
  Calls Tryz.prog 64 #[.string (za l),.int .i64 (a:Nat)] w fun e w'=>(∃v,e=.returned v∧rtR a (Yr (l.drop a)) v)∧Below w.heap.size w w':=by
 have hsz:(za l).size=l.length:=rfl;have hA:Below w.heap.size w (w.alloc ZZ):=(Below.refl w.heap.size w).alloc (Nat.le_refl _) _;have HA:Hid (Below w.heap.size w (w.alloc ZZ)):=hA;have hidx:=fun wx=>yT wx l a ha
 obtain ⟨n,hn⟩:∃n,n=(l[a]).toNat:=⟨_,rfl⟩;rw [←hn] at hidx hk hk0;have hn256:n<256:=by rw [hn];exact UInt8.toNat_lt _
 have c1:=yX n (w.alloc ZZ) hn256;have c0:=Yh n (w.alloc ZZ) hn256;rw [hk0] at c1;rw [hk] at c0;clear hA hn
 go_enter Tryz.func64,Tryz.ntmps64
 go_wp2_with fail
 refine c1.mono ?_;clear c1;rintro e w1 ⟨rfl,rfl⟩;go_wp2_with fail
 refine c0.mono ?_;clear c0;rintro e w1 ⟨rfl,rfl⟩;go_wp2_with fail
 go_loopw [8] (fun v wr=>∃k:Nat,v=.int .i64 ((a:Int)+k)∧a+k≤l.length∧(∀j (h:a+j<l.length),j<k→z6 (l[a+j]).toNat=true)∧wr=w.alloc ZZ) (fun v _=>l.length-(intOf v).toNat)
 case atStart=>exact ⟨0,by simp,by omega,fun j h hj=>by omega,rfl⟩
 case round =>
  obtain ⟨k,rfl,hk2,hall,rfl⟩:=hrel;have HAL:Hid (∀j (h:a+j<l.length),j<k→z6 (l[a+j]).toNat=true):=hall;clear hall hidx
  by_cases hlt:a+k<l.length
  ·have hidx:=fun wx=>yT wx l (a+k) hlt
   have e1:((a+k:Nat):Int)=(a:Int)+k:=by omega
   simp only [e1] at hidx;have hi2:(a:Int)+k<l.length:=by omega
   obtain ⟨c,hc⟩:∃c,c=(l[a+k]).toNat:=⟨_,rfl⟩;rw [←hc] at hidx;have hc256:c<256:=by rw [hc];exact UInt8.toNat_lt _
   have HC:Hid (c=(l[a+k]).toNat):=hc;clear hc e1;have c3:=Yh c (w.alloc ZZ) hc256;go_wp2_with fail
   refine c3.mono ?_;clear c3;rintro e w1 ⟨rfl,rfl⟩;cases h2:z6 c with
   | true =>
    go_wp2
    refine ⟨⟨k+1,by go_num,by omega,fun j h hj=>?_,by first | rfl | trivial⟩,by simp [intOf];omega⟩
    by_cases hji:j<k
    ·exact HAL.out j h hji
    ·obtain rfl:j=k:=by omega
     rw [←HC.out];exact h2
   | false =>
    have HL:Hid (((l.drop a).takeWhile fun c=>z6 c.toNat).length=k):=VC hk2 HAL.out (fun _=>by rw [←HC.out];exact h2)
    clear hidx;have hsub:=fun wx=>Xf wx l a k hk2
    have HNL:Hid ((l.drop a).take k=digL (l.drop a)):=V7 HL.out;rw [HNL.out] at hsub;have HDA:=ue (l.drop a);obtain ⟨x,hx⟩:∃x,x=digL (l.drop a):=⟨_,rfl⟩;rw [←hx] at hsub HDA;have hxl:x.length=k:=by rw [hx];exact HL.out
    have HX:Hid (x=digL (l.drop a)):=hx;have cW:=XY x (w.alloc ZZ) (by omega) HDA
    clear hx HDA;obtain ⟨v,hv⟩:∃v,v=valA 0 x:=⟨_,rfl⟩;have HV:Hid (v=valA 0 x):=hv
    unfold zcK at cW
    rw [←hv] at cW;clear hv
    by_cases h63:v<9223372036854775808
    ·rw [if_pos h63] at cW
     have HR:Hid (Yr (l.drop a)=⟨2,[],v,k,0⟩):=by unfold Yr;rw [←HX.out,←HV.out,if_pos h63,hxl];rfl
     go_wp2_with fail
     refine cW.mono ?_;clear cW;rintro e w2 ⟨rfl,rfl⟩;go_wp2
     exact bodyPost_ret (v:=X9 2 v (a+k) 0 []) (by simp [results,Tryz.results64,go_sem,X9]) rfl ⟨⟨_,rfl,vO HR.out⟩,by first | exact HA.out | exact Za HA.out _ _ _ _ _ | exact (Below.refl w.heap.size w).alloc (Nat.le_refl _) _⟩
    ·rw [if_neg h63] at cW
     have HR:Hid (Yr (l.drop a)=⟨0,[],0,0,5⟩):=by unfold Yr;rw [←HX.out,←HV.out,if_neg h63];rfl
     go_wp2_with fail
     refine cW.mono ?_;clear cW;rintro e w2 ⟨rfl,rfl⟩;go_wp2
     exact bodyPost_ret (v:=X9 0 0 0 5 []) (by simp [results,Tryz.results64,go_sem,X9]) rfl ⟨⟨_,rfl,Vg (by rw [HR.out]) (by decide)⟩,by first | exact HA.out | exact Za HA.out _ _ _ _ _ | exact (Below.refl w.heap.size w).alloc (Nat.le_refl _) _⟩
  ·have hi2:¬ (a:Int)+k<l.length:=by omega
   have HL:Hid (((l.drop a).takeWhile fun c=>z6 c.toNat).length=k):=VC hk2 HAL.out (fun h=>absurd h (by omega))
   have hsub:=fun wx=>Xf wx l a k hk2
   have HNL:Hid ((l.drop a).take k=digL (l.drop a)):=V7 HL.out;rw [HNL.out] at hsub;have HDA:=ue (l.drop a);obtain ⟨x,hx⟩:∃x,x=digL (l.drop a):=⟨_,rfl⟩;rw [←hx] at hsub HDA;have hxl:x.length=k:=by rw [hx];exact HL.out
   have HX:Hid (x=digL (l.drop a)):=hx;have cW:=XY x (w.alloc ZZ) (by omega) HDA
   clear hx HDA;obtain ⟨v,hv⟩:∃v,v=valA 0 x:=⟨_,rfl⟩;have HV:Hid (v=valA 0 x):=hv
   unfold zcK at cW
   rw [←hv] at cW;clear hv
   by_cases h63:v<9223372036854775808
   ·rw [if_pos h63] at cW
    have HR:Hid (Yr (l.drop a)=⟨2,[],v,k,0⟩):=by unfold Yr;rw [←HX.out,←HV.out,if_pos h63,hxl];rfl
    go_wp2_with fail
    refine cW.mono ?_;clear cW;rintro e w2 ⟨rfl,rfl⟩;go_wp2
    exact bodyPost_ret (v:=X9 2 v (a+k) 0 []) (by simp [results,Tryz.results64,go_sem,X9]) rfl ⟨⟨_,rfl,vO HR.out⟩,by first | exact HA.out | exact Za HA.out _ _ _ _ _ | exact (Below.refl w.heap.size w).alloc (Nat.le_refl _) _⟩
   ·rw [if_neg h63] at cW
    have HR:Hid (Yr (l.drop a)=⟨0,[],0,0,5⟩):=by unfold Yr;rw [←HX.out,←HV.out,if_neg h63];rfl
    go_wp2_with fail
    refine cW.mono ?_;clear cW;rintro e w2 ⟨rfl,rfl⟩;go_wp2
    exact bodyPost_ret (v:=X9 0 0 0 5 []) (by simp [results,Tryz.results64,go_sem,X9]) rfl ⟨⟨_,rfl,Vg (by rw [HR.out]) (by decide)⟩,by first | exact HA.out | exact Za HA.out _ _ _ _ _ | exact (Below.refl w.heap.size w).alloc (Nat.le_refl _) _⟩
theorem zbm:∀(f:Nat) (meant:List UInt8) (at0:Nat) (r:List UInt8),(zT f meant at0 r).e=0→(zT f meant at0 r).k=3∧(zT f meant at0 r).n=0
 | 0,_,_,_,h=>by simp [zT] at h
 | _+1,_,_,[],h=>by simp [zT] at h
 | f+1,meant,at0,x::r,h=>by
  unfold zT at h ⊢
  by_cases h1:x.toNat=34
  ·rw [if_pos h1];exact ⟨rfl,rfl⟩
  ·rw [if_neg h1] at h ⊢
   by_cases h2:(xP (x::r)).2=0
   ·rw [if_pos h2] at h;simp at h
   ·rw [if_neg h2] at h ⊢
    by_cases h3:meant.length=255
    ·rw [if_pos h3] at h;simp at h
    ·rw [if_neg h3] at h ⊢
     exact zbm f _ _ _ h
theorem Us (l:List UInt8) (a:Nat) (w:World) (hl:l.length≤5000) (ha:a<l.length) (hk0:Zg (l[a]).toNat=false) (hk:z6 (l[a]).toNat=false) (h34:(l[a]).toNat=34) :
  Calls Tryz.prog 64 #[.string (za l),.int .i64 (a:Nat)] w fun e w'=>(∃v,e=.returned v∧rtR a (Zm (l.drop a)) v)∧Below w.heap.size w w':=by
 have hsz:(za l).size=l.length:=rfl;have hA:Below w.heap.size w (w.alloc ZZ):=(Below.refl w.heap.size w).alloc (Nat.le_refl _) _;have HA:Hid (Below w.heap.size w (w.alloc ZZ)):=hA;have hidx:=fun wx=>yT wx l a ha
 obtain ⟨n,hn⟩:∃n,n=(l[a]).toNat:=⟨_,rfl⟩;rw [←hn] at hidx hk hk0 h34;have hn256:n<256:=by rw [hn];exact UInt8.toNat_lt _
 have c1:=yX n (w.alloc ZZ) hn256;have c0:=Yh n (w.alloc ZZ) hn256;have cq:=Uq l a (w.alloc ZZ) hl ha;rw [hk0] at c1;rw [hk] at c0;rw [World.size_alloc] at cq;obtain ⟨R,hR⟩:∃R,R=Zm (l.drop a):=⟨_,rfl⟩;have HTK:Hid (R.e=0→R.k=3∧R.n=0):=by rw [hR];exact zbm _ _ _ _
 rw [←hR] at cq ⊢;obtain ⟨X,hX⟩:∃X,X=(if R.e=0 then a+R.sz else 0:Nat):=⟨_,rfl⟩
 unfold qV at cq
 rw [←hX] at cq;have HXX:Hid (X=(if R.e=0 then a+R.sz else 0:Nat)):=hX
 clear hA hn hR hX;subst h34
 go_enter Tryz.func64,Tryz.ntmps64
 go_wp2_with fail
 refine c1.mono ?_;clear c1;rintro e w1 ⟨rfl,rfl⟩;go_wp2_with fail
 refine c0.mono ?_;clear c0;rintro e w1 ⟨rfl,rfl⟩;go_wp2_with fail
 refine cq.mono ?_;clear cq;rintro e w2 ⟨rfl,hb2⟩;obtain ⟨hc1,hf1⟩:=yW hb2;have HB:Hid (Below w.heap.size w w2):=HA.out.trans (hb2.mono (by omega))
 clear hb2;go_wp2
 refine bodyPost_ret (v:=X9 3 0 X R.e R.s) (by simp [results,Tryz.results64,go_sem,X9,hc1]) rfl ⟨⟨_,rfl,3,0,X,R.s,rfl,fun he=>?_⟩,Za HB.out _ _ _ _ _⟩
 obtain ⟨k1,k2⟩:=HTK.out he;have k3:=HXX.out;rw [if_pos he] at k3;exact ⟨k1.symm,rfl,k2.symm,k3⟩
theorem Q0 {n:Nat} {w w':World} (h:Below n w w') (k:Nat):Below n w (w'.drewN k) :=
 h.trans (⟨rfl,rfl,rfl,Nat.le_refl _,fun _ _=>rfl⟩:Below n w' (w'.drewN k))
theorem uS {r x:List UInt8}:Lib.hasPrefix r x=decide (r.take x.length=x):=by
 unfold Lib.hasPrefix
 rw [Bool.eq_iff_iff,List.isPrefixOf_iff_prefix,List.prefix_iff_eq_take,decide_eq_true_eq];exact eq_comm
theorem Ut (l:List UInt8) (a:Nat) (w:World) (hl:l.length≤5000) (ha:a<l.length) (hk0:Zg (l[a]).toNat=false) (hk:z6 (l[a]).toNat=false) (h34:(l[a]).toNat≠34) :
  Calls Tryz.prog 64 #[.string (za l),.int .i64 (a:Nat)] w fun e w'=>(∃v,e=.returned v∧rtR a (yH (l.drop a)) v)∧Below w.heap.size w w':=by
 have hsz:(za l).size=l.length:=rfl;have hA:Below w.heap.size w (w.alloc ZZ):=(Below.refl w.heap.size w).alloc (Nat.le_refl _) _;have HA:Hid (Below w.heap.size w (w.alloc ZZ)):=hA;have hidx:=fun wx=>yT wx l a ha
 obtain ⟨n,hn⟩:∃n,n=(l[a]).toNat:=⟨_,rfl⟩;rw [←hn] at hidx hk hk0 h34;have hn256:n<256:=by rw [hn];exact UInt8.toNat_lt _
 have c1:=yX n (w.alloc ZZ) hn256;have c0:=Yh n (w.alloc ZZ) hn256;have cs:=qC (w.alloc ZZ);rw [World.size_alloc] at cs;rw [hk0] at c1;rw [hk] at c0;have h34b:((n:Int)==34)=false:=by rw [beq_eq_false_iff_ne];omega
 clear hA hn
 go_enter Tryz.func64,Tryz.ntmps64
 go_wp2_with fail
 refine c1.mono ?_;clear c1;rintro e w1 ⟨rfl,rfl⟩;go_wp2_with fail
 refine c0.mono ?_;clear c0;rintro e w1 ⟨rfl,rfl⟩;go_wp2_with fail
 refine cs.mono ?_;clear cs;rintro e w2 ⟨rfl,hw2⟩
 have hcell:∀i (h:i<refSigns.length),w2.cell? ⟨w.heap.size+1,i,none⟩=some (.string (za (refSigns[i]'h))):=fun i h=>by
  have hh:=World.alloc_heap_new (w.alloc ZZ) (.cells (refSigns.map fun x=>Value.string (za x)).toArray 9)
  rw [World.size_alloc] at hh;rw [hw2,cell_of_row _ _ _ _ _ _ hh]
  simp [h]
 have hb2:Below (w.heap.size+1) (w.alloc ZZ) w2:=by
  rw [hw2];exact (Below.refl (w.heap.size+1) (w.alloc ZZ)).alloc (by simp) _
 have hz2:w2.heap.size=w.heap.size+2:=by rw [hw2];simp
 have HCELL:Hid (∀i (h:i<refSigns.length),w2.cell? ⟨w.heap.size+1,i,none⟩=some (.string (za (refSigns[i]'h)))):=hcell;have HB2:Hid (Below (w.heap.size+1) (w.alloc ZZ) w2):=hb2;have HZ2:Hid (w2.heap.size=w.heap.size+2):=hz2;clear hw2 hcell hb2 hz2 hidx;go_wp2
 go_loopw [15] (fun v wr=>∃i:Nat,i≤25∧v=.int .i64 i∧(∀x∈refSigns.take i,Lib.hasPrefix (l.drop a) x=false)∧Below w2.heap.size w2 wr) (fun v _=>25-(intOf v).toNat)
 case atStart=>exact ⟨0,Nat.zero_le _,rfl,fun x hx=>by simp at hx,Below.refl _ _⟩
 case round =>
  obtain ⟨i,hi,rfl,hall,hbr⟩:=hrel;have HAL:Hid (∀x∈refSigns.take i,Lib.hasPrefix (l.drop a) x=false):=hall;have hb3:Below (w.heap.size+1) (w.alloc ZZ) wr:=HB2.out.trans (hbr.mono (by rw [HZ2.out];omega))
  obtain ⟨hc1,hf1⟩:=yW hb3;have HB:Hid (Below w.heap.size w wr):=HA.out.trans (hb3.mono (by omega))
  have HBR:Hid (Below w2.heap.size w2 wr):=hbr;clear hall hb3
  by_cases hlt:i<25
  ·have hlt':i<refSigns.length:=hlt
   have hcx:=(zai (j:=i) hbr (by rw [HZ2.out];omega)).trans (HCELL.out i hlt')
   have hx2:1≤(refSigns[i]'hlt').length∧(refSigns[i]'hlt').length≤2:=by
    have:∀x∈refSigns,1≤x.length∧x.length≤2:=by decide
    exact this _ (List.getElem_mem _)
   obtain ⟨x,hx⟩:∃x,x=refSigns[i]'hlt':=⟨_,rfl⟩;rw [←hx] at hcx hx2;have HX:Hid (x=refSigns[i]'hlt'):=hx;have hsx:(za x).size=x.length:=rfl;obtain ⟨hx1,hx3⟩:=hx2
   have HNX:Hid (Lib.hasPrefix (l.drop a) x=false→∀y∈refSigns.take (i+1),Lib.hasPrefix (l.drop a) y=false):=fun hf y hy=>by
    rw [List.take_succ_eq_append_getElem hlt'] at hy;rcases List.mem_append.1 hy with h | h
    ·exact HAL.out y h
    ·rw [List.mem_singleton] at h;rw [h,←HX.out];exact hf
   clear hx hbr;have hi25:(i:Int)<25:=by omega
   by_cases hlen:a+x.length≤l.length
   ·have hd:decide ((a:Int)+(x.length:Int)≤(l.length:Int))=true:=by simp;omega
    have hsub:=fun wx=>Xf wx l a x.length hlen
    obtain ⟨y,hy⟩:∃y,y=(l.drop a).take x.length:=⟨_,rfl⟩;rw [←hy] at hsub
    by_cases he:y=x
    ·have HP:Hid (Lib.hasPrefix (l.drop a) x=true):=by show _=true;rw [uS,←hy];exact decide_eq_true he
     have HBS:Hid (bestS (l.drop a) 25=x):=by
      have h:=zcN hlt' HAL.out (by rw [←HX.out];exact HP.out)
      show _=x
      rw [h,←HX.out]
     have HR:Hid (yH (l.drop a)=⟨4,x,0,x.length,0⟩):=by
      show _=_
      unfold yH
      rw [HBS.out,if_neg (fun e=>by rw [e] at hx1;simp at hx1)]
     clear hy;subst he;go_wp2
     go_quiet (fail)
     go_wp2
     go_region
     all_goals go_wp2
     all_goals refine bodyPost_ret (v:=X9 4 0 (a+y.length) 0 y) (by simp [results,Tryz.results64,go_sem,X9,hc1]) rfl ⟨⟨_,rfl,vO HR.out⟩,?_⟩
     all_goals exact Za (Q0 HB.out _) _ _ _ _ _
    ·have hbe:(y==x)=false:=by rw [zdC];exact decide_eq_false he
     have HF:Hid (Lib.hasPrefix (l.drop a) x=false):=by show _=false;rw [uS,←hy];exact decide_eq_false he
     clear hy he;go_wp2
     go_quiet (fail)
     go_wp2
     refine ⟨⟨i+1,by omega,by go_num,HNX.out HF.out,HBR.out.trans (⟨rfl,rfl,rfl,Nat.le_refl _,fun _ _=>rfl⟩:Below w2.heap.size wr (wr.drewN nq))⟩,by simp [intOf];omega⟩
   ·have hd:decide ((a:Int)+(x.length:Int)≤(l.length:Int))=false:=by simp;omega
    have HF:Hid (Lib.hasPrefix (l.drop a) x=false):=by
     show _=false
     rw [uS];refine decide_eq_false (fun e=>?_)
     have:=congrArg List.length e
     rw [List.length_take,List.length_drop] at this;omega
    go_wp2
    go_quiet (fail)
    go_wp2
    refine ⟨⟨i+1,by omega,by go_num,HNX.out HF.out,HBR.out.trans (⟨rfl,rfl,rfl,Nat.le_refl _,fun _ _=>rfl⟩:Below w2.heap.size wr (wr.drewN nq))⟩,by simp [intOf];omega⟩
  ·obtain rfl:i=25:=by omega
   have HR:Hid (yH (l.drop a)=⟨0,[],0,0,6⟩):=by
    show _=_
    unfold yH
    rw [zbR HAL.out,if_pos rfl]
   clear hbr;go_wp2
   exact bodyPost_ret (v:=X9 0 0 0 6 []) (by simp [results,Tryz.results64,go_sem,X9,hc1]) rfl ⟨⟨_,rfl,Vg (by rw [HR.out]) (by decide)⟩,Za HB.out _ _ _ _ _⟩
theorem Xs (l:List UInt8) (a:Nat) (w:World) (hl:l.length≤5000) (ha:a<l.length) :
  Calls Tryz.prog 64 #[.string (za l),.int .i64 (a:Nat)] w fun e w'=>(∃v,e=.returned v∧rtR a (zR (l.drop a)) v)∧Below w.heap.size w w':=by
 have hd:l.drop a=l[a]::l.drop (a+1):=List.drop_eq_getElem_cons ha
 have ht:zR (l.drop a)=if Zg (l[a]).toNat=true then Z4 (l.drop a) else if z6 (l[a]).toNat=true then Yr (l.drop a) else if (l[a]).toNat=34 then Zm (l.drop a) else yH (l.drop a):=by
  rw [hd];rfl
 rw [ht];cases h1:Zg (l[a]).toNat with
 | true=>rw [if_pos rfl];exact Ur l a w hl ha h1
 | false =>
  rw [if_neg (by simp)]
  cases h2:z6 (l[a]).toNat with
  | true=>rw [if_pos rfl];exact qD l a w hl ha h1 h2
  | false =>
   rw [if_neg (by simp)]
   by_cases h3:(l[a]).toNat=34
   ·rw [if_pos h3];exact Us l a w hl ha h1 h2 h3
   ·rw [if_neg h3];exact Ut l a w hl ha h1 h2 h3
end Go.Proofs.YtdgpapchkpnijaaGreatDoor
