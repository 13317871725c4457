import Derived.Test.YtpejpbbdgblbeaaGreatDoorSDProg
import Derived.Test.YtpejpbbdgblbeaaGreatDoorSDSmallP
import Derived.Test.YtpejpbbdgblbeaaGreatDoorMC49
import Derived.Test.YtpejpbbdgblbeaaGreatDoorMC30
import Derived.Test.YtpejpbbdgblbeaaGreatDoorMC31
import Derived.Test.YtpejpbbdgblbeaaGreatDoorMC47
import Derived.Test.YtpejpbbdgblbeaaGreatDoorMC34
import Derived.Test.YtpejpbbdgblbeaaGreatDoorMC24
namespace Go.Proofs.YtpejpbbdgblbeaaGreatDoor
open Go.RowKit Go.Shelf
set_option maxHeartbeats 16000000
set_option maxRecDepth 100000
def zhs (base:Option Addr) (w:World) (i:Nat) (x:Fc):Prop:=∃(b o:Nat) (bg:Option Addr) (mg cg:Nat),base=some ⟨b,o,none⟩∧b<w.heap.size∧w.cell? ⟨b,o+i*5+3,none⟩=some (.slice bg mg cg) ∧
 Hid (∀wx,Below w.heap.size w wx→Calls Tryz.prog 27 #[.slice bg mg cg] wx fun e w'=>e=.returned (.int .i64 (depthSs x.body:Int))∧Below wx.heap.size wx w')
theorem xy.dps {S:Nat→Prop} {w:World} {x:Pg} {v:Value} (h:xy S w x v) (hS:∀k,S k→k<w.heap.size→k<w.heap.size) (hok:zaM x=true) (hd:depthFs x.funs≤1000000):∃b m cap b2 m2 cap2,v=.agg #[.slice b m cap,.slice b2 m2 cap2]∧m2=x.funs.length∧m2≤maxLen∧∀i y,x.funs[i]?=some y→zhs b2 w i y:=by
 obtain ⟨b,m,cap,b2,m2,cap2,rfl,r1,f1⟩:=h.pz (B:=w.heap.size) hS hok;refine ⟨b,m,cap,b2,m2,cap2,rfl,by have:=f1.1;unfold pgz at this;simpa using this,by have:=f1.1;have:=f1.2.1;have:=f1.2.2.1;omega,fun i y hy=>?_⟩
 obtain ⟨bb,o,c,e1,hlt,-,-,hp,hc⟩:=f1.2.2.2 i (fcz y) (by unfold pgz;simp [List.getElem?_map,hy])
 obtain ⟨bf,mf,cf,bg,mg,cg,rfl,-,-,-,hg⟩:=hp;refine ⟨bb,o,bg,mg,cg,e1,hlt,hc 3 _ rfl,fun wx hwx=>?_⟩
 have hm:=v6 (List.mem_of_getElem? hy);have h9:=zdk (Qs x) (V8 y.body) bg mg cg wx (hg.near hwx fun z c h=>ZT.wide hwx.size _ z c (ZT.kept hwx _ z c h)) (by rw [Vd];omega)
 rw [Vd] at h9;exact h9
theorem zdq {l:List Fc} (h:∀(i:Nat) (y:Fc),l[i]?=some y→depthSs y.body≤24):depthFs l≤24:=by
 induction l with
 | nil=>simp [depthFs]
 | cons y ys ih =>
  have h1:=h 0 y (by simp)
  have h2:=ih fun i z hz=>h (i+1) z (by simpa using hz)
  rw [depthFs];omega
def zie (l:List UInt8) (w:World) (e:Ending) (w':World):Prop:=∃(x:Pg) (at0 err:Nat) (v:Value),e=.returned (.tuple #[v,.int .i64 at0,.int .i64 err])∧yx l x at0 err∧zaM x=true∧x.recs.length+Vr x.funs≤5000∧YH w.heap.size w' x v∧Below w.heap.size w w'
theorem zaQ (l:List UInt8) (w:World) :
  Calls Tryz.prog 9 #[.string (za l)] w (zie l w):=by
 obtain ⟨w0,hw0⟩:∃w0,w0=w.alloc xg:=⟨_,rfl⟩;have cs:=zcb l w0;have hs0:w0.heap.size=w.heap.size+1:=by rw [hw0];simp
 have hb0:Below w.heap.size w w0:=by rw [hw0];exact (Below.refl _ w).alloc (Nat.le_refl _) _
 have p0:w0.heap[w.heap.size]?=some xg:=by rw [hw0];exact World.alloc_heap_new w _
 have hw0':=hw0.symm;have HB0:Hid (Below w.heap.size w w0∧w0.heap.size=w.heap.size+1∧w0.heap[w.heap.size]?=some xg):=⟨hb0,hs0,p0⟩;clear hw0 hs0 hb0 p0
 go_enter Tryz.func9,Tryz.ntmps9
 go_wp2_with fail
 refine cs.mono ?_;clear cs hw0';rintro e w1 ⟨v,rfl,hown,hb1⟩;obtain ⟨hb0,hs0,p0⟩:=HB0.out;have p1:w1.heap[w.heap.size]?=some xg:=(hb1.block _ (by omega)).trans p0
 have hb01:Below w.heap.size w w1:=hb0.trans (hb1.mono (by omega))
 have hs1:=hb1.size;obtain ⟨a0,a1,af⟩:=zZ p1
 by_cases herr:(zC l).2.2≠0
 ·have HI:Hid (yx l xe (zC l).2.1 (zC l).2.2):=show yx _ _ _ _ by unfold yx;rw [if_pos herr];exact ⟨rfl,rfl,rfl⟩
  have herr':¬((zC l).2.2:Int)=0:=by omega
  generalize (zC l).2.1=A at *;generalize (zC l).2.2=E at *;have h1:((E:Int)==0)=false:=by rw [beq_eq_false_iff_ne];exact herr'
  have h2:((E:Int) != 0)=true:=by simp [bne,h1]
  obtain ⟨z0,z1⟩:=Yi p1 (.slice none 0 0) (.slice none 0 0);have HB3:Hid (Below w.heap.size w (vh w1 w.heap.size (.slice none 0 0) (.slice none 0 0))):=(hb01.setCell (p:=⟨w.heap.size,0,none⟩) (by simp) _).setCell (p:=⟨w.heap.size,1,none⟩) (by simp) _
  clear hb0 hs0 p0 p1 hb01 hs1 hb1 hown HB0;go_wp2
  exact bodyPost_ret (v:=.tuple #[.agg #[.slice none 0 0,.slice none 0 0],.int .i64 A,.int .i64 E]) (by simp [results,Tryz.results9,go_sem,z0,z1]) rfl ⟨xe,A,E,_,rfl,HI.out,rfl,by simp [Vr],zbO _ _,HB3.out⟩
 ·have herr0:(zC l).2.2=0:=by simpa using herr
  have hE:=V1 l herr0;obtain ⟨t0,ts0,hts⟩:=hE.cons;obtain ⟨g,cap,rfl,hg,hgl,hcap,hmax,hcell⟩:∃g cap,v=.slice (some ⟨g,0,none⟩) (zC l).1.length cap∧w0.heap.size≤g∧g<w1.heap.size∧(zC l).1.length≤cap∧cap≤maxLen∧∀j u,(z8 (zC l).1)[j]?=some u→w1.cell? ⟨g,j,none⟩=some u:=XK hown (by rw [hts];simp)
  have hlen:=Uf l;have hsm:=Uz l;have hs5:=zhc l;obtain ⟨f,res,hf,-⟩:=qy (zC l).1.length (zC l).1 (Nat.le_refl _) hE [] [];have hp:ZR f [] [] (zC l).1=some res:=hf 0;obtain ⟨q,hq,hA⟩:=V6 f [] [] (zC l).1 res hp hE (fun t ht=>(hsm t ht).2) (3*f+(zC l).1.length+12) (Nat.le_refl _)
  have HOK:Hid (∀x us,res=.ok (x,us)→(zx us).k=0∧zaM x=true∧x.recs.length+Vr x.funs≤5000∧depthFs x.funs≤1000000):=fun x us h=>by
   subst h;obtain ⟨h1,h2,h3⟩:=uh f [] [] _ _ _ hp hE hs5 (by omega) rfl rfl
   have h4:=vG (zC l).1.length f [] [] _ _ _ hp hE (by simp [depthFs])
   simp only [List.length_nil,Vr] at h3;exact ⟨h1,h2,by omega,by omega⟩
  have HI:Hid (∀x at0 err,(match Yj res with | .error a=>x=xe∧at0=a∧err=6 | .ok y=>if 24<depthFs y.funs then x=xe∧at0=0∧err=7 else x=y∧at0=0∧err=0)→yx l x at0 err):=fun x at0 err h=>by
   unfold yx
   rw [if_neg herr];exact ⟨f,res,hp,h⟩
  obtain ⟨R,hR⟩:∃R,R=w1.heap.size:=⟨_,rfl⟩;obtain ⟨w2,hw2⟩:∃w2,w2=w1.alloc (.cells #[.slice (some ⟨g,0,none⟩) (zC l).1.length cap,.int .i64 0,.bool false] 63):=⟨_,rfl⟩
  have hrd2:zz R g (false,(zC l).1) w2:=by
   refine ⟨0,cap,(zC l).1,rfl,by rw [hts];simp,?_,by omega,?_,hcap,hmax,by omega,fun j u hj=>?_,hE⟩
   ·rw [hw2,hR];exact World.alloc_heap_new _ _
   ·rw [hw2];simp;omega
   ·rw [hw2];exact ze (hcell j u hj) _
  have hk2:Below w.heap.size w w2:=by rw [hw2];exact hb01.alloc (by omega) _
  have p2:w2.heap[w.heap.size]?=some xg:=by rw [hw2,Below.heap_alloc _ _ _ (by omega)];exact p1
  have hs2:R<w2.heap.size:=by rw [hw2,hR];simp
  have ce:Calls Tryz.prog 25 #[.pointer (some ⟨R,0,none⟩)] w2 (zdi R g w2 q):=zeT R g _ _ w2 q hrd2 hq fun t ht=>by have:=(hs5 t ht).2;omega
  have HK2:Hid (Below w.heap.size w w2∧w2.heap[w.heap.size]?=some xg∧R<w2.heap.size∧w.heap.size<R):=⟨hk2,p2,hs2,by omega⟩
  have hw2':=hw2.symm;have h1:(((zC l).2.2:Nat):Int)=0:=by rw [herr0];rfl
  generalize (zC l).2.1=A at *;generalize (zC l).2.2=E at *;subst herr0;generalize (zC l).1.length=LL at *;clear hb0 hs0 p0 p1 hb01 hs1 hb1 hown HB0 hrd2 hk2 p2 hs2 hw2 hcell hcap hmax hgl hg hlen hf hp hq hsm hs5 hE hts herr h1;go_wp2_with fail
  rw [←hR];refine ce.mono ?_;clear ce hw2' a0 a1 af hR;rintro e w3 ⟨hk3,v,rfl,hx,hrd⟩;obtain ⟨s0,s1,s2,d0,d1,d2,rfl⟩:=hx.agg;obtain ⟨hk2,p2,hs2,hwR⟩:=HK2.out;have hs3:=hk3.size;obtain ⟨N,hN⟩:∃N,N=w3.heap.size:=⟨_,rfl⟩;obtain ⟨w4,hw4⟩:∃w4,w4=w3.alloc (vF (.slice s0 s1 s2) (.slice d0 d1 d2)):=⟨_,rfl⟩
  have hkW:Below w.heap.size w w4:=by
   rw [hw4];exact Below.alloc ⟨hk3.os.trans hk2.os,hk3.tape.trans hk2.tape,hk3.output.trans hk2.output,Nat.le_trans hk2.size hk3.size,fun i hi=>(hk3.block i (by have:=hk2.size;omega) (by omega)).trans (hk2.block i hi)⟩ (by have:=hk2.size;omega) _
  have p4:w4.heap[w.heap.size]?=some xg:=by rw [hw4,Below.heap_alloc _ _ _ (by omega),hk3.block _ (by omega) (by omega)];exact p2
  have n4:w4.heap[N]?=some (vF (.slice s0 s1 s2) (.slice d0 d1 d2)):=by rw [hw4,hN];exact World.alloc_heap_new _ _
  have hx4:xy (fun k=>w2.heap.size≤k) w4 q.1 (.agg #[.slice s0 s1 s2,.slice d0 d1 d2]):=by rw [hw4];exact hx.kept (by simp) fun i _ hi=>Below.heap_alloc _ _ _ hi
  have hrd4:zz R g q.2 w4:=by rw [hw4];exact hrd.alloc _
  have HW4:Hid (Below w.heap.size w w4∧w4.heap[w.heap.size]?=some xg∧w4.heap[N]?=some (vF (.slice s0 s1 s2) (.slice d0 d1 d2))∧w.heap.size<w2.heap.size∧w.heap.size<N):=⟨hkW,p4,n4,by omega,by omega⟩
  have HX4:Hid (xy (fun k=>w2.heap.size≤k) w4 q.1 (.agg #[.slice s0 s1 s2,.slice d0 d1 d2])):=hx4
  have HR4:Hid (zz R g q.2 w4):=hrd4;obtain ⟨pp,cp,TS,hbk⟩:=hrd4;obtain ⟨m0,m1,m2,mf⟩:=ZN hbk.blk;have hw4':=hw4.symm;have hN':=hN.symm;have HQ:Hid (Xt res q):=hA
  -- what is done where it is none
  have HNO:Hid (∀W at0 err,Below w4.heap.size w4 W→yx l xe at0 err→W.heap[w.heap.size]?=some xg∧zie l w (.returned (.tuple #[.agg #[.slice none 0 0,.slice none 0 0],.int .i64 at0,.int .i64 err])) (vh W w.heap.size (.slice none 0 0) (.slice none 0 0))):=by
   intro W at0 err hW hI;obtain ⟨hkW,p4,n4,h9,h8⟩:=HW4.out;have hWW:Below w.heap.size w W:=zi hkW hW;exact ⟨(hW.block _ (by have:=(Array.getElem?_eq_some_iff.1 p4).1;omega)).trans p4,xe,at0,err,_,rfl,hI,rfl,by simp [Vr],zbO _ _,(hWW.setCell (p:=⟨w.heap.size,0,none⟩) (by simp) _).setCell (p:=⟨w.heap.size,1,none⟩) (by simp) _⟩
  have hf4:=zba;clear hk3 hx hrd hk2 p2 hs2 hwR hs3 hN hw4 hkW p4 n4 hx4 hbk HK2 hA;obtain ⟨x,bd,us⟩:=q;simp only at m2;cases bd
  ·
   obtain ⟨y,us',rfl⟩:∃y us',res=.ok (y,us'):=by
    rcases res with a | ⟨y,us'⟩
    ·exact absurd HQ.out.1 (by simp)
    ·exact ⟨y,us',rfl⟩
   obtain ⟨rfl,rfl⟩:x=y∧us=us':=by have:=HQ.out;simp only [Xt,Prod.mk.injEq,true_and] at this;exact this
   obtain ⟨hk0,hok,hcn,hdp⟩:=HOK.out _ _ rfl
   have HI2:Hid (∀x0 at0 err,(if 24<depthFs x.funs then x0=xe∧at0=0∧err=7 else x0=x∧at0=0∧err=0)→yx l x0 at0 err):=fun x0 at0 err h=>HI.out x0 at0 err (by
    have:Yj (.ok (x,us))=.ok x:=by unfold Yj;simp only [if_pos hk0]
    rw [this]
    exact h)
   obtain ⟨-,-,n4,-,-⟩:=HW4.out;obtain ⟨e0,e1,ef⟩:=zZ n4;have hPB:w4.heap.size≤w4.heap.size:=Nat.le_refl _;obtain ⟨b,m,cap',b2,m2',cap2,hv,hm2,hmx,hdps⟩:=HX4.out.dps (fun k _ h=>h) hok hdp
   obtain ⟨rfl,rfl,rfl,rfl,rfl,rfl⟩:s0=b∧s1=m∧s2=cap'∧d0=b2∧d1=m2'∧d2=cap2:=by
    simp only [Value.agg.injEq,Array.mk.injEq,List.cons.injEq,Value.slice.injEq,and_true] at hv;obtain ⟨⟨a,b,c⟩,d,e,f⟩:=hv;exact ⟨a,b,c,d,e,f⟩
   have HDP:Hid (∀i y,x.funs[i]?=some y→zhs d0 w4 i y):=hdps;have HM2:Hid (d1=x.funs.length):=hm2;have HOK2:Hid (zaM x=true∧x.recs.length+Vr x.funs≤5000∧depthFs x.funs≤1000000):=⟨hok,hcn,hdp⟩;have hmx':d1≤9223372036854775807:=by unfold maxLen at hmx;omega
   have HB4:Hid (Below w4.heap.size w4 w4):=Below.refl _ _;clear HI HOK HQ hk0 hok hcn hdp n4 hv hm2 hmx hdps HR4 hPB;go_wp2_with fail
   go_loopw [10] (fun vi wr=>∃i:Nat,i≤d1∧vi=.int .i64 (i:Int)∧Below w4.heap.size w4 wr∧∀(j:Nat) (y:Fc),j<i→x.funs[j]?=some y→depthSs y.body≤24) (fun vi _=>d1-(intOf vi).toNat)
   case atStart=>exact ⟨0,Nat.zero_le _,rfl,HB4.out,fun j y hj=>by omega⟩
   case round =>
    obtain ⟨i,hi,rfl,hbr,hall⟩:=hrel;clear e0 e1 ef m0 m1 m2 mf HB4 hw4' hN';have HB:Hid (Below w4.heap.size w4 wr):=hbr;have HALL:Hid (∀(j:Nat) (y:Fc),j<i→x.funs[j]?=some y→depthSs y.body≤24):=hall;obtain ⟨hkW,p4,n4,h9,h8⟩:=HW4.out;have hl4:=(Array.getElem?_eq_some_iff.1 p4).1;have hn4:=(Array.getElem?_eq_some_iff.1 n4).1;have nr:=(hbr.block _ hn4).trans n4;have pr:=(hbr.block _ hl4).trans p4;have HPN:Hid (wr.heap[w.heap.size]?=some xg∧wr.heap[N]?=some (vF (.slice s0 s1 s2) (.slice d0 d1 d2))):=⟨pr,nr⟩;obtain ⟨e0,e1,ef⟩:=zZ nr;clear hkW p4 n4 h9 h8 hl4 hn4 nr pr hall hbr
    by_cases hlt:i<d1
    ·have hi2:(i:Int)<d1:=by omega
     obtain ⟨y,hy⟩:∃y,x.funs[i]?=some y:=⟨x.funs[i]'(by rw [←HM2.out];exact hlt),List.getElem?_eq_getElem (by rw [←HM2.out];exact hlt)⟩
     have HY:Hid (x.funs[i]?=some y):=hy;obtain ⟨bb,o,bg,mg,cg,hbe,hb,q3,cd⟩:=HDP.out i y hy;have HDC:Hid (Calls Tryz.prog 27 #[.slice bg mg cg] wr fun e w'=>e=.returned (.int .i64 (depthSs y.body:Int))∧Below wr.heap.size wr w'):=cd.out wr HB.out
     have d3:=(HB.out.cell (p:=⟨bb,o+i*5+3,none⟩) hb).trans q3;subst hbe;have cdd:=HDC.out;obtain ⟨D,hD⟩:∃D,D=depthSs y.body:=⟨_,rfl⟩;have HDD:Hid (D=depthSs y.body):=hD;rw [←hD] at cdd;clear hy q3 cd HDC hD;go_wp2_with fail
     refine cdd.mono ?_;clear cdd d3 e0 e1 ef;rintro e w5 ⟨rfl,hb5⟩;have hb45:Below w4.heap.size w4 w5:=zi HB.out hb5;have HB5:Hid (Below w4.heap.size w4 w5):=hb45
     by_cases hd:24<D
     ·have hd':(24:Int)<(D:Int):=by omega
      obtain ⟨p6,hres⟩:=HNO.out w5 0 7 hb45 (HI2.out xe 0 7 (by rw [if_pos (by have h1:=v6 (List.mem_of_getElem? HY.out);have h2:=HDD.out;omega)];exact ⟨rfl,rfl,rfl⟩))
      have HRES:=(show Hid _ from hres)
      obtain ⟨q0,q1,qf⟩:=zZ p6;obtain ⟨z0,z1⟩:=Yi p6 (.slice none 0 0) (.slice none 0 0);clear hb5 hb45 p6 hres HX4 HW4 HI2 HNO HB5 HB HALL HDP HOK2 HPN HY HDD;go_wp2
      exact bodyPost_ret (v:=.tuple #[.agg #[.slice none 0 0,.slice none 0 0],.int .i64 0,.int .i64 7]) (by simp [results,Tryz.results9,go_sem,z0,z1]) rfl HRES.out
     ·have hd':¬ (24:Int)<(D:Int):=by omega
      have HALL2:Hid (∀(j:Nat) (z:Fc),j<i+1→x.funs[j]?=some z→depthSs z.body≤24):=fun j z hj hz=>by
       by_cases h:j<i
       ·exact HALL.out j z h hz
       ·obtain rfl:j=i:=by omega
        have h1:=HY.out;rw [hz] at h1;obtain rfl:=Option.some.inj h1;have h2:=HDD.out;omega
      clear hb5 hb45 HALL HY HDD HPN;go_wp2
      exact ⟨⟨i+1,by omega,by go_num,HB5.out,HALL2.out⟩,by simp [intOf];omega⟩
    ·obtain rfl:i=d1:=by omega
     have hi2:¬ (i:Int)<i:=by omega
     have hd:¬ 24<depthFs x.funs:=by
      have:=zdq (l:=x.funs) fun j z hz=>HALL.out j z (by rw [HM2.out];exact (List.getElem?_eq_some_iff.1 hz).1) hz
      omega
     obtain ⟨hkW,p4,n4,h9,h8⟩:=HW4.out;have hWr:Below w.heap.size w wr:=zi hkW HB.out;have hx5:xy (fun k=>w2.heap.size≤k) wr x (.agg #[.slice s0 s1 s2,.slice d0 i d2]):=HX4.out.kept HB.out.size fun k _ hlt=>HB.out.block k hlt
     have HRES:Hid (zie l w (.returned (.tuple #[.agg #[.slice s0 s1 s2,.slice d0 i d2],.int .i64 0,.int .i64 0])) (vh wr w.heap.size (.slice s0 s1 s2) (.slice d0 i d2))) :=
      ⟨x,0,0,_,rfl,HI2.out x 0 0 (by rw [if_neg hd];exact ⟨rfl,rfl,rfl⟩),HOK2.out.1,HOK2.out.2.1,(hx5.kept (by simp) fun k hk _=>Vk _ _ _ _ (by omega)).wide fun k hk=>by omega,(hWr.setCell (p:=⟨w.heap.size,0,none⟩) (by simp) _).setCell (p:=⟨w.heap.size,1,none⟩) (by simp) _⟩
     obtain ⟨q0,q1,qf⟩:=zZ HPN.out.1;obtain ⟨z0,z1⟩:=Yi HPN.out.1 (.slice s0 s1 s2) (.slice d0 i d2);clear hd hkW p4 n4 h9 h8 hWr hx5 HX4 HW4 HI2 HNO HB HALL HDP HOK2 HM2;go_wp2
     exact bodyPost_ret (v:=.tuple #[.agg #[.slice s0 s1 s2,.slice d0 i d2],.int .i64 0,.int .i64 0]) (by simp [results,Tryz.results9,go_sem,z0,z1]) rfl HRES.out
  ·
   obtain ⟨a',rfl⟩:∃a',res=.error a':=by
    rcases res with a | ⟨y,us'⟩
    ·exact ⟨a,rfl⟩
    ·have:=HQ.out;simp only [Xt,Prod.mk.injEq,Bool.true_eq_false,false_and,and_false] at this
   have hat:(zx us).at0=a':=HQ.out.2;have HI3:Hid (yx l xe a' 6):=HI.out xe a' 6 ⟨rfl,rfl,rfl⟩;have ct:=xO R g (true,us) w4 HR4.out;obtain ⟨t,ht⟩:∃t,t=zx us:=⟨_,rfl⟩;simp only at ct;rw [←ht] at ct hat;subst hat;clear HI HOK HQ ht;go_wp2_with fail
   refine ct.mono ?_;clear ct m0 m1 m2 mf hw4';rintro e w6 ⟨rfl,hb6⟩;obtain ⟨p6,hres⟩:=HNO.out w6 t.at0 6 hb6 HI3.out;have HRES:=(show Hid _ from hres)
   obtain ⟨q0,q1,qf⟩:=zZ p6;obtain ⟨z0,z1⟩:=Yi p6 (.slice none 0 0) (.slice none 0 0);clear hb6 p6 hres HX4 HW4 HI3 HNO HR4;simp only [Xc];go_wp2
   exact bodyPost_ret (v:=.tuple #[.agg #[.slice none 0 0,.slice none 0 0],.int .i64 t.at0,.int .i64 6]) (by simp [results,Tryz.results9,go_sem,z0,z1]) rfl HRES.out
theorem zci {l:List UInt8} {x x':Pg} {a a' e e':Nat} (h:yx l x a e) (h':yx l x' a' e'):x=x'∧a=a'∧e=e':=by
 unfold yx at h h'
 by_cases hc:(zC l).2.2≠0
 ·rw [if_pos hc] at h h'
  exact ⟨h.1.trans h'.1.symm,h.2.1.trans h'.2.1.symm,h.2.2.trans h'.2.2.symm⟩
 ·rw [if_neg hc] at h h'
  obtain ⟨f,r,h1,h2⟩:=h;obtain ⟨f',r',h1',h2'⟩:=h';obtain rfl:=qO h1 h1';cases hw:Yj r with
  | error b =>
   rw [hw] at h2 h2';exact ⟨h2.1.trans h2'.1.symm,h2.2.1.trans h2'.2.1.symm,h2.2.2.trans h2'.2.2.symm⟩
  | ok y =>
   rw [hw] at h2 h2';simp only at h2 h2'
   by_cases hd:24<depthFs y.funs
   ·rw [if_pos hd] at h2 h2'
    exact ⟨h2.1.trans h2'.1.symm,h2.2.1.trans h2'.2.1.symm,h2.2.2.trans h2'.2.2.symm⟩
   ·rw [if_neg hd] at h2 h2'
    exact ⟨h2.1.trans h2'.1.symm,h2.2.1.trans h2'.2.1.symm,h2.2.2.trans h2'.2.2.symm⟩
theorem zgp (x:Pz):SmP x x where
 rl:=rfl
 fl:=rfl
 r:=fun i a b ha hb=>by rw [ha] at hb;obtain rfl:=Option.some.inj hb;exact ⟨rfl,rfl⟩
 f:=fun i a b ha hb=>by rw [ha] at hb;obtain rfl:=Option.some.inj hb;exact ⟨rfl,rfl,rfl,Vm _⟩
theorem zdr (l:List UInt8) (w:World) (hS:ua w) :
  Calls Tryz.prog 3 #[.string (za l)] w fun e w'=>e=.returned (.bool true)∧Below w.heap.size w w':=by
 have c1:=zc7 l w hS.1.1 hS.2.1 hS.2.2;have HS:Hid (∀W,Below w.heap.size w W→ua W):=fun W hW=>hS.below hW
 clear hS
 go_enter Tryz.func3,Tryz.ntmps3
 go_wp2_with fail
 refine c1.mono ?_;clear c1;rintro e w1 ⟨x,at0,err,v,rfl,hI,hx,hb1⟩;obtain ⟨s0,s1,s2,d0,d1,d2,rfl⟩:=xy.agg hx;obtain ⟨A,hA⟩:∃A,A=w1.heap.size:=⟨_,rfl⟩;obtain ⟨w2,hw2⟩:∃w2,w2=w1.alloc (.cells #[.slice s0 s1 s2,.slice d0 d1 d2] 25):=⟨_,rfl⟩;have hb2:Below w.heap.size w w2:=by rw [hw2];exact hb1.alloc hb1.size _
 have pA:w2.heap[A]?=some (.cells #[.slice s0 s1 s2,.slice d0 d1 d2] 25 (0,0)):=by rw [hw2,hA];exact World.alloc_heap_new _ _
 have hx2:YH w.heap.size w2 x (.agg #[.slice s0 s1 s2,.slice d0 d1 d2]):=by rw [hw2];exact YH.kept hx (by simp) fun i _ hi=>Below.heap_alloc _ _ _ hi
 have H2:Hid (Below w.heap.size w w2∧w2.heap[A]?=some (.cells #[.slice s0 s1 s2,.slice d0 d1 d2] 25 (0,0))∧YH w.heap.size w2 x (.agg #[.slice s0 s1 s2,.slice d0 d1 d2])):=⟨hb2,pA,hx2⟩;have c2:=zaQ l w2;have HI:Hid (yx l x at0 err):=hI;have hw2':=hw2.symm;have hA':=hA.symm;clear hb2 pA hx2 hw2 hA hx hb1 hI;go_wp2_with fail
 refine c2.mono ?_;clear c2 hw2' hA';rintro e w3 ⟨x',at0',err',v',rfl,hI',hok,hcn,hx',hb3⟩;obtain ⟨rfl,rfl,rfl⟩:=zci HI.out hI';obtain ⟨s0',s1',s2',d0',d1',d2',rfl⟩:=xy.agg hx';obtain ⟨hb2,pA,hx2⟩:=H2.out;obtain ⟨B,hB⟩:∃B,B=w3.heap.size:=⟨_,rfl⟩;obtain ⟨w4,hw4⟩:∃w4,w4=w3.alloc (.cells #[.slice s0' s1' s2',.slice d0' d1' d2'] 25):=⟨_,rfl⟩;have hb4:Below w2.heap.size w2 w4:=by rw [hw4];exact hb3.alloc hb3.size _
 have hlA:A<w2.heap.size:=(Array.getElem?_eq_some_iff.1 pA).1;have pA4:=(hb4.block _ hlA).trans pA;have pB4:w4.heap[B]?=some (.cells #[.slice s0' s1' s2',.slice d0' d1' d2'] 25 (0,0)):=by rw [hw4,hB];exact World.alloc_heap_new _ _
 have hx4:YH w.heap.size w4 x (.agg #[.slice s0 s1 s2,.slice d0 d1 d2]):=YH.kept hx2 hb4.size fun i _ hi=>hb4.block i hi
 have hx4':YH w2.heap.size w4 x (.agg #[.slice s0' s1' s2',.slice d0' d1' d2']):=by rw [hw4];exact YH.kept hx' (by simp) fun i _ hi=>Below.heap_alloc _ _ _ hi
 have hez:Xo w4.heap.size w4 (Qs x) (pgz x) (.agg #[.slice s0 s1 s2,.slice d0 d1 d2]):=xy.pz hx4 (fun i _ hi=>hi) hok
 have hez':Xo w4.heap.size w4 (Qs x) (pgz x) (.agg #[.slice s0' s1' s2',.slice d0' d1' d2']):=xy.pz hx4' (fun i _ hi=>hi) hok
 have hbw4:Below w.heap.size w w4:=zi hb2 hb4;obtain ⟨y,hy⟩:∃y,y=pgz x:=⟨_,rfl⟩;obtain ⟨hh,hhh⟩:∃hh,hh=Qs x:=⟨_,rfl⟩;have hly:(lnsP y).length≤1099511627776:=by rw [hy,zgo];omega
 rw [←hy,←hhh] at hez hez'
 have CS:Hid (∀W,Below w4.heap.size w4 W→Calls Tryz.prog 10 #[.agg #[.slice s0 s1 s2,.slice d0 d1 d2],.agg #[.slice s0' s1' s2',.slice d0' d1' d2']] W fun e w'=>e=.returned (.bool true)∧Below W.heap.size W w'):=fun W hW =>
  UG hh y y _ _ W (Xo.wide hW.size (Xo.kept hW hez)) (Xo.wide hW.size (Xo.kept hW hez')) (zgp y)
 have CL1:Hid (∀W,Below w4.heap.size w4 W→Calls Tryz.prog 12 #[.agg #[.slice s0 s1 s2,.slice d0 d1 d2]] W (LnP W (lnsP y))):=fun W hW=>zab hh y _ W (Xo.wide hW.size (Xo.kept hW hez)) hly
 have CL2:Hid (∀W,Below w4.heap.size w4 W→Calls Tryz.prog 12 #[.agg #[.slice s0' s1' s2',.slice d0' d1' d2']] W (LnP W (lnsP y))):=fun W hW=>zab hh y _ W (Xo.wide hW.size (Xo.kept hW hez')) hly
 have CLV:Hid (∀W,Below w4.heap.size w4 W→Calls Tryz.prog 13 #[] W fun e w'=>e=.returned (.bool true)∧Below W.heap.size W w'):=fun W hW=>zb5 W (HS.out W (zi hbw4 hW))
 generalize lnsP y=L at *;have HB4:Hid (Below w.heap.size w w4):=hbw4;have HLL:Hid (L.length≤1099511627776):=hly;have hlA4:A<w4.heap.size:=(Array.getElem?_eq_some_iff.1 pA4).1;have hlB4:B<w4.heap.size:=(Array.getElem?_eq_some_iff.1 pB4).1;obtain ⟨m0,m1,-⟩:=zZ pA4;obtain ⟨n0,n1,-⟩:=zZ pB4;have x0:=Zk (n:=w4.heap.size) m0 hlA4;have x1:=Zk (n:=w4.heap.size) m1 hlA4;have y0:=Zk (n:=w4.heap.size) n0 hlB4;have y1:=Zk (n:=w4.heap.size) n1 hlB4;have HD:Hid (Below w4.heap.size w4 w4.drew):=(Below.refl _ _).drew;have hw4':=hw4.symm;have hB':=hB.symm;clear hb2 pA hx2 hw4 hB hx' hb3 hI' hok hcn hb4 hlA pA4 pB4 hx4 hx4' hez hez' hbw4 hy hhh hly hlA4 hlB4 H2 HI HS m0 m1 n0 n1;go_wp2_with fail
 refine YK (n:=24) (S:=fun w'=>∃c:Cls w4.heap.size w4,w'=c.1) (by kernel_rfl) rfl rfl ?_
 refine Zz (fuel:=22) (fuel':=24) (idx:=[0,1]) (by decide +kernel) rfl rfl rfl (fun _ _ _ _ _ h=>h) ⟨⟨w4.drew,HD.out⟩,rfl⟩ ?_
 show wpQuiet _ _ _ _ [_,_] _
 iterate 2 (go_big_quiet_step (fail))
 refine wpQuiet_nil ?_;refine zG (fuel:=21) (fuel':=22) (i:=2) rfl (by decide +kernel) rfl rfl (by rfl) ?_
 intro K hK;go_simp;refine (CS.out _ HD.out).mono ?_;rintro e w5 ⟨rfl,hb5⟩;have HB5:Hid (Below w4.heap.size w4 w5):=HD.out.trans (hb5.mono HD.out.size);clear hb5
 (try go_simp)
 refine hK.out _ _ ⟨⟨w5,HB5.out⟩,rfl⟩ ?_;clear hK K;refine Zz (fuel:=18) (fuel':=21) (idx:=[3,4,6]) (by decide +kernel) rfl rfl rfl (fun _ _ _ _ _ h=>h) ⟨⟨w5,HB5.out⟩,rfl⟩ ?_
 show wpQuiet _ _ _ _ [_,_,_] _
 iterate 3 (go_big_quiet_step (fail))
 refine wpQuiet_nil ?_;refine zG (fuel:=17) (fuel':=18) (i:=5) rfl (by decide +kernel) rfl rfl (by rfl) ?_
 intro K hK;go_simp;refine (CL1.out _ HB5.out).mono ?_;rintro e w6 ⟨u1,rfl,hz1,ho1,hb6⟩;have HB6:Hid (Below w4.heap.size w4 w6):=HB5.out.trans (hb6.mono HB5.out.size);have HZ1:Hid (L=[]→u1=.slice none 0 0):=hz1;have HO1:Hid (w6.ownsRow w5.heap.size 3 1 u1 L.length (yh L)):=ho1;clear hb6 ho1 hz1
 (try go_simp)
 refine hK.out _ _ ⟨⟨w6,HB6.out⟩,rfl⟩ ?_;clear hK K;refine zG (fuel:=16) (fuel':=17) (i:=7) rfl (by decide +kernel) rfl rfl (by rfl) ?_
 intro K hK;go_simp;refine (CL2.out _ HB6.out).mono ?_;rintro e w7 ⟨u2,rfl,hz2,ho2,hb7⟩;have HB7:Hid (Below w4.heap.size w4 w7):=HB6.out.trans (hb7.mono HB6.out.size);have HSL:Hid (Calls Tryz.prog 11 #[u1,u2] w7 fun e w'=>e=.returned (.bool true)∧Below w7.heap.size w7 w'):=Qx L u1 u2 _ _ w7 HZ1.out hz2 (yT HO1.out hb7 (Nat.le_refl _)) ho2 HLL.out
 clear hb7 ho2 hz2
 (try go_simp)
 refine hK.out _ _ ⟨⟨w7,HB7.out⟩,rfl⟩ ?_;clear hK K;refine zG (fuel:=15) (fuel':=16) (i:=8) rfl (by decide +kernel) rfl rfl (by rfl) ?_
 intro K hK;go_simp;refine HSL.out.mono ?_;rintro e w8 ⟨rfl,hb8⟩;have HB8:Hid (Below w4.heap.size w4 w8):=HB7.out.trans (hb8.mono HB7.out.size);clear hb8
 (try go_simp)
 refine hK.out _ _ ⟨⟨w8,HB8.out⟩,rfl⟩ ?_;clear hK K;refine Zz (fuel:=3) (fuel':=15) (idx:=[9,10,11,12,13,14,15,16,17,18,19,20]) (by decide +kernel) rfl rfl rfl (fun _ _ _ _ _ h=>h) ⟨⟨w8,HB8.out⟩,rfl⟩ ?_
 show wpQuiet _ _ _ _ [_,_,_,_,_,_,_,_,_,_,_,_] _
 iterate 12 (go_big_quiet_step (fail))
 refine wpQuiet_nil ?_;refine zG (fuel:=2) (fuel':=3) (i:=21) rfl (by decide +kernel) rfl rfl (by rfl) ?_
 intro K hK;go_simp;refine (CLV.out _ HB8.out).mono ?_;rintro e w9 ⟨rfl,hb9⟩;have HB9:Hid (Below w4.heap.size w4 w9):=HB8.out.trans (hb9.mono HB8.out.size);clear hb9
 (try go_simp)
 refine hK.out _ _ ⟨⟨w9,HB9.out⟩,rfl⟩ ?_;clear hK K;refine Zz (fuel:=0) (fuel':=2) (idx:=[22,23]) (by decide +kernel) rfl rfl rfl (fun _ _ _ _ _ h=>h) ⟨⟨w9,HB9.out⟩,rfl⟩ ?_
 show wpQuiet _ _ _ _ [_,_] _
 iterate 2 (go_big_quiet_step (fail))
 refine wpQuiet_nil ?_;refine ym (by decide +kernel) ?_
 have HBZ:Hid (Below w.heap.size w w9):=HB4.out.trans (HB9.out.mono HB4.out.size);clear x0 x1 y0 y1;go_wp2
 exact bodyPost_ret (v:=.bool true) (by simp [results,Tryz.results3,go_sem]) rfl ⟨rfl,HBZ.out⟩
end Go.Proofs.YtpejpbbdgblbeaaGreatDoor
