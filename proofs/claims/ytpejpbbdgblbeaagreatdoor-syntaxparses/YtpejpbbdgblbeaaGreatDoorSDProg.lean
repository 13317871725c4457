import Derived.Test.YtpejpbbdgblbeaaGreatDoorMC41
namespace Go.Proofs.YtpejpbbdgblbeaaGreatDoor
open Go.RowKit Go.Shelf
set_option maxHeartbeats 16000000
set_option maxRecDepth 100000
theorem zeT (r g F:Nat) (σ:RS) (w:World) (q:Pg × RS) (h:zz r g σ w) (hq:XI F [] [] σ=some q) (hM:SmT σ.2) :
  Calls Tryz.prog 25 #[.pointer (some ⟨r,0,none⟩)] w (zdi r g w q):=by
 obtain ⟨iR,hiR,hzR0,hzR1,hzR2⟩:=info_parts Uv;obtain ⟨iF,hiF,hzF0,hzF1,hzF2⟩:=info_parts QY;obtain ⟨hr,hg⟩:=h.lt;have hfew:=h.few;have hf0:=Xi;have hf3:=Z1;obtain ⟨w1,hw1⟩:∃w1,w1=(w.alloc xg).alloc xg:=⟨_,rfl⟩
 have hJ0:PgD r g w q w1:=by
  refine ⟨⟨[],[],_,_,σ,F,hq,hM,?_,?_,?_,yg.nil _ _,by rw [hw1];exact (h.alloc _).alloc _,by rw [hw1];exact ((zc.refl r w).alloc _).alloc _⟩⟩
  ·simp only [List.length_nil];split <;> omega
  ·rw [hw1,Below.heap_alloc _ _ _ (by simp)];exact World.alloc_heap_new _ _
  ·rw [hw1]
   have:=World.alloc_heap_new (w.alloc xg) xg
   simpa using this
 have HJ0:Hid (PgD r g w q w1):=hJ0;have HW1:Hid (w1=(w.alloc xg).alloc xg):=hw1;obtain ⟨P,hP⟩:∃P,P=w.heap.size+1:=⟨_,rfl⟩;have HP:Hid (P=w.heap.size+1):=hP;clear h hw1 hJ0 hfew hM hq
 go_enter Tryz.func25,Tryz.ntmps25
 go_wp2_with fail
 rw [←HW1.out,←HP.out];clear hP
 go_loopw [4,5,6,7] (fun _ _ _ _ wr=>PgD r g w q wr) (fun _ _ _ _ wr=>Z8 r wr+badN r wr)
 case atStart=>exact HJ0.out
 case round =>
  obtain ⟨rs,fs,vr,vf,σ2,f2,hT,hM2,hN2,hb,hp,hpg,hrd,hk⟩:=hrel.ex;clear HJ0 HW1 hrel;rw [←HP.out] at hp;obtain ⟨rb,rc,hvr⟩:=hpg.r.slice;obtain ⟨fb,fc,hvf⟩:=hpg.f.slice;obtain ⟨nr,hnr⟩:∃nr,nr=rs.length:=⟨_,rfl⟩;obtain ⟨nf,hnf⟩:∃nf,nf=fs.length:=⟨_,rfl⟩;rw [←hnr] at hvr;rw [←hnf] at hvf;have HNR:Hid (nr=rs.length):=hnr;have HNF:Hid (nf=fs.length):=hnf;subst hvr hvf;obtain ⟨bd,ts⟩:=σ2;have HLEFT:Hid (Z8 r wr=ts.length):=hrd.left;have HBAD:Hid (badN r wr=if bd=true then 0 else 1):=hrd.badN
  have HB:Hid (wr.heap[w.heap.size]?=some xg∧wr.heap[P]?=some (vF (.slice rb nr rc) (.slice fb nf fc))):=⟨hb,hp⟩;have HPG:Hid (yg (w.heap.size+2) wr rs fs (.slice rb nr rc) (.slice fb nf fc)):=hpg;have HK:Hid (zc r w wr):=hk;have HRD:Hid (zz r g (bd,ts) wr):=hrd;have HM:Hid (SmT ts):=hM2;have HN2:Hid (rs.length+fs.length+ts.length+(if bd=true then 0 else 1)≤1099511627777):=hN2
  obtain ⟨f3,rfl⟩:∃f3,f2=f3+1:=by
   cases f2 with
   | zero=>simp [XI] at hT
   | succ f3=>exact ⟨f3,rfl⟩
  rw [XI] at hT;have ct:=xO r g (bd,ts) wr hrd;obtain ⟨t,ht⟩:∃t,t=zx ts:=⟨_,rfl⟩;have HTT:Hid (t=zx ts):=ht;simp only at ct hT;rw [←ht] at ct hT;obtain ⟨pp,cap,TS,hbk⟩:=hrd;obtain ⟨m0,m1,m2,mf⟩:=ZN hbk.blk;obtain ⟨l0,l1,lf⟩:=zZ hp;obtain ⟨b0,b1,bf⟩:=zZ hb
  have HEND:Hid (∀W,zc r wr W→zz r g (bd,ts) W→Hid (zdi r g w (⟨rs,fs⟩,(bd,ts)) (.returned (.agg #[.slice rb nr rc,.slice fb nf fc])) ((W.setCell ⟨w.heap.size,0,none⟩ (.slice rb nr rc)).setCell ⟨w.heap.size,1,none⟩ (.slice fb nf fc))∧W.cell? ⟨P,0,none⟩=some (.slice rb nr rc)∧W.cell? ⟨P,1,none⟩=some (.slice fb nf fc)∧(∃y0 y1,W.heap[w.heap.size]?=some (.cells #[y0,y1] 25 (0,0))))):=fun W hKW hRW=>by
   have hPl:P<wr.heap.size:=(Array.getElem?_eq_some_iff.1 HB.out.2).1;have hNl:w.heap.size<wr.heap.size:=(Array.getElem?_eq_some_iff.1 HB.out.1).1;have hPe:=HP.out;have pW:=(hKW.block P hPl (by omega)).trans HB.out.2
   have bW:=(hKW.block w.heap.size hNl (by omega)).trans HB.out.1
   obtain ⟨c0,c1,-⟩:=zZ pW;refine ⟨⟨((HK.out.trans hKW).setOther (by simp) _).setOther (by simp) _,_,rfl,?_,?_⟩,c0,c1,_,_,bW⟩
   ·have h9:=(HPG.out.kept hKW.size fun k hk9 hlt=>hKW.block k hlt (by omega)).pg
    exact (h9.kept (by simp) fun k hk9 _=>(Below.heap_setCell _ _ _ _ (by simp;omega)).trans (Below.heap_setCell _ _ _ _ (by simp;omega))).wide fun k hk9=>by omega
   ·exact (hRW.far (by omega) (by omega) _ _).far (by omega) (by omega) _ _
  clear hbk ht hb hp hpg hk hM2 hN2 hnr hnf;simp only [Xc] at ct;cases bd
  ·by_cases hk0:t.k=0
   ·rw [if_pos (.inr hk0)] at hT
    obtain rfl:=Option.some.inj hT;have hk0':(t.k:Int)=0:=by omega
    have hk0b:((t.k:Int) != 0)=false:=by simp [bne,hk0']
    clear hT;go_wp2_with fail
    refine ct.mono ?_;clear ct m0 m1 m2 mf l0 l1 lf b0 b1 bf;rintro e w2 ⟨rfl,hb2⟩;have hKW:=zc.of (r:=r) hb2;have hRW:=HRD.out.below hb2;obtain ⟨HE1,e1,e2,y0,y1,e3⟩:=HEND.out _ hKW hRW;have HE:Hid _:=HE1;obtain ⟨x0,x1,xf⟩:=zZ e3;obtain ⟨z0,z1,-⟩:=zZ (zm (j:=1) (.slice fb nf fc) (zm (j:=0) (.slice rb nr rc) e3));clear HE1 e3;go_wp2
    exact bodyPost_ret (v:=.agg #[.slice rb nr rc,.slice fb nf fc]) (by simp [results,Tryz.results25,go_sem,z0,z1]) rfl HE.out
   ·rw [if_neg (by simp [hk0])] at hT
    have hk0':¬ (t.k:Int)=0:=by omega
    have hk0a:((t.k:Int)==0)=false:=by rw [beq_eq_false_iff_ne];exact hk0'
    have hk0b:((t.k:Int) != 0)=true:=by simp [bne,hk0a]
    go_wp2_with fail
    refine ct.mono ?_;clear ct m0 m1 m2 mf l0 l1 lf b0 b1 bf;rintro e w2 ⟨rfl,hb2⟩;have HR2:Hid (zz r g (false,ts) w2∧zc r wr w2):=⟨HRD.out.below hb2,zc.of hb2⟩;clear hb2;have ct:=xO r g (false,ts) w2 HR2.out.1;simp only at ct;rw [←HTT.out] at ct;simp only [Xc] at ct;go_wp2_with fail
    refine ct.mono ?_;clear ct hk0a hk0b hk0';rintro e w3 ⟨rfl,hb3⟩;have HR3:Hid (zz r g (false,ts) w3∧zc r wr w3):=⟨HR2.out.1.below hb3,HR2.out.2.trans (zc.of hb3)⟩;clear hb3 HR2;have cs:=Zd r g (false,ts) [114,101,99,111,114,100] w3 HR3.out.1
    by_cases hi:zO [114,101,99,111,114,100] (false,ts)=true
    ·rw [hi,ZD hi] at cs
     simp only at cs;rw [if_pos hi] at hT;obtain ⟨x,hx1,hx2⟩:=Z9 hT;have HX2:Hid (XI f3 (rs++[x.1]) fs x.2=some q):=hx2;have hsx:=zbV hx1;have hne:=yV (Yo hi).2.2
     have HLL:Hid (x.2.2.length≤ts.length∧(x.2.1=true∨x.2.2.length<ts.length)∧SmT x.2.2):=by
      have h9:=hsx.length_le;simp only at h9 hne;exact ⟨by omega,.inr (by omega),qJ hsx (zy HM.out)⟩
     unfold Vl at hx1
     obtain ⟨ql,hq4,hq5⟩:=Z9 hx1;obtain rfl:=Option.some.inj hq5;have HSM:Hid (SmT (mustF [123] (nameF (false,ts.tail)).2).2):=qJ ((Zy _ _).trans (YL _)) (zy HM.out);have HQ4:Hid (yP f3 [] (mustF [123] (nameF (false,ts.tail)).2)=some ql):=hq4;go_wp2_with fail
     refine cs.mono ?_;clear cs;rintro e w4 ⟨rfl,hkM,hrM⟩;have HR4:Hid (zz r g (false,ts.tail) w4∧zc r wr w4):=⟨hrM,HR3.out.2.trans hkM⟩;have cn:=V3 r g (false,ts.tail) w4 hrM;generalize nameF (false,ts.tail)=qn at *;clear hkM hrM HR3 hT hx1 hx2 hsx hne hq4 hq5 hi hk0;go_wp2_with fail
     refine cn.mono ?_;clear cn;rintro e w5 ⟨rfl,hkM,hrM⟩;have HK5:Hid (zc r wr w5):=HR4.out.2.trans hkM;have cm:=yD r g qn.2 [123] w5 hrM;clear hkM hrM HR4;go_wp2_with fail
     refine cm.mono ?_;clear cm;rintro e w6 ⟨rfl,hkM,hrM⟩;have HK6:Hid (zc r wr w6):=HK5.out.trans hkM;have cp:=zbU r g f3 _ w6 ql hrM HQ4.out HSM.out;clear hkM hrM HK5 HQ4 HSM;go_wp2_with fail
     refine cp.mono ?_;clear cp;rintro e w7 ⟨hkM,v,rfl,hpar,hrM⟩;obtain ⟨v0,v1,v2,rfl⟩:=ye.slice hpar;have HK7:Hid (zc r wr w7):=HK6.out.trans hkM;have HPAR:Hid (Yz (fun k=>wr.heap.size≤k) w7 ql.1 (.slice v0 v1 v2)):=(ye.toG hpar).wide yj fun k hk=>by have:=HK6.out.size;omega
     have cm:=yD r g ql.2 [125] w7 hrM;clear hkM hrM hpar HK6;go_wp2_with fail
     refine cm.mono ?_;clear cm;rintro e w8 ⟨rfl,hkM,hrM⟩;have HK8:Hid (zc r wr w8):=HK7.out.trans hkM;have HRL:Hid (r<wr.heap.size):=show _<_ by have:=HK.out.size;omega
     have HXR:Hid (RcE (fun k=>wr.heap.size≤k) w8 ⟨qn.1,ql.1,t.line⟩ [.string (za qn.1),.slice v0 v1 v2,.int .i64 t.line]):=⟨_,rfl,HPAR.out.keptR hkM fun k hk=>by have:=HRL.out;omega⟩
     have HRR:Hid (zz r g (mustF [125] ql.2) w8):=hrM;clear hkM hrM HPAR HK7;have hPl:P<wr.heap.size:=(Array.getElem?_eq_some_iff.1 HB.out.2).1;have hNl:w.heap.size<wr.heap.size:=(Array.getElem?_eq_some_iff.1 HB.out.1).1;have hPe:P=w.heap.size+1:=HP.out;have hs7:=HK8.out.size;have p7:=(HK8.out.block P hPl (by omega)).trans HB.out.2
     have hpg7:yg (w.heap.size+2) w8 rs fs (.slice rb nr rc) (.slice fb nf fc):=HPG.out.kept HK8.out.size fun k hk hlt=>HK8.out.block k hlt (by omega)
     obtain ⟨lus,hown7,hnext7⟩:=Z6.more (Y5 xp _) hpg7.r;rw [←HNR.out] at hown7;have HOWN:=(hown7.alloc (.cells #[.string (za qn.1),.slice v0 v1 v2,.int .i64 t.line] 74));obtain ⟨l0,l1,lf⟩:=zZ p7;have l0':=ze l0;have l1':=ze l1;have HN7:Hid (w.heap.size+2≤w8.heap.size∧P<w8.heap.size):=⟨by omega,by omega⟩
     have HBL:Hid (nr+1≤1099511627777):=show _≤_ by have h9:=HN2.out;rw [HNR.out];simp only [Bool.false_eq_true,if_false] at h9;omega
     have HPG7:Hid (yg (w.heap.size+2) w8 rs fs (.slice rb nr rc) (.slice fb nf fc)):=hpg7;have HNX:=(show Hid _ from @hnext7)
     clear hown7 hnext7 hpg7 hPl hNl hPe hs7 p7 HRL
     go_wp2_with (
      at_builtin
      refine wpList_append_own_at _ rfl _ _ 22 rfl (w.heap.size+2) 74 iR _ 3 48 Tryz.underlying22 hiR hzR0 hzR1 hzR2 rfl (by decide) _ _ _ rfl HOWN ⟨w8.heap.size,0,none⟩ 1 1 [.string (za qn.1),.slice v0 v1 v2,.int .i64 t.line] rfl rfl (Zl _ _ _) (by simp [Value.oneCell']) (by have:=HBL.out;unfold maxLen;omega) (by have:=HBL.out;omega) (by have:=HN7.out;simp;omega) ?_
      intro v' w9 hown' hgrow _ hat
      obtain ⟨vg,vc,hv'⟩:∃vg vc,v'=.slice (some ⟨vg,0,none⟩) (nr+1) vc:=by
       rcases hown'.2 with ⟨_,h0⟩ | ⟨g',cap',_,h1,_⟩
       ·omega
       ·exact ⟨g',cap',h1⟩
      subst hv';have hown'':=hown';rw [HNR.out] at hown''
      have HJ9:Hid (PgD r g w q (w9.setCell ⟨P,0,none⟩ (.slice (some ⟨vg,0,none⟩) (nr+1) vc))∧Z8 r (w9.setCell ⟨P,0,none⟩ (.slice (some ⟨vg,0,none⟩) (nr+1) vc))=(mustF [125] ql.2).2.length∧badN r (w9.setCell ⟨P,0,none⟩ (.slice (some ⟨vg,0,none⟩) (nr+1) vc))=if (mustF [125] ql.2).1=true then 0 else 1):=by
       rw [HNR.out];exact PgD.addR HP.out HK.out HB.out.1 HB.out.2 HPG7.out (fun q hq=>(HPG.out.r.block q hq)) (fun q hq=>(HPG.out.f.block q hq).2) HNX.out hr hg HK8.out HXR.out rfl HRR.out hown'' hgrow hat HX2.out HLL.out.2.2 (by have h9:=HN2.out;have h8:=HLL.out.1;have h7:=HLL.out.2.1;simp only [Bool.false_eq_true,if_false] at h9;split <;> rcases h7 with h7 | h7 <;> simp_all <;> omega)
      have p9:w9.heap[P]?=some (vF (.slice rb nr rc) (.slice fb nf fc)):=(hgrow.block P (by have:=HN7.out;simp;omega) (fun e=>by have:=(HPG7.out.r.block P e.symm).1;have:=HP.out;omega)).trans ((Below.heap_alloc _ _ _ HN7.out.2).trans ((HK8.out.block P (Array.getElem?_eq_some_iff.1 HB.out.2).1 (by have:=HP.out;omega)).trans HB.out.2))
      obtain ⟨n0,n1,nf'⟩:=zZ p9
      clear hown' hown'' hgrow hat p9 HNX HOWN l0 l1 l0' l1' lf)
     refine ⟨HJ9.out.1,?_⟩;rw [HJ9.out.2.1,HJ9.out.2.2,HLEFT.out,HBAD.out];have h8:=HLL.out.1;have h7:=HLL.out.2.1;simp only [Bool.false_eq_true,if_false]
     split <;> rcases h7 with h7 | h7 <;> simp_all <;> omega
    ·have hi':zO [114,101,99,111,114,100] (false,ts)=false:=(Bool.not_eq_true _).mp hi
     rw [hi',zW hi'] at cs;rw [if_neg hi] at hT;obtain ⟨x,hx1,hx2⟩:=Z9 hT;have HX2:Hid (XI f3 rs (fs++[x.1]) x.2=some q):=hx2;have hsf:=zeI hx1
     have HLL:Hid (x.2.2.length≤ts.length∧(x.2.1=true∨x.2.2.length<ts.length)∧SmT x.2.2):=by
      have hsx:=hsf.trans (Zy [102,110] (false,ts));refine ⟨hsx.length_le,?_,qJ hsx HM.out⟩;rcases uc [102,110] (false,ts) with h8 | h8
      ·left
       generalize mustF [102,110] (false,ts)=s3 at *;obtain ⟨b3,us3⟩:=s3;simp only at h8;subst h8;exact zeX hx1
      ·right
       exact Nat.lt_of_le_of_lt hsf.length_le h8
     unfold VG at hx1
     obtain ⟨pl',hp1,hx1⟩:=Z9 hx1;obtain ⟨tt,ht1,hx1⟩:=Z9 hx1;obtain ⟨qb,hb1,hx1⟩:=Z9 hx1;obtain rfl:=Option.some.inj hx1
     unfold Uy at hp1
     obtain ⟨pl,hpl,hp1⟩:=Z9 hp1;obtain rfl:=Option.some.inj hp1;have hs4:(mustF [40] (nameF (mustF [102,110] (false,ts))).2).2 <:+ ts:=(Zy _ _).trans ((YL _).trans (Zy _ _))
     have hs5:pl.2.2 <:+ ts:=by
      split at hpl
      ·obtain rfl:=Option.some.inj hpl;exact hs4
      ·exact (XJ _ _ _ _ hpl).trans hs4
     have HSP:Hid (SmT (mustF [40] (nameF (mustF [102,110] (false,ts))).2).2):=qJ hs4 HM.out;have HST:Hid (SmT (mustF [41] pl.2).2.tail):=qJ ((List.tail_suffix _).trans ((Zy _ _).trans hs5)) HM.out;have HBL:Hid (Xa r g f3):=(zdP r g f3).2;have hrl:r<wr.heap.size:=by have:=HK.out.size;omega
     have hgl:g<wr.heap.size:=by have:=HK.out.size;omega
     go_wp2_with fail
     refine cs.mono ?_;clear cs;rintro e w4 ⟨rfl,hkM,hrM⟩;have HR4:Hid (zc r wr w4):=HR3.out.2.trans hkM;have cm:=yD r g (false,ts) [102,110] w4 hrM;clear hkM hrM HR3 hT hx1 hx2 hsf hs4 hs5 hp1 hi hi' hk0;generalize mustF [102,110] (false,ts)=s3 at *;go_wp2_with fail
     refine cm.mono ?_;clear cm;rintro e w5 ⟨rfl,hkM,hrM⟩;have HR5:Hid (zc r wr w5):=HR4.out.trans hkM;have cn:=V3 r g s3 w5 hrM;clear hkM hrM HR4;generalize nameF s3=qn at *;go_wp2_with fail
     refine cn.mono ?_;clear cn;rintro e w6 ⟨rfl,hkM,hrM⟩;have hF:Vn r g w6.heap.size wr qn.2 #[.string (za qn.1),.slice none 0 0,.string ⟨#[]⟩,.slice none 0 0,.int .i64 t.line] (w6.alloc (.cells #[.string (za qn.1),.slice none 0 0,.string ⟨#[]⟩,.slice none 0 0,.int .i64 t.line] 72)):=⟨World.alloc_heap_new _ _,hrM.alloc _,(HR5.out.trans hkM).alloc _,(HR5.out.trans hkM).size⟩;have HF:Hid (Vn r g w6.heap.size wr qn.2 #[.string (za qn.1),.slice none 0 0,.string ⟨#[]⟩,.slice none 0 0,.int .i64 t.line] (w6.alloc (.cells #[.string (za qn.1),.slice none 0 0,.string ⟨#[]⟩,.slice none 0 0,.int .i64 t.line] 72))):=hF;have cm:=yD r g qn.2 [40] _ HF.out.rd;clear hkM hrM HR5 hF;go_wp2_with fail
     refine cm.mono ?_;clear cm;rintro e w7 ⟨rfl,hkM,hrM⟩;have hC:=HF.out.moved hrl hkM hrM;obtain ⟨N,hN⟩:∃N,N=w6.heap.size:=⟨_,rfl⟩;rw [←hN] at hC ⊢;have Hw7:Hid (Vn r g N wr (mustF [40] qn.2) #[.string (za qn.1),.slice none 0 0,.string ⟨#[]⟩,.slice none 0 0,.int .i64 t.line] w7):=hC;have hNr:r<N:=by have:=hC.hN;omega
     have hNw:wr.heap.size≤N:=hC.hN;clear hN hC hkM hrM HF;have ci:=zc0 r g (mustF [40] qn.2) [41] w7 Hw7.out.rd
     by_cases h41:zO [41] (mustF [40] qn.2)=true
     ·rw [h41] at ci
      rw [if_pos h41] at hpl;obtain rfl:=Option.some.inj hpl;go_wp2_with fail
      refine ci.mono ?_;clear ci;rintro e w8 ⟨rfl,hbM⟩;have Hw8:Hid (Vn r g N wr (mustF [40] qn.2) #[.string (za qn.1),.slice none 0 0,.string ⟨#[]⟩,.slice none 0 0,.int .i64 t.line] w8):=Hw7.out.below hbM;have cm:=yD r g (mustF [40] qn.2) [41] _ Hw8.out.rd;clear hbM Hw7 hpl HSP h41;go_wp2_with fail
      refine cm.mono ?_;clear cm;rintro e w10 ⟨rfl,hkM,hrM⟩;have Hw10:Hid (Vn r g N wr (mustF [41] (mustF [40] qn.2)) #[.string (za qn.1),.slice none 0 0,.string ⟨#[]⟩,.slice none 0 0,.int .i64 t.line] w10):=Hw8.out.moved hrl hkM hrM;clear hkM hrM Hw8;have ck:=Zd r g (mustF [41] (mustF [40] qn.2)) [58] w10 Hw10.out.rd
      unfold zaH at ht1
      by_cases h58:zO [58] (mustF [41] (mustF [40] qn.2))=true
      ·rw [if_pos h58] at ht1
       rw [h58,ZD h58] at ck;go_wp2_with fail
       refine ck.mono ?_;clear ck;rintro e w11 ⟨rfl,hkM,hrM⟩;have Hw11:Hid (Vn r g N wr (false,(mustF [41] (mustF [40] qn.2)).2.tail) #[.string (za qn.1),.slice none 0 0,.string ⟨#[]⟩,.slice none 0 0,.int .i64 t.line] w11):=Hw10.out.moved hrl hkM hrM;have cy:=zdK r g f3 _ w11 tt Hw11.out.rd ht1 HST.out;clear hkM hrM Hw10 ht1 HST h58;go_wp2_with fail
       refine cy.mono ?_;clear cy;rintro e w12 ⟨rfl,hkM,hrM⟩;have Hw12:Hid (Vn r g N wr tt.2 #[.string (za qn.1),.slice none 0 0,.string ⟨#[]⟩,.slice none 0 0,.int .i64 t.line] w12):=Hw11.out.moved hrl hkM hrM;obtain ⟨n0,n1,n2,n3,n4,nf'⟩:=zo Hw12.out.blk;have Hw12s:Hid (Vn r g N wr tt.2 #[.string (za qn.1),.slice none 0 0,.string (za tt.1),.slice none 0 0,.int .i64 t.line] (w12.setCell ⟨N,2,none⟩ (.string (za tt.1)))):=Hw12.out.set hrl hgl 2 _;have hsN:N<(w12.setCell ⟨N,2,none⟩ (.string (za tt.1))).heap.size:=(Array.getElem?_eq_some_iff.1 Hw12s.out.blk).1;have cb:=HBL.out f3 (Nat.le_refl _) _ qb _ hb1 Hw12s.out.rd;clear hkM hrM Hw11 hb1 HBL;go_wp2_with fail
       refine cb.mono ?_;clear cb n0 n1 n2 n3 n4 nf';rintro e w13 ⟨hkM,v,rfl,hsts,hrM⟩;obtain ⟨s0,s1,s2,rfl⟩:=hsts.slice;have Hw13:Hid (Vn r g N wr qb.2 #[.string (za qn.1),.slice none 0 0,.string (za tt.1),.slice none 0 0,.int .i64 t.line] w13):=Hw12s.out.moved hrl hkM hrM;have HST2:Hid (zD (fun k=>N<k) (w13.setCell ⟨N,3,none⟩ (.slice s0 s1 s2)) qb.1 (.slice s0 s1 s2)):=(hsts.wide fun k hk=>by omega).setP _ fun k hk=>by omega
       obtain ⟨n0,n1,n2,n3,n4,nf0⟩:=zo Hw13.out.blk;have Hw14:Hid (Vn r g N wr qb.2 #[.string (za qn.1),.slice none 0 0,.string (za tt.1),.slice s0 s1 s2,.int .i64 t.line] (w13.setCell ⟨N,3,none⟩ (.slice s0 s1 s2))):=Hw13.out.set hrl hgl 3 _;obtain ⟨W,hW⟩:∃W,W=w13.setCell ⟨N,3,none⟩ (.slice s0 s1 s2):=⟨_,rfl⟩;have hW':=hW.symm;rw [←hW] at Hw14 HST2;obtain ⟨k0,k1,k2,k3,k4,-⟩:=zo Hw14.out.blk;have hsW:N<W.heap.size:=(Array.getElem?_eq_some_iff.1 Hw14.out.blk).1;have HKW:Hid (zc r wr W):=Hw14.out.kept;have HRW:Hid (zz r g qb.2 W):=Hw14.out.rd;have hNP:¬ N=P:=by have h1:=Hw14.out.hN;have h2:=HP.out;have h3:=(Array.getElem?_eq_some_iff.1 HB.out.2).1;omega
       have HXF:Hid (FcE (fun k=>wr.heap.size≤k) W ⟨qn.1,[],tt.1,qb.1,t.line⟩ [.string (za qn.1),.slice none 0 0,.string (za tt.1),.slice s0 s1 s2,.int .i64 t.line]):=⟨_,_,rfl,.inl ⟨rfl,rfl⟩,HST2.out.wide fun k hk=>by have:=Hw14.out.hN;omega⟩
       clear hkM hsts hrM Hw13 HST2  hW hsN Hw12s;have hPl:P<wr.heap.size:=(Array.getElem?_eq_some_iff.1 HB.out.2).1;have hNl:w.heap.size<wr.heap.size:=(Array.getElem?_eq_some_iff.1 HB.out.1).1;have hPe:P=w.heap.size+1:=HP.out;have hs7:=HKW.out.size;have p7:=(HKW.out.block P hPl (by omega)).trans HB.out.2
       have hpg7:yg (w.heap.size+2) W rs fs (.slice rb nr rc) (.slice fb nf fc):=HPG.out.kept HKW.out.size fun k hk hlt=>HKW.out.block k hlt (by omega)
       obtain ⟨lus,hown7,hnext7⟩:=Z6.more (Y5 YA _) hpg7.f;rw [←HNF.out] at hown7;have HOWN:=(hown7.alloc (.cells #[.string (za qn.1),.slice none 0 0,.string (za tt.1),.slice s0 s1 s2,.int .i64 t.line] 72));obtain ⟨l0,l1,lf⟩:=zZ p7;have l0':=ze l0;have l1':=ze l1;have HN7:Hid (w.heap.size+2≤W.heap.size∧P<W.heap.size):=⟨by omega,by omega⟩
       have HBL:Hid (nf+1≤1099511627777):=show _≤_ by have h9:=HN2.out;rw [HNF.out];simp only [Bool.false_eq_true,if_false] at h9;omega
       have HPG7:Hid (yg (w.heap.size+2) W rs fs (.slice rb nr rc) (.slice fb nf fc)):=hpg7;have HNX:=(show Hid _ from @hnext7)
       clear hown7 hnext7 hpg7 hPl hNl hPe hs7 p7
       go_wp2_with (
        at_builtin
        refine wpList_append_own_at _ rfl _ _ 23 rfl (w.heap.size+2) 72 iF _ 5 88 Tryz.underlying23 hiF hzF0 hzF1 hzF2 rfl (by decide) _ _ _ rfl HOWN ⟨W.heap.size,0,none⟩ 1 1 [.string (za qn.1),.slice none 0 0,.string (za tt.1),.slice s0 s1 s2,.int .i64 t.line] rfl rfl (Zl _ _ _) (by simp [Value.oneCell']) (by have:=HBL.out;unfold maxLen;omega) (by have:=HBL.out;omega) (by have:=HN7.out;simp;omega) ?_
        intro v' w9 hown' hgrow _ hat
        obtain ⟨vg,vc,hv'⟩:∃vg vc,v'=.slice (some ⟨vg,0,none⟩) (nf+1) vc:=by
         rcases hown'.2 with ⟨_,h0⟩ | ⟨g',cap',_,h1,_⟩
         ·omega
         ·exact ⟨g',cap',h1⟩
        subst hv';have hown'':=hown';rw [HNF.out] at hown''
        have HJ9:Hid (PgD r g w q (w9.setCell ⟨P,1,none⟩ (.slice (some ⟨vg,0,none⟩) (nf+1) vc))∧Z8 r (w9.setCell ⟨P,1,none⟩ (.slice (some ⟨vg,0,none⟩) (nf+1) vc))=qb.2.2.length∧badN r (w9.setCell ⟨P,1,none⟩ (.slice (some ⟨vg,0,none⟩) (nf+1) vc))=if qb.2.1=true then 0 else 1):=by
         rw [HNF.out];exact PgD.addF HP.out HK.out HB.out.1 HB.out.2 HPG7.out (fun q hq=>(HPG.out.f.block q hq)) (fun q hq=>(HPG.out.r.block q hq).2) HNX.out hr hg HKW.out HXF.out rfl HRW.out hown'' hgrow hat HX2.out HLL.out.2.2 (by have h9:=HN2.out;have h8:=HLL.out.1;have h7:=HLL.out.2.1;simp only [Bool.false_eq_true,if_false] at h9;split <;> rcases h7 with h7 | h7 <;> simp_all <;> omega)
        have p9:w9.heap[P]?=some (vF (.slice rb nr rc) (.slice fb nf fc)):=(hgrow.block P (by have:=HN7.out;simp;omega) (fun e=>by have:=(HPG7.out.f.block P e.symm).1;have:=HP.out;omega)).trans ((Below.heap_alloc _ _ _ HN7.out.2).trans ((HKW.out.block P (Array.getElem?_eq_some_iff.1 HB.out.2).1 (by have:=HP.out;omega)).trans HB.out.2))
        obtain ⟨n0,n1,nf'⟩:=zZ p9
        clear hown' hown'' hgrow hat p9 HNX HOWN l0 l1 l0' l1' lf)
       refine ⟨HJ9.out.1,?_⟩;rw [HJ9.out.2.1,HJ9.out.2.2,HLEFT.out,HBAD.out];have h8:=HLL.out.1;have h7:=HLL.out.2.1;simp only [Bool.false_eq_true,if_false]
       split <;> rcases h7 with h7 | h7 <;> simp_all <;> omega
      ·have h58':zO [58] (mustF [41] (mustF [40] qn.2))=false:=(Bool.not_eq_true _).mp h58
       rw [if_neg h58] at ht1;obtain rfl:=Option.some.inj ht1;clear HST ht1 h58;rw [h58',zW h58'] at ck;go_wp2_with fail
       refine ck.mono ?_;clear ck;rintro e w11 ⟨rfl,hkM,hrM⟩;have Hw11:Hid (Vn r g N wr (mustF [41] (mustF [40] qn.2)) #[.string (za qn.1),.slice none 0 0,.string ⟨#[]⟩,.slice none 0 0,.int .i64 t.line] w11):=Hw10.out.moved hrl hkM hrM;have hsN:N<w11.heap.size:=(Array.getElem?_eq_some_iff.1 Hw11.out.blk).1;have cb:=HBL.out f3 (Nat.le_refl _) _ qb w11 hb1 Hw11.out.rd;clear hkM hrM Hw10 hb1 HBL h58';go_wp2_with fail
       refine cb.mono ?_;clear cb;rintro e w13 ⟨hkM,v,rfl,hsts,hrM⟩;obtain ⟨s0,s1,s2,rfl⟩:=hsts.slice;have Hw13:Hid (Vn r g N wr qb.2 #[.string (za qn.1),.slice none 0 0,.string ⟨#[]⟩,.slice none 0 0,.int .i64 t.line] w13):=Hw11.out.moved hrl hkM hrM;have HST2:Hid (zD (fun k=>N<k) (w13.setCell ⟨N,3,none⟩ (.slice s0 s1 s2)) qb.1 (.slice s0 s1 s2)):=(hsts.wide fun k hk=>by omega).setP _ fun k hk=>by omega
       obtain ⟨n0,n1,n2,n3,n4,nf0⟩:=zo Hw13.out.blk;have Hw14:Hid (Vn r g N wr qb.2 #[.string (za qn.1),.slice none 0 0,.string ⟨#[]⟩,.slice s0 s1 s2,.int .i64 t.line] (w13.setCell ⟨N,3,none⟩ (.slice s0 s1 s2))):=Hw13.out.set hrl hgl 3 _;obtain ⟨W,hW⟩:∃W,W=w13.setCell ⟨N,3,none⟩ (.slice s0 s1 s2):=⟨_,rfl⟩;have hW':=hW.symm;rw [←hW] at Hw14 HST2;obtain ⟨k0,k1,k2,k3,k4,-⟩:=zo Hw14.out.blk;have hsW:N<W.heap.size:=(Array.getElem?_eq_some_iff.1 Hw14.out.blk).1;have HKW:Hid (zc r wr W):=Hw14.out.kept;have HRW:Hid (zz r g qb.2 W):=Hw14.out.rd;have hNP:¬ N=P:=by have h1:=Hw14.out.hN;have h2:=HP.out;have h3:=(Array.getElem?_eq_some_iff.1 HB.out.2).1;omega
       have HXF:Hid (FcE (fun k=>wr.heap.size≤k) W ⟨qn.1,[],[],qb.1,t.line⟩ [.string (za qn.1),.slice none 0 0,.string ⟨#[]⟩,.slice s0 s1 s2,.int .i64 t.line]):=⟨_,_,rfl,.inl ⟨rfl,rfl⟩,HST2.out.wide fun k hk=>by have:=Hw14.out.hN;omega⟩
       clear hkM hsts hrM Hw13 HST2  hW hsN Hw11;have hPl:P<wr.heap.size:=(Array.getElem?_eq_some_iff.1 HB.out.2).1;have hNl:w.heap.size<wr.heap.size:=(Array.getElem?_eq_some_iff.1 HB.out.1).1;have hPe:P=w.heap.size+1:=HP.out;have hs7:=HKW.out.size;have p7:=(HKW.out.block P hPl (by omega)).trans HB.out.2
       have hpg7:yg (w.heap.size+2) W rs fs (.slice rb nr rc) (.slice fb nf fc):=HPG.out.kept HKW.out.size fun k hk hlt=>HKW.out.block k hlt (by omega)
       obtain ⟨lus,hown7,hnext7⟩:=Z6.more (Y5 YA _) hpg7.f;rw [←HNF.out] at hown7;have HOWN:=(hown7.alloc (.cells #[.string (za qn.1),.slice none 0 0,.string ⟨#[]⟩,.slice s0 s1 s2,.int .i64 t.line] 72));obtain ⟨l0,l1,lf⟩:=zZ p7;have l0':=ze l0;have l1':=ze l1;have HN7:Hid (w.heap.size+2≤W.heap.size∧P<W.heap.size):=⟨by omega,by omega⟩
       have HBL:Hid (nf+1≤1099511627777):=show _≤_ by have h9:=HN2.out;rw [HNF.out];simp only [Bool.false_eq_true,if_false] at h9;omega
       have HPG7:Hid (yg (w.heap.size+2) W rs fs (.slice rb nr rc) (.slice fb nf fc)):=hpg7;have HNX:=(show Hid _ from @hnext7)
       clear hown7 hnext7 hpg7 hPl hNl hPe hs7 p7
       go_wp2_with (
        at_builtin
        refine wpList_append_own_at _ rfl _ _ 23 rfl (w.heap.size+2) 72 iF _ 5 88 Tryz.underlying23 hiF hzF0 hzF1 hzF2 rfl (by decide) _ _ _ rfl HOWN ⟨W.heap.size,0,none⟩ 1 1 [.string (za qn.1),.slice none 0 0,.string ⟨#[]⟩,.slice s0 s1 s2,.int .i64 t.line] rfl rfl (Zl _ _ _) (by simp [Value.oneCell']) (by have:=HBL.out;unfold maxLen;omega) (by have:=HBL.out;omega) (by have:=HN7.out;simp;omega) ?_
        intro v' w9 hown' hgrow _ hat
        obtain ⟨vg,vc,hv'⟩:∃vg vc,v'=.slice (some ⟨vg,0,none⟩) (nf+1) vc:=by
         rcases hown'.2 with ⟨_,h0⟩ | ⟨g',cap',_,h1,_⟩
         ·omega
         ·exact ⟨g',cap',h1⟩
        subst hv';have hown'':=hown';rw [HNF.out] at hown''
        have HJ9:Hid (PgD r g w q (w9.setCell ⟨P,1,none⟩ (.slice (some ⟨vg,0,none⟩) (nf+1) vc))∧Z8 r (w9.setCell ⟨P,1,none⟩ (.slice (some ⟨vg,0,none⟩) (nf+1) vc))=qb.2.2.length∧badN r (w9.setCell ⟨P,1,none⟩ (.slice (some ⟨vg,0,none⟩) (nf+1) vc))=if qb.2.1=true then 0 else 1):=by
         rw [HNF.out];exact PgD.addF HP.out HK.out HB.out.1 HB.out.2 HPG7.out (fun q hq=>(HPG.out.f.block q hq)) (fun q hq=>(HPG.out.r.block q hq).2) HNX.out hr hg HKW.out HXF.out rfl HRW.out hown'' hgrow hat HX2.out HLL.out.2.2 (by have h9:=HN2.out;have h8:=HLL.out.1;have h7:=HLL.out.2.1;simp only [Bool.false_eq_true,if_false] at h9;split <;> rcases h7 with h7 | h7 <;> simp_all <;> omega)
        have p9:w9.heap[P]?=some (vF (.slice rb nr rc) (.slice fb nf fc)):=(hgrow.block P (by have:=HN7.out;simp;omega) (fun e=>by have:=(HPG7.out.f.block P e.symm).1;have:=HP.out;omega)).trans ((Below.heap_alloc _ _ _ HN7.out.2).trans ((HKW.out.block P (Array.getElem?_eq_some_iff.1 HB.out.2).1 (by have:=HP.out;omega)).trans HB.out.2))
        obtain ⟨n0,n1,nf'⟩:=zZ p9
        clear hown' hown'' hgrow hat p9 HNX HOWN l0 l1 l0' l1' lf)
       refine ⟨HJ9.out.1,?_⟩;rw [HJ9.out.2.1,HJ9.out.2.2,HLEFT.out,HBAD.out];have h8:=HLL.out.1;have h7:=HLL.out.2.1;simp only [Bool.false_eq_true,if_false]
       split <;> rcases h7 with h7 | h7 <;> simp_all <;> omega
     ·have h41':zO [41] (mustF [40] qn.2)=false:=(Bool.not_eq_true _).mp h41
      rw [h41'] at ci;rw [if_neg h41] at hpl;go_wp2_with fail
      refine ci.mono ?_;clear ci;rintro e w8 ⟨rfl,hbM⟩;have Hw8:Hid (Vn r g N wr (mustF [40] qn.2) #[.string (za qn.1),.slice none 0 0,.string ⟨#[]⟩,.slice none 0 0,.int .i64 t.line] w8):=Hw7.out.below hbM;have hs8:N<w8.heap.size:=(Array.getElem?_eq_some_iff.1 Hw8.out.blk).1;have cp:=zbU r g f3 _ w8 pl Hw8.out.rd hpl HSP.out;clear hbM Hw7 hpl HSP h41 h41';go_wp2_with fail
      refine cp.mono ?_;clear cp;rintro e w9 ⟨hkM,v,rfl,hpar,hrM⟩;obtain ⟨v0,v1,v2,rfl⟩:=ye.slice hpar;have Hw9:Hid (Vn r g N wr pl.2 #[.string (za qn.1),.slice none 0 0,.string ⟨#[]⟩,.slice none 0 0,.int .i64 t.line] w9):=Hw8.out.moved hrl hkM hrM;have HPZ:Hid (Yz (fun k=>N<k) (w9.setCell ⟨N,1,none⟩ (.slice v0 v1 v2)) pl.1 (.slice v0 v1 v2)):=Yz.setP (S:=fun k=>N<k) (vd.wide yj (ye.toG hpar) fun k hk=>by omega) _ fun k hk=>by omega
      obtain ⟨n0,n1,n2,n3,n4,nf0⟩:=zo Hw9.out.blk;have Hw9s:Hid (Vn r g N wr pl.2 #[.string (za qn.1),.slice v0 v1 v2,.string ⟨#[]⟩,.slice none 0 0,.int .i64 t.line] (w9.setCell ⟨N,1,none⟩ (.slice v0 v1 v2))):=Hw9.out.set hrl hgl 1 _;have cm:=yD r g pl.2 [41] _ Hw9s.out.rd;clear hkM hrM hpar Hw8 Hw9 hs8;go_wp2_with fail
      refine cm.mono ?_;clear cm n0 n1 n2 n3 n4 nf0;rintro e w10 ⟨rfl,hkM,hrM⟩;have Hw10:Hid (Vn r g N wr (mustF [41] pl.2) #[.string (za qn.1),.slice v0 v1 v2,.string ⟨#[]⟩,.slice none 0 0,.int .i64 t.line] w10):=Hw9s.out.moved hrl hkM hrM;have HPA:Hid (Yz (fun k=>N<k) w10 pl.1 (.slice v0 v1 v2)):=HPZ.out.keptR hkM fun k hk=>by omega
      clear hkM hrM HPZ Hw9s;have ck:=Zd r g (mustF [41] pl.2) [58] w10 Hw10.out.rd
      unfold zaH at ht1
      by_cases h58:zO [58] (mustF [41] pl.2)=true
      ·rw [if_pos h58] at ht1
       rw [h58,ZD h58] at ck;go_wp2_with fail
       refine ck.mono ?_;clear ck;rintro e w11 ⟨rfl,hkM,hrM⟩;have Hw11:Hid (Vn r g N wr (false,(mustF [41] pl.2).2.tail) #[.string (za qn.1),.slice v0 v1 v2,.string ⟨#[]⟩,.slice none 0 0,.int .i64 t.line] w11):=Hw10.out.moved hrl hkM hrM;have HPB:Hid (Yz (fun k=>N<k) w11 pl.1 (.slice v0 v1 v2)):=HPA.out.keptR hkM fun k hk=>by omega
       clear HPA;have cy:=zdK r g f3 _ w11 tt Hw11.out.rd ht1 HST.out;clear hkM hrM Hw10 ht1 HST h58;go_wp2_with fail
       refine cy.mono ?_;clear cy;rintro e w12 ⟨rfl,hkM,hrM⟩;have Hw12:Hid (Vn r g N wr tt.2 #[.string (za qn.1),.slice v0 v1 v2,.string ⟨#[]⟩,.slice none 0 0,.int .i64 t.line] w12):=Hw11.out.moved hrl hkM hrM;have HPC:Hid (Yz (fun k=>N<k) (w12.setCell ⟨N,2,none⟩ (.string (za tt.1))) pl.1 (.slice v0 v1 v2)):=(HPB.out.keptR hkM fun k hk=>by omega).setP _ fun k hk=>by omega
       clear HPB;obtain ⟨n0,n1,n2,n3,n4,nf'⟩:=zo Hw12.out.blk;have Hw12s:Hid (Vn r g N wr tt.2 #[.string (za qn.1),.slice v0 v1 v2,.string (za tt.1),.slice none 0 0,.int .i64 t.line] (w12.setCell ⟨N,2,none⟩ (.string (za tt.1)))):=Hw12.out.set hrl hgl 2 _;have hsN:N<(w12.setCell ⟨N,2,none⟩ (.string (za tt.1))).heap.size:=(Array.getElem?_eq_some_iff.1 Hw12s.out.blk).1;have cb:=HBL.out f3 (Nat.le_refl _) _ qb _ hb1 Hw12s.out.rd;clear hkM hrM Hw11 hb1 HBL;go_wp2_with fail
       refine cb.mono ?_;clear cb n0 n1 n2 n3 n4 nf';rintro e w13 ⟨hkM,v,rfl,hsts,hrM⟩;obtain ⟨s0,s1,s2,rfl⟩:=hsts.slice;have Hw13:Hid (Vn r g N wr qb.2 #[.string (za qn.1),.slice v0 v1 v2,.string (za tt.1),.slice none 0 0,.int .i64 t.line] w13):=Hw12s.out.moved hrl hkM hrM;have HST2:Hid (zD (fun k=>N<k) (w13.setCell ⟨N,3,none⟩ (.slice s0 s1 s2)) qb.1 (.slice s0 s1 s2)):=(hsts.wide fun k hk=>by omega).setP _ fun k hk=>by omega
       have HPD:Hid (Yz (fun k=>N<k) (w13.setCell ⟨N,3,none⟩ (.slice s0 s1 s2)) pl.1 (.slice v0 v1 v2)):=(HPC.out.keptR hkM fun k hk=>by omega).setP _ fun k hk=>by omega
       obtain ⟨n0,n1,n2,n3,n4,nf0⟩:=zo Hw13.out.blk;have Hw14:Hid (Vn r g N wr qb.2 #[.string (za qn.1),.slice v0 v1 v2,.string (za tt.1),.slice s0 s1 s2,.int .i64 t.line] (w13.setCell ⟨N,3,none⟩ (.slice s0 s1 s2))):=Hw13.out.set hrl hgl 3 _;obtain ⟨W,hW⟩:∃W,W=w13.setCell ⟨N,3,none⟩ (.slice s0 s1 s2):=⟨_,rfl⟩;have hW':=hW.symm;rw [←hW] at Hw14 HST2 HPD;obtain ⟨k0,k1,k2,k3,k4,-⟩:=zo Hw14.out.blk;have hsW:N<W.heap.size:=(Array.getElem?_eq_some_iff.1 Hw14.out.blk).1;have HKW:Hid (zc r wr W):=Hw14.out.kept;have HRW:Hid (zz r g qb.2 W):=Hw14.out.rd;have hNP:¬ N=P:=by have h1:=Hw14.out.hN;have h2:=HP.out;have h3:=(Array.getElem?_eq_some_iff.1 HB.out.2).1;omega
       have HXF:Hid (FcE (fun k=>wr.heap.size≤k) W ⟨qn.1,pl.1,tt.1,qb.1,t.line⟩ [.string (za qn.1),.slice v0 v1 v2,.string (za tt.1),.slice s0 s1 s2,.int .i64 t.line]):=⟨_,_,rfl,HPD.out.wide yj fun k hk=>by omega,HST2.out.wide fun k hk=>by have:=Hw14.out.hN;omega⟩
       clear hkM hsts hrM Hw13 HST2 HPD hW hsN Hw12s;have hPl:P<wr.heap.size:=(Array.getElem?_eq_some_iff.1 HB.out.2).1;have hNl:w.heap.size<wr.heap.size:=(Array.getElem?_eq_some_iff.1 HB.out.1).1;have hPe:P=w.heap.size+1:=HP.out;have hs7:=HKW.out.size;have p7:=(HKW.out.block P hPl (by omega)).trans HB.out.2
       have hpg7:yg (w.heap.size+2) W rs fs (.slice rb nr rc) (.slice fb nf fc):=HPG.out.kept HKW.out.size fun k hk hlt=>HKW.out.block k hlt (by omega)
       obtain ⟨lus,hown7,hnext7⟩:=Z6.more (Y5 YA _) hpg7.f;rw [←HNF.out] at hown7;have HOWN:=(hown7.alloc (.cells #[.string (za qn.1),.slice v0 v1 v2,.string (za tt.1),.slice s0 s1 s2,.int .i64 t.line] 72));obtain ⟨l0,l1,lf⟩:=zZ p7;have l0':=ze l0;have l1':=ze l1;have HN7:Hid (w.heap.size+2≤W.heap.size∧P<W.heap.size):=⟨by omega,by omega⟩
       have HBL:Hid (nf+1≤1099511627777):=show _≤_ by have h9:=HN2.out;rw [HNF.out];simp only [Bool.false_eq_true,if_false] at h9;omega
       have HPG7:Hid (yg (w.heap.size+2) W rs fs (.slice rb nr rc) (.slice fb nf fc)):=hpg7;have HNX:=(show Hid _ from @hnext7)
       clear hown7 hnext7 hpg7 hPl hNl hPe hs7 p7
       go_wp2_with (
        at_builtin
        refine wpList_append_own_at _ rfl _ _ 23 rfl (w.heap.size+2) 72 iF _ 5 88 Tryz.underlying23 hiF hzF0 hzF1 hzF2 rfl (by decide) _ _ _ rfl HOWN ⟨W.heap.size,0,none⟩ 1 1 [.string (za qn.1),.slice v0 v1 v2,.string (za tt.1),.slice s0 s1 s2,.int .i64 t.line] rfl rfl (Zl _ _ _) (by simp [Value.oneCell']) (by have:=HBL.out;unfold maxLen;omega) (by have:=HBL.out;omega) (by have:=HN7.out;simp;omega) ?_
        intro v' w9 hown' hgrow _ hat
        obtain ⟨vg,vc,hv'⟩:∃vg vc,v'=.slice (some ⟨vg,0,none⟩) (nf+1) vc:=by
         rcases hown'.2 with ⟨_,h0⟩ | ⟨g',cap',_,h1,_⟩
         ·omega
         ·exact ⟨g',cap',h1⟩
        subst hv';have hown'':=hown';rw [HNF.out] at hown''
        have HJ9:Hid (PgD r g w q (w9.setCell ⟨P,1,none⟩ (.slice (some ⟨vg,0,none⟩) (nf+1) vc))∧Z8 r (w9.setCell ⟨P,1,none⟩ (.slice (some ⟨vg,0,none⟩) (nf+1) vc))=qb.2.2.length∧badN r (w9.setCell ⟨P,1,none⟩ (.slice (some ⟨vg,0,none⟩) (nf+1) vc))=if qb.2.1=true then 0 else 1):=by
         rw [HNF.out];exact PgD.addF HP.out HK.out HB.out.1 HB.out.2 HPG7.out (fun q hq=>(HPG.out.f.block q hq)) (fun q hq=>(HPG.out.r.block q hq).2) HNX.out hr hg HKW.out HXF.out rfl HRW.out hown'' hgrow hat HX2.out HLL.out.2.2 (by have h9:=HN2.out;have h8:=HLL.out.1;have h7:=HLL.out.2.1;simp only [Bool.false_eq_true,if_false] at h9;split <;> rcases h7 with h7 | h7 <;> simp_all <;> omega)
        have p9:w9.heap[P]?=some (vF (.slice rb nr rc) (.slice fb nf fc)):=(hgrow.block P (by have:=HN7.out;simp;omega) (fun e=>by have:=(HPG7.out.f.block P e.symm).1;have:=HP.out;omega)).trans ((Below.heap_alloc _ _ _ HN7.out.2).trans ((HKW.out.block P (Array.getElem?_eq_some_iff.1 HB.out.2).1 (by have:=HP.out;omega)).trans HB.out.2))
        obtain ⟨n0,n1,nf'⟩:=zZ p9
        clear hown' hown'' hgrow hat p9 HNX HOWN l0 l1 l0' l1' lf)
       refine ⟨HJ9.out.1,?_⟩;rw [HJ9.out.2.1,HJ9.out.2.2,HLEFT.out,HBAD.out];have h8:=HLL.out.1;have h7:=HLL.out.2.1;simp only [Bool.false_eq_true,if_false]
       split <;> rcases h7 with h7 | h7 <;> simp_all <;> omega
      ·have h58':zO [58] (mustF [41] pl.2)=false:=(Bool.not_eq_true _).mp h58
       rw [if_neg h58] at ht1;obtain rfl:=Option.some.inj ht1;clear HST ht1 h58;rw [h58',zW h58'] at ck;go_wp2_with fail
       refine ck.mono ?_;clear ck;rintro e w11 ⟨rfl,hkM,hrM⟩;have Hw11:Hid (Vn r g N wr (mustF [41] pl.2) #[.string (za qn.1),.slice v0 v1 v2,.string ⟨#[]⟩,.slice none 0 0,.int .i64 t.line] w11):=Hw10.out.moved hrl hkM hrM;have HPB:Hid (Yz (fun k=>N<k) w11 pl.1 (.slice v0 v1 v2)):=HPA.out.keptR hkM fun k hk=>by omega
       clear HPA;have hsN:N<w11.heap.size:=(Array.getElem?_eq_some_iff.1 Hw11.out.blk).1;have cb:=HBL.out f3 (Nat.le_refl _) _ qb w11 hb1 Hw11.out.rd;clear hkM hrM Hw10 hb1 HBL h58';go_wp2_with fail
       refine cb.mono ?_;clear cb;rintro e w13 ⟨hkM,v,rfl,hsts,hrM⟩;obtain ⟨s0,s1,s2,rfl⟩:=hsts.slice;have Hw13:Hid (Vn r g N wr qb.2 #[.string (za qn.1),.slice v0 v1 v2,.string ⟨#[]⟩,.slice none 0 0,.int .i64 t.line] w13):=Hw11.out.moved hrl hkM hrM;have HST2:Hid (zD (fun k=>N<k) (w13.setCell ⟨N,3,none⟩ (.slice s0 s1 s2)) qb.1 (.slice s0 s1 s2)):=(hsts.wide fun k hk=>by omega).setP _ fun k hk=>by omega
       have HPD:Hid (Yz (fun k=>N<k) (w13.setCell ⟨N,3,none⟩ (.slice s0 s1 s2)) pl.1 (.slice v0 v1 v2)):=(HPB.out.keptR hkM fun k hk=>by omega).setP _ fun k hk=>by omega
       obtain ⟨n0,n1,n2,n3,n4,nf0⟩:=zo Hw13.out.blk;have Hw14:Hid (Vn r g N wr qb.2 #[.string (za qn.1),.slice v0 v1 v2,.string ⟨#[]⟩,.slice s0 s1 s2,.int .i64 t.line] (w13.setCell ⟨N,3,none⟩ (.slice s0 s1 s2))):=Hw13.out.set hrl hgl 3 _;obtain ⟨W,hW⟩:∃W,W=w13.setCell ⟨N,3,none⟩ (.slice s0 s1 s2):=⟨_,rfl⟩;have hW':=hW.symm;rw [←hW] at Hw14 HST2 HPD;obtain ⟨k0,k1,k2,k3,k4,-⟩:=zo Hw14.out.blk;have hsW:N<W.heap.size:=(Array.getElem?_eq_some_iff.1 Hw14.out.blk).1;have HKW:Hid (zc r wr W):=Hw14.out.kept;have HRW:Hid (zz r g qb.2 W):=Hw14.out.rd;have hNP:¬ N=P:=by have h1:=Hw14.out.hN;have h2:=HP.out;have h3:=(Array.getElem?_eq_some_iff.1 HB.out.2).1;omega
       have HXF:Hid (FcE (fun k=>wr.heap.size≤k) W ⟨qn.1,pl.1,[],qb.1,t.line⟩ [.string (za qn.1),.slice v0 v1 v2,.string ⟨#[]⟩,.slice s0 s1 s2,.int .i64 t.line]):=⟨_,_,rfl,HPD.out.wide yj fun k hk=>by omega,HST2.out.wide fun k hk=>by have:=Hw14.out.hN;omega⟩
       clear hkM hsts hrM Hw13 HST2 HPD hW hsN Hw11;have hPl:P<wr.heap.size:=(Array.getElem?_eq_some_iff.1 HB.out.2).1;have hNl:w.heap.size<wr.heap.size:=(Array.getElem?_eq_some_iff.1 HB.out.1).1;have hPe:P=w.heap.size+1:=HP.out;have hs7:=HKW.out.size;have p7:=(HKW.out.block P hPl (by omega)).trans HB.out.2
       have hpg7:yg (w.heap.size+2) W rs fs (.slice rb nr rc) (.slice fb nf fc):=HPG.out.kept HKW.out.size fun k hk hlt=>HKW.out.block k hlt (by omega)
       obtain ⟨lus,hown7,hnext7⟩:=Z6.more (Y5 YA _) hpg7.f;rw [←HNF.out] at hown7;have HOWN:=(hown7.alloc (.cells #[.string (za qn.1),.slice v0 v1 v2,.string ⟨#[]⟩,.slice s0 s1 s2,.int .i64 t.line] 72));obtain ⟨l0,l1,lf⟩:=zZ p7;have l0':=ze l0;have l1':=ze l1;have HN7:Hid (w.heap.size+2≤W.heap.size∧P<W.heap.size):=⟨by omega,by omega⟩
       have HBL:Hid (nf+1≤1099511627777):=show _≤_ by have h9:=HN2.out;rw [HNF.out];simp only [Bool.false_eq_true,if_false] at h9;omega
       have HPG7:Hid (yg (w.heap.size+2) W rs fs (.slice rb nr rc) (.slice fb nf fc)):=hpg7;have HNX:=(show Hid _ from @hnext7)
       clear hown7 hnext7 hpg7 hPl hNl hPe hs7 p7
       go_wp2_with (
        at_builtin
        refine wpList_append_own_at _ rfl _ _ 23 rfl (w.heap.size+2) 72 iF _ 5 88 Tryz.underlying23 hiF hzF0 hzF1 hzF2 rfl (by decide) _ _ _ rfl HOWN ⟨W.heap.size,0,none⟩ 1 1 [.string (za qn.1),.slice v0 v1 v2,.string ⟨#[]⟩,.slice s0 s1 s2,.int .i64 t.line] rfl rfl (Zl _ _ _) (by simp [Value.oneCell']) (by have:=HBL.out;unfold maxLen;omega) (by have:=HBL.out;omega) (by have:=HN7.out;simp;omega) ?_
        intro v' w9 hown' hgrow _ hat
        obtain ⟨vg,vc,hv'⟩:∃vg vc,v'=.slice (some ⟨vg,0,none⟩) (nf+1) vc:=by
         rcases hown'.2 with ⟨_,h0⟩ | ⟨g',cap',_,h1,_⟩
         ·omega
         ·exact ⟨g',cap',h1⟩
        subst hv';have hown'':=hown';rw [HNF.out] at hown''
        have HJ9:Hid (PgD r g w q (w9.setCell ⟨P,1,none⟩ (.slice (some ⟨vg,0,none⟩) (nf+1) vc))∧Z8 r (w9.setCell ⟨P,1,none⟩ (.slice (some ⟨vg,0,none⟩) (nf+1) vc))=qb.2.2.length∧badN r (w9.setCell ⟨P,1,none⟩ (.slice (some ⟨vg,0,none⟩) (nf+1) vc))=if qb.2.1=true then 0 else 1):=by
         rw [HNF.out];exact PgD.addF HP.out HK.out HB.out.1 HB.out.2 HPG7.out (fun q hq=>(HPG.out.f.block q hq)) (fun q hq=>(HPG.out.r.block q hq).2) HNX.out hr hg HKW.out HXF.out rfl HRW.out hown'' hgrow hat HX2.out HLL.out.2.2 (by have h9:=HN2.out;have h8:=HLL.out.1;have h7:=HLL.out.2.1;simp only [Bool.false_eq_true,if_false] at h9;split <;> rcases h7 with h7 | h7 <;> simp_all <;> omega)
        have p9:w9.heap[P]?=some (vF (.slice rb nr rc) (.slice fb nf fc)):=(hgrow.block P (by have:=HN7.out;simp;omega) (fun e=>by have:=(HPG7.out.f.block P e.symm).1;have:=HP.out;omega)).trans ((Below.heap_alloc _ _ _ HN7.out.2).trans ((HKW.out.block P (Array.getElem?_eq_some_iff.1 HB.out.2).1 (by have:=HP.out;omega)).trans HB.out.2))
        obtain ⟨n0,n1,nf'⟩:=zZ p9
        clear hown' hown'' hgrow hat p9 HNX HOWN l0 l1 l0' l1' lf)
       refine ⟨HJ9.out.1,?_⟩;rw [HJ9.out.2.1,HJ9.out.2.2,HLEFT.out,HBAD.out];have h8:=HLL.out.1;have h7:=HLL.out.2.1;simp only [Bool.false_eq_true,if_false]
       split <;> rcases h7 with h7 | h7 <;> simp_all <;> omega
  ·rw [if_pos (.inl rfl)] at hT
   obtain rfl:=Option.some.inj hT;clear ct hT m0 m1 l0 l1;obtain ⟨HE1,e1,e2,y0,y1,e3⟩:=HEND.out _ (zc.refl r wr) HRD.out;have HE:Hid _:=HE1;obtain ⟨x0,x1,xf⟩:=zZ e3;obtain ⟨z0,z1,-⟩:=zZ (zm (j:=1) (.slice fb nf fc) (zm (j:=0) (.slice rb nr rc) e3));clear HE1 e3;go_wp2
   exact bodyPost_ret (v:=.agg #[.slice rb nr rc,.slice fb nf fc]) (by simp [results,Tryz.results25,go_sem,z0,z1]) rfl HE.out
end Go.Proofs.YtpejpbbdgblbeaaGreatDoor
