import Derived.Test.YtmbofhpmockmbaaGreatDoorLQRef
import Derived.Test.YtmbofhpmockmbaaGreatDoorLQBytes
import Derived.Lib.SlBytesConst
namespace Go.Proofs.YtmbofhpmockmbaaGreatDoor
open Go.RowKit Go.Shelf
set_option maxHeartbeats 16000000
set_option maxRecDepth 100000
theorem Uy {P:Program} {Q:Exit→Act→World→Prop} {md:Region.Mode} {S:World→Prop} {l:List Oper} {fuel fuel':Nat} {w:World} {i1 i2:Nat} {o1 o2:Oper} {rest1 rest2:List Oper} {listed listed1 listed2:Array Bool} {a:Act}
  (hd1:l.drop i1=o1::rest1) (hd2:l.drop i2=o2::rest2) (hr:Region.ready md l.toArray listed=[i1,i2]) (hf:fuel+1=fuel') (hL1:listed1=listed.setIfInBounds i1 true) (hL2:listed2=listed.setIfInBounds i2 true)
  (hw1:Region.wanted o1 (yielded l.toArray a.tmps)=true) (hw2:Region.wanted o2 (yielded l.toArray a.tmps)=true)
  (o:∀K:Act→World→Prop,Hid (∀a' w',S w'→wpAnyH P md l.toArray Q S fuel listed1 a' w'→K a' w')→o1.wp P a w K Q)
  (h2:∀K:Act→World→Prop,Hid (∀a' w',S w'→wpAnyH P md l.toArray Q S fuel listed2 a' w'→K a' w')→o2.wp P a w K Q):wpAnyH P md l.toArray Q S fuel' listed a w:=by
 subst hf hL1 hL2;refine wpAnyH_all hr (by simp) fun j hj=>?_
 have y:j=i1∨j=i2:=by simpa using hj
 rcases y with rfl | rfl
 ·have o:=o (fun a' w'=>S w'∧wpAnyH P md l.toArray Q S fuel (listed.setIfInBounds j true) a' w') fun a' w' o h2=>⟨o,h2⟩
  unfold wpOp
  rw [YD hd1];simp only [hw1,if_true];exact .inl o
 ·have o:=h2 (fun a' w'=>S w'∧wpAnyH P md l.toArray Q S fuel (listed.setIfInBounds j true) a' w') fun a' w' o h2=>⟨o,h2⟩
  unfold wpOp
  rw [YD hd2];simp only [hw2,if_true];exact .inl o
theorem uJ (k n:Int) (s:List UInt8) (hk:-9223372036854775808≤k∧k≤9223372036854775807) (hn:-9223372036854775808≤n∧n≤9223372036854775807) (hs:s.length≤1048576)
  (vb:Value) (b:List UInt8) (w:World) (hv:zt w vb b) (hbl:b.length≤1048576) (hQ:QT w) :
  Calls Tryz.prog 5 #[ZH k n s,vb] w fun e w'=>e=.returned (.bool true)∧Below w.heap.size w w':=by
 have HQ:Hid (QT w):=hQ;have o:Hid ((-9223372036854775808≤k∧k≤9223372036854775807)∧(-9223372036854775808≤n∧n≤9223372036854775807)∧s.length≤1048576):=⟨hk,hn,hs⟩;have HV:Hid (zt w vb b):=hv;have aA:Hid (b.length≤1048576):=hbl;obtain ⟨a0,ag,rfl,-⟩:=hv;obtain ⟨G,a8,aS,bF,p1⟩:=ZY w (ZO k n s);have HP:Hid (G.heap[w.heap.size]?=some (ZO k n s)∧Below w.heap.size w G):=⟨p1,aS⟩;have aB:Below G.heap.size G (G.alloc (.cells #[] 5)):=(Below.refl _ _).alloc (Nat.le_refl _) _;have bd:Hid (zt (G.alloc (.cells #[] 5)) (.slice a0 b.length ag) b):=zK HV.out (ZA aS aB) (Nat.le_refl _);have a2:Hid ((G.alloc (.cells #[] 5)).ownsRow G.heap.size 5 1 (.slice (some ⟨G.heap.size,0,none⟩) 0 0) ([]:List UInt8).length (Lib.byteCells [])):=qs G;have aQ:Hid (G.heap.size≤(G.alloc (.cells #[] 5)).heap.size):=aB.size;have a4:Hid (Below G.heap.size G (G.alloc (.cells #[] 5))):=aB;have bj:Hid (G=w.alloc (ZO k n s)):=a8;have bV:(b.length:Int)≤1048576:=by omega
 unfold ZH
 clear hk hn hs hQ a8 aS bF p1 aB hbl
 go_enter Tryz.func5,Tryz.ntmps5
 go_upto_region 1 with fail
 rw [←bj.out];clear bj
 go_wp2_with (at_builtin;refine Yz rfl _ _ rfl G.heap.size _ [] rfl a2.out _ b rfl bd.out (by have:=aA.out;simp only [List.length_nil];omega) aQ.out ?_)
 intro v2 w2 ah ad;have aD:Hid (Below G.heap.size G w2):=a4.out.grown ad aQ.out (fun k hk=>by simp [Value.ownBlock] at hk;omega)
 have cn:=xX v2 ([]++b) w2 (ZE ah) (by have:=aA.out;rw [List.nil_append];omega)
 rw [List.nil_append] at cn;clear ah ad a2 bd a4 aQ;go_wp2_with fail
 refine cn.mono ?_;clear cn;rintro e w3 ⟨p,base,aE,rfl,bq,bE,bf,aW,bh⟩;have ax:Below G.heap.size G w3:=aD.out.trans (bh.mono aD.out.size)
 have bw:Hid (Below w.heap.size w w3∧w3.heap[w.heap.size]?=some (ZO k n s)∧w.heap.size<p∧p<w3.heap.size∧∀a,base=some a→a.block<w3.heap.size) :=
  ⟨ZA HP.out.2 ax,(ax.block _ (Zl HP.out.1)).trans HP.out.1,by have:=Zl HP.out.1;have:=aD.out.size;omega,bf,fun a ha=>(aW a ha).2⟩
 have cg:=vw bq (fun a ha=>(aW a ha).2)
 obtain ⟨X,hX⟩:∃X,X=yi b 0 0:=⟨_,rfl⟩;have HX:Hid (X=yi b 0 0):=hX;have aj:X.2.1≤b.length:=by rw [hX];exact UQ (Nat.zero_le _)
 rw [←hX] at cg;obtain ⟨⟨k1,n1,s1⟩,E,e1⟩:=X
 unfold ZH at cg
 simp only at cg aj;have bi:Hid (E≤b.length):=aj;clear bq bE bf aW bh ax hX aj aD HP;go_wp2_with fail
 refine cg.mono ?_;clear cg;rintro e w4 ⟨rfl,bp,aC⟩;have h3:=bw.out;obtain ⟨w5,bv,aa,bG,p5⟩:=ZY w4 (ZO k1 n1 s1);have d4:=ZZ aC h3.2.1 (by omega)
 have aq:Below w.heap.size w w4:=h3.1.grown aC h3.1.size (fun k hk=>by cases hk;omega)
 have aX:=aC.size
 have a3:Hid (Below w.heap.size w w5∧w5.heap[w.heap.size]?=some (ZO k n s)∧w5.heap[w4.heap.size]?=some (ZO k1 n1 s1)∧w.heap.size<p∧p<w4.heap.size∧(∀a,base=some a→a.block<w4.heap.size)∧w4.heap.size<w5.heap.size) :=
  ⟨ZA aq aa,(aa.block _ (Zl d4)).trans d4,p5,h3.2.2.1,by omega,fun a ha=>by have:=h3.2.2.2.2 a ha;omega,Zl p5⟩
 have aF:Hid (zh w5 p base aE b E e1):=bp.below aa (Nat.le_refl _);have al:=(yS (zK HV.out (ZA aq aa) (Nat.le_refl _))).2.1;have bJ:(convert 39 9 (.slice a0 b.length ag)).run Tryz.prog w5=.ok (.string (za b)) w5:=yw w5 a0 b ag al;have cr:=YX b 0 0 aA.out (Nat.zero_le _) w5;rw [←HX.out] at cr
 unfold ZH at cr
 simp only at cr;have bz:Hid (w5=w4.alloc (ZO k1 n1 s1)):=bv;clear bp aC h3 bv aa bG p5 d4 aq aX al HX bw
 go_upto_region 5 with fail
 rw [←bz.out];clear bz;go_wp2_with fail
 refine cr.mono ?_;clear cr bJ;rintro e O ⟨rfl,D⟩;obtain ⟨w7,br,aY,bP,p7,p8⟩:=vu O (UH b E e1) (ZO k1 n1 s1);have h5:=a3.out;have I:=ZA D aY;have bA:=D.size
 have a5:Hid (Below w.heap.size w w7∧w7.heap[w.heap.size]?=some (ZO k n s)∧w7.heap[w4.heap.size]?=some (ZO k1 n1 s1)∧w.heap.size<p∧p<w4.heap.size∧w7.heap[O.heap.size]?=some (UH b E e1)∧w7.heap[O.heap.size+1]?=some (ZO k1 n1 s1)∧w4.heap.size<O.heap.size∧∀a,base=some a→a.block<w4.heap.size) :=
  ⟨ZA h5.1 I,(I.block _ (Zl h5.2.1)).trans h5.2.1,(I.block _ (Zl h5.2.2.1)).trans h5.2.2.1,h5.2.2.2.1,h5.2.2.2.2.1,p7,p8,by have:=h5.2.2.2.2.2.2;omega,h5.2.2.2.2.2.1⟩
 have bc:=aF.out.below I (Nat.le_refl _);have cg:=vw bc (fun a ha=>by have:=h5.2.2.2.2.2.1 a ha;have:=h5.2.2.2.2.2.2;have:=I.size;omega)
 obtain ⟨Y,hY⟩:∃Y,Y=yi b E e1:=⟨_,rfl⟩;have HY:Hid (Y=yi b E e1):=hY;rw [←hY] at cg;obtain ⟨⟨k2,n2,s2⟩,V,e2⟩:=Y
 unfold ZH at cg
 simp only at cg;have a6:Hid (w7=(O.alloc (UH b E e1)).alloc (ZO k1 n1 s1)):=br;clear D br aY bP p7 p8 h5 I bA bc hY a3 aF
 go_upto_region 6 with fail
 rw [←a6.out];clear a6;go_wp2_with fail
 refine cg.mono ?_;clear cg;rintro e w8 ⟨rfl,aZ,af⟩;have h7:=a5.out;obtain ⟨w9,bg,ab,bs,p9⟩:=ZY w8 (ZO k2 n2 s2);have q1:=ZZ af h7.2.1 (by omega)
 have q2:=ZZ af h7.2.2.1 (by omega)
 have q3:=ZZ af h7.2.2.2.2.2.1 (by omega)
 have q4:=ZZ af h7.2.2.2.2.2.2.1 (by omega)
 have aH:Below w.heap.size w w8:=h7.1.grown af h7.1.size (fun k hk=>by cases hk;omega)
 have aP:Hid (Below w.heap.size w w9∧w9.heap[w.heap.size]?=some (ZO k n s)∧w9.heap[w4.heap.size]?=some (ZO k1 n1 s1)∧w9.heap[O.heap.size]?=some (UH b E e1)∧w9.heap[O.heap.size+1]?=some (ZO k1 n1 s1)∧w9.heap[w8.heap.size]?=some (ZO k2 n2 s2)∧w.heap.size<p∧p<w4.heap.size∧w4.heap.size<O.heap.size∧∀a,base=some a→a.block<w4.heap.size) :=
  ⟨ZA aH ab,(ab.block _ (Zl q1)).trans q1,(ab.block _ (Zl q2)).trans q2,(ab.block _ (Zl q3)).trans q3,(ab.block _ (Zl q4)).trans q4,p9,h7.2.2.2.1,h7.2.2.2.2.1,h7.2.2.2.2.2.2.2⟩
 have aK:Hid (zh w9 p base aE b V e2):=aZ.below ab (Nat.le_refl _);obtain ⟨m0,m1,m2,-⟩:=ze aP.out.2.2.2.1;have cr:=YX b E e1 aA.out bi.out w9;rw [←HY.out] at cr
 unfold ZH at cr
 simp only at cr;have bu:Hid (w9=w8.alloc (ZO k2 n2 s2)):=bg;clear aZ af h7 bg ab bs p9 q1 q2 q3 q4 aH HY a5 bi
 go_upto_region 7 with fail
 rw [←bu.out];clear bu;go_wp2_with fail
 refine cr.mono ?_;clear cr m0 m1 m2;rintro e ae ⟨rfl,Z⟩;have T:=aP.out;obtain ⟨bb,aI,aM,bn,bo⟩:=ZY ae (.cells #[.int .i64 0,.int .i64 0,.string ⟨#[]⟩] 24 (0,0));have M:=ZA Z aM;have hM:O.heap.size<ae.heap.size:=by have:=Zl T.2.2.2.1;have:=Z.size;omega
 have ay:bb.heap[O.heap.size]?=some (UH b E e1):=(M.block _ (Zl T.2.2.2.1)).trans T.2.2.2.1;obtain ⟨aw,J⟩:∃aw,aw=zM bb O.heap.size (.string (za b)) (.int .i64 V) (.int .i64 e2):=⟨_,rfl⟩;have aN:aw.heap[O.heap.size]?=some (UH b V e2):=by rw [J];exact zI ay _ _ _
 have aT:aw.heap[ae.heap.size]?=some (.cells #[.int .i64 0,.int .i64 0,.string ⟨#[]⟩] 24 (0,0)):=by rw [J];exact (Za _ _ _ _ _ (by omega)).trans bo
 obtain ⟨w13,H⟩:∃w13,w13=zM aw ae.heap.size (.int .i64 k2) (.int .i64 n2) (.string (za s2)):=⟨_,rfl⟩;have bC:w13.heap[ae.heap.size]?=some (ZO k2 n2 s2):=by rw [H];exact zI aT _ _ _
 have keep:∀j,j≠O.heap.size→j<w9.heap.size→w13.heap[j]?=w9.heap[j]?:=fun j h1 h2=>by
  have hz:=Z.size;rw [H,Za _ _ _ _ _ (by omega),J,Za _ _ _ _ _ h1]
  exact M.block _ h2
 have aL:w13.heap[O.heap.size]?=some (UH b V e2):=by rw [H];exact (Za _ _ _ _ _ (by omega)).trans aN
 have an:Below w.heap.size w w13:=by
  have bs:=T.1.size;have bT:=Z.size;rw [H];refine zN ?_ (by omega) _ _ _
  rw [J]
  have:=Zl T.2.1
  exact zN (ZA T.1 M) (by omega) _ _ _
 have aJ:zh w13 p base aE b V e2:=aK.out.kept fun j hj hor=>by
  refine keep j ?_ hj;rcases hor with rfl | ⟨q,hq,rfl⟩
  ·omega
  ·have:=T.2.2.2.2.2.2.2.2.2 q hq;omega
 obtain ⟨m0,m1,m2,mf⟩:=ze ay;obtain ⟨z0,z1,z2,zf⟩:=ze aT;have a7:=Zl T.2.2.2.2.1;have bx:=Zl T.2.2.2.2.2.1;have bm:=Zl T.2.2.1;have bt:=Zl T.2.1;have bK:=Zl T.2.2.2.1
 have hh:w8.heap.size≠O.heap.size∧w4.heap.size≠O.heap.size:=by
  refine ⟨fun e=>?_,by omega⟩
  have e1:=T.2.2.2.2.2.1;rw [e,T.2.2.2.1] at e1
  have:=Option.some.inj e1
  simp at this
 have bk:w13.heap[w.heap.size]?=some (ZO k n s):=(keep _ (by omega) bt).trans T.2.1
 have be:w13.heap[w4.heap.size]?=some (ZO k1 n1 s1):=(keep _ hh.2 bm).trans T.2.2.1;have bl:w13.heap[O.heap.size+1]?=some (ZO k1 n1 s1):=(keep _ (by omega) a7).trans T.2.2.2.2.1
 have bB:w13.heap[w8.heap.size]?=some (ZO k2 n2 s2):=(keep _ hh.1 bx).trans T.2.2.2.2.2.1;have aO:Hid (Below w.heap.size w w13):=an;have aR:Hid (w13.heap[w.heap.size]?=some (ZO k n s)∧w13.heap[w4.heap.size]?=some (ZO k1 n1 s1)∧w13.heap[O.heap.size+1]?=some (ZO k1 n1 s1)∧w13.heap[w8.heap.size]?=some (ZO k2 n2 s2)∧w13.heap[ae.heap.size]?=some (ZO k2 n2 s2)∧w13.heap[O.heap.size]?=some (UH b V e2)∧zh w13 p base aE b V e2):=⟨bk,be,bl,bB,bC,aL,aJ⟩;have aV:=aI.symm;have ai:=J.symm;have ap:=H.symm
 unfold zM at ai ap
 clear Z T aI J H aM bn bo M hM ay aN aT bC keep aL an aJ a7 bx bm bt bK hh bk be bl bB aP aK
 go_upto_region 8 with fail
 clear aV ai ap m0 m1 m2 mf z0 z1 z2 zf;have A:=aR.out;obtain ⟨q0,q1,q2,-⟩:=ze A.1;obtain ⟨r0,r1,r2,-⟩:=ze A.2.1;obtain ⟨t0,t1,t2,-⟩:=ze A.2.2.1;obtain ⟨u0,u1,u2,-⟩:=ze A.2.2.2.1;obtain ⟨v0,v1,v3,-⟩:=ze A.2.2.2.2.1;obtain ⟨m0,m1,m2,-⟩:=ze A.2.2.2.2.2.1;have y0:=zF (n:=w13.heap.size) q0 (Zl A.1);have y1:=zF (n:=w13.heap.size) q1 (Zl A.1);have y2:=zF (n:=w13.heap.size) q2 (Zl A.1);have y3:=zF (n:=w13.heap.size) r0 (Zl A.2.1);have y4:=zF (n:=w13.heap.size) r1 (Zl A.2.1);have y5:=zF (n:=w13.heap.size) r2 (Zl A.2.1);have y6:=zF (n:=w13.heap.size) t0 (Zl A.2.2.1);have y7:=zF (n:=w13.heap.size) t1 (Zl A.2.2.1);have y8:=zF (n:=w13.heap.size) t2 (Zl A.2.2.1);have y9:=zF (n:=w13.heap.size) u0 (Zl A.2.2.2.1);have bR:=zF (n:=w13.heap.size) u1 (Zl A.2.2.2.1);have bQ:=zF (n:=w13.heap.size) u2 (Zl A.2.2.2.1);have bO:=zF (n:=w13.heap.size) v0 (Zl A.2.2.2.2.1);have bS:=zF (n:=w13.heap.size) v1 (Zl A.2.2.2.2.1);have bI:=zF (n:=w13.heap.size) v3 (Zl A.2.2.2.2.1);have bD:=zF (n:=w13.heap.size) m1 (Zl A.2.2.2.2.2.1);have bH:=zF (n:=w13.heap.size) m2 (Zl A.2.2.2.2.2.1);have CP:Hid (∀W,Below w13.heap.size w13 W→Calls Tryz.prog 20 #[.agg #[.int .i64 k,.int .i64 n,.string (za s)]] W fun e w'=>e=.returned (.string (za (Yo k n s)))∧Below w13.heap.size w13 w'):=fun W hW=>(yY k n s o.out.1 o.out.2.1 o.out.2.2 W).mono fun e w' ⟨h,hb⟩=>⟨h,hW.trans (hb.mono hW.size)⟩
 have CA:Hid (∀W,Below w13.heap.size w13 W→Calls Tryz.prog 21 #[.pointer (some ⟨p,0,none⟩)] W fun e w'=>e=.returned (.int .i64 V)∧Below w13.heap.size w13 w'):=fun W hW=>(qe (aR.out.2.2.2.2.2.2.below hW (Nat.le_refl _))).mono fun e w' ⟨h,hb⟩=>⟨h,by rw [←hb];exact hW⟩
 have CE:Hid (∀W,Below w13.heap.size w13 W→Calls Tryz.prog 22 #[.pointer (some ⟨p,0,none⟩)] W fun e w'=>e=.returned (.int .i64 e2)∧Below w13.heap.size w13 w'):=fun W hW=>(yk (aR.out.2.2.2.2.2.2.below hW (Nat.le_refl _))).mono fun e w' ⟨h,hb⟩=>⟨h,by rw [←hb];exact hW⟩
 have CL:Hid (∀W,Below w13.heap.size w13 W→Calls Tryz.prog 13 #[] W fun e w'=>e=.returned (.bool true)∧Below w13.heap.size w13 w'):=fun W hW=>(vS W (HQ.out.below (ZA aO.out hW))).mono fun e w' ⟨h,hb⟩=>⟨h,hW.trans (hb.mono hW.size)⟩
 have HD:Hid (Below w13.heap.size w13 w13.drew):=(Below.refl _ _).drew;have a1:Hid ((Yo k n s).length≤1048676):=Ux o.out.1 o.out.2.1 o.out.2.2;obtain ⟨R,hR⟩:∃R,R=Yo k n s:=⟨_,rfl⟩;rw [←hR] at CP a1;have HR:Hid (R=Yo k n s):=hR;have bW:R.length≤1048676:=a1.out;have zR:(za R).size=R.length:=rfl;have eR:(⟨#[120]⟩:ByteArray)++za R=za (120::R):=YK [120] R;clear A q0 q1 q2 r0 r1 r2 t0 t1 t2 u0 u1 u2 v0 v1 v3 m0 m1 m2 hR;refine uI (n:=37) (S:=fun w'=>∃c:U5 w13.heap.size w13,w'=c.1) (by kernel_rfl) rfl rfl ?_
 refine yL (fuel:=35) (fuel':=37) (idx:=[2,5]) (by decide +kernel) rfl rfl rfl (fun _ _ _ _ _ h=>h) ⟨⟨w13.drew,HD.out⟩,rfl⟩ ?_
 show wpQuiet _ _ _ _ [_,_] _
 go_big_quiet_step (fail)
 go_big_quiet_step (fail)
 refine wpQuiet_nil ?_;refine Z4 (fuel:=34) (fuel':=35) (i:=0) rfl (by decide +kernel) rfl rfl (by rfl) ?_
 intro K y;go_simp;refine y.out _ _ ⟨⟨(w13.alloc (.cells #[.int .u8 120] 5 (0,0))).drew,((Below.refl _ _).alloc (Nat.le_refl _) _).drew⟩,rfl⟩ ?_;clear y K;refine Z4 (fuel:=33) (fuel':=34) (i:=1) rfl (by decide +kernel) rfl rfl (by rfl) ?_
 intro K y;have bN:(convert 39 39 (.slice (some ⟨w13.heap.size,0,none⟩) 1 1)).run Tryz.prog ((w13.alloc (.cells #[.int .u8 120] 5 (0,0))).drew)=.ok (.slice (some ⟨w13.heap.size,0,none⟩) 1 1) ((w13.alloc (.cells #[.int .u8 120] 5 (1,2))).drew):=Lib.run_convert_bytes_const (P:=Tryz.prog) w13.drew 39 5 #[.int .u8 120] 1 1 Tryz.underlying39 Tryz.underlying5;go_simp;clear bN;obtain ⟨wa,az⟩:∃wx,wx=(w13.alloc (.cells #[.int .u8 120] 5 (1,2))).drew:=⟨_,rfl⟩;have pA:wa.heap[w13.heap.size]?=some (.cells #[.int .u8 120] 5 (1,2)):=by rw [az];exact World.alloc_heap_new w13 _
 have am:Hid (Below w13.heap.size w13 wa):=by show Below _ _ _;rw [az];exact ((Below.refl _ _).alloc (Nat.le_refl _) _).drew
 rw [←az]
 have a9:Hid (zt wa (.slice (some ⟨w13.heap.size,0,none⟩) 1 1) [120]):=YU rfl (by unfold maxLen;decide) (fun j u hj=>by
  have bU:j<1:=by
   have:=(List.getElem?_eq_some_iff.1 hj).1
   simpa [Lib.byteCells] using this
  obtain rfl:j=0:=by omega
  simp only [World.cell?,pA];exact hj)
 clear az pA;refine y.out _ _ ⟨⟨wa,am.out⟩,rfl⟩ ?_;clear y K;refine Z4 (fuel:=32) (fuel':=33) (i:=3) rfl (by decide +kernel) rfl rfl (by rfl) ?_
 intro K y;go_simp;have au:=Ug _ [120] k n s o.out.1 o.out.2.1 wa a9.out (by have:=o.out.2.2;simp;omega)
 unfold ZH at au
 refine au.mono ?_;clear au;rintro e wb ⟨v5,rfl,Q,aa⟩;have L:Hid (Below w13.heap.size w13 wb):=am.out.trans (aa.mono am.out.size);have ar:([120]++Yo k n s)=120::R:=by rw [HR.out];rfl
 rw [ar] at Q;have aG:Hid (zt wb v5 (120::R)):=ZE Q;obtain ⟨b5,c5,bL,-,-,-,-⟩:=Yy Q;subst bL;clear Q aa ar
 (try go_simp)
 refine y.out _ _ ⟨⟨wb,L.out⟩,rfl⟩ ?_;clear y K;refine Uy (fuel:=31) (fuel':=32) (i1:=4) (i2:=6) rfl rfl (by decide +kernel) rfl rfl rfl (by rfl) (by rfl) ?g4 ?g46
 case' g4 =>
  intro K y;have aU:(convert 39 9 (.slice b5 (R.length+1) c5)).run Tryz.prog wb=.ok (.string (za (120::R))) wb:=yw wb b5 (120::R) c5 (yS aG.out).2.1;go_simp;refine y.out _ _ ⟨⟨wb,L.out⟩,rfl⟩ ?_;clear y K aU;refine Z4 (fuel:=30) (fuel':=31) (i:=6) rfl (by decide +kernel) rfl rfl (by rfl) ?_
  intro K y;go_simp;refine (yY k n s o.out.1 o.out.2.1 o.out.2.2 wb).mono ?_;rintro e wz ⟨rfl,D⟩;rw [←HR.out];have z:Hid (Below w13.heap.size w13 wz):=L.out.trans (D.mono L.out.size);clear D
  (try go_simp)
  refine y.out _ _ ⟨⟨wz,z.out⟩,rfl⟩ ?_;clear y K;refine yL (fuel:=29) (fuel':=30) (idx:=[7]) (by decide +kernel) rfl rfl rfl (fun _ _ _ _ _ h=>h) ⟨⟨wz,z.out⟩,rfl⟩ ?_
  show wpQuiet _ _ _ _ [_] _
  go_big_quiet_step (fail)
  refine wpQuiet_nil ?_
 case' g46 =>
  intro K y;go_simp;refine (yY k n s o.out.1 o.out.2.1 o.out.2.2 wb).mono ?_;rintro e wz ⟨rfl,D⟩;rw [←HR.out];have z:Hid (Below w13.heap.size w13 wz):=L.out.trans (D.mono L.out.size);have ba:Hid (zt wz _ (120::R)):=zK aG.out D (Nat.le_refl _);clear D
  (try go_simp)
  refine y.out _ _ ⟨⟨wz,z.out⟩,rfl⟩ ?_;clear y K;refine yL (fuel:=30) (fuel':=31) (idx:=[7]) (by decide +kernel) rfl rfl rfl (fun _ _ _ _ _ h=>h) ⟨⟨wz,z.out⟩,rfl⟩ ?_
  show wpQuiet _ _ _ _ [_] _
  go_big_quiet_step (fail)
  refine wpQuiet_nil ?_;refine Z4 (fuel:=29) (fuel':=30) (i:=4) rfl (by decide +kernel) rfl rfl (by rfl) ?_
  intro K y;have aU:(convert 39 9 (.slice b5 (R.length+1) c5)).run Tryz.prog wz=.ok (.string (za (120::R))) wz:=yw wz b5 (120::R) c5 (yS ba.out).2.1;go_simp;refine y.out _ _ ⟨⟨wz,z.out⟩,rfl⟩ ?_;clear y K aU
 all_goals
  refine yL (fuel:=14) (fuel':=29) (idx:=[8,9,10,11,12,13,14,15,16,17,18,19,20,22,23]) (by decide +kernel) rfl rfl rfl (fun _ _ _ _ _ h=>h) ⟨⟨wz,z.out⟩,rfl⟩ ?_
  show wpQuiet _ _ _ _ [_,_,_,_,_,_,_,_,_,_,_,_,_,_,_] _
  iterate 15 (go_big_quiet_step (fail))
  refine wpQuiet_nil ?_;refine Z4 (fuel:=13) (fuel':=14) (i:=21) rfl (by decide +kernel) rfl rfl (by rfl) ?_
  intro K y;go_simp;refine (CA.out wz z.out).mono ?_;rintro e x1 ⟨rfl,U⟩;have ak:Hid (Below w13.heap.size w13 x1):=U;clear U
  (try go_simp)
  refine y.out _ _ ⟨⟨x1,ak.out⟩,rfl⟩ ?_;clear y K;refine yL (fuel:=7) (fuel':=13) (idx:=[24,25,26,27,29,30]) (by decide +kernel) rfl rfl rfl (fun _ _ _ _ _ h=>h) ⟨⟨x1,ak.out⟩,rfl⟩ ?_
  show wpQuiet _ _ _ _ [_,_,_,_,_,_] _
  iterate 6 (go_big_quiet_step (fail))
  refine wpQuiet_nil ?_;refine Z4 (fuel:=6) (fuel':=7) (i:=28) rfl (by decide +kernel) rfl rfl (by rfl) ?_
  intro K y;go_simp;refine (CE.out x1 ak.out).mono ?_;rintro e x2 ⟨rfl,U⟩;have ao:Hid (Below w13.heap.size w13 x2):=U;clear U
  (try go_simp)
  refine y.out _ _ ⟨⟨x2,ao.out⟩,rfl⟩ ?_;clear y K;refine yL (fuel:=3) (fuel':=6) (idx:=[31,32,33]) (by decide +kernel) rfl rfl rfl (fun _ _ _ _ _ h=>h) ⟨⟨x2,ao.out⟩,rfl⟩ ?_
  show wpQuiet _ _ _ _ [_,_,_] _
  iterate 3 (go_big_quiet_step (fail))
  refine wpQuiet_nil ?_;refine Z4 (fuel:=2) (fuel':=3) (i:=34) rfl (by decide +kernel) rfl rfl (by rfl) ?_
  intro K y;go_simp;refine (CL.out x2 ao.out).mono ?_;rintro e x3 ⟨rfl,U⟩;have av:Hid (Below w13.heap.size w13 x3):=U;clear U
  (try go_simp)
  refine y.out _ _ ⟨⟨x3,av.out⟩,rfl⟩ ?_;clear y K;refine yL (fuel:=0) (fuel':=2) (idx:=[35,36]) (by decide +kernel) rfl rfl rfl (fun _ _ _ _ _ h=>h) ⟨⟨x3,av.out⟩,rfl⟩ ?_
  show wpQuiet _ _ _ _ [_,_] _
  iterate 2 (go_big_quiet_step (fail))
  refine wpQuiet_nil ?_;refine Uw (by decide +kernel) ?_
  have bM:Hid (Below w.heap.size w x3):=ZA aO.out av.out;clear y0 y1 y2 y3 y4 y5 y6 y7 y8 y9 bR bQ bO bS bI bD bH;go_wp2
  exact bodyPost_ret (v:=.bool true) (by simp [results,Tryz.results5,go_sem]) rfl ⟨rfl,bM.out⟩
end Go.Proofs.YtmbofhpmockmbaaGreatDoor
