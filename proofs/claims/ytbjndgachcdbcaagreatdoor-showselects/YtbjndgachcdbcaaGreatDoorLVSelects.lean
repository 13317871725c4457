import Derived.Test.YtbjndgachcdbcaaGreatDoorVFew
namespace Go.Proofs.YtbjndgachcdbcaaGreatDoor
open Go.RowKit Go.Shelf
set_option maxHeartbeats 16000000
set_option maxRecDepth 100000
theorem Ym (os:List Ob) (sel:Int):∀(k:Nat) (l:List Fr) (i:Nat) (h:i<l.length),(zl os sel k l)[i]?=some (zL os l[i] (decide (((k+i:Nat):Int)=sel)))
 | _,[],i,h=>absurd h (Nat.not_lt_zero _)
 | k,f::t,0,h=>by simp [zl]
 | k,f::t,i+1,h=>by
  rw [zl,List.getElem?_cons_succ,Ym os sel (k+1) t i (by simpa using h),show k+1+i=k+(i+1) by omega]
  rfl
theorem xQ (os:List Ob) (v:Vw) (i:Nat) (h:i<v.look.frames.length):∃f,(Zx os v)[i+1]?=some (zL os f (decide ((i:Int)=v.sel))):=by
 have b:i<v.look.frames.reverse.length:=by simpa using h
 refine ⟨v.look.frames.reverse[i],?_⟩
 unfold Zx
 rw [List.append_assoc,List.append_assoc,List.append_assoc,List.singleton_append,List.getElem?_cons_succ,List.getElem?_append_left (by rw [Zi];exact b),Ym os v.sel 0 _ i b,Nat.zero_add]
theorem xt (a b:UInt8) (t:List UInt8) (ha:yo a=a) (hb:yo b=b):∃t',zA (a::b::t)=a::b::t':=by
 have h:zY (a::b::t)=a::b::zY t:=by
  unfold zY
  rw [List.map_cons,List.map_cons,ha,hb]
 unfold zA
 split
 ·exact ⟨(zY t).take 195++zO,by rw [h];rfl⟩
 ·exact ⟨_,h⟩
theorem V3 (a b:UInt8) (t:List UInt8):((za (a::b::t)).extract 0 2).toList=[a,b]:=by
 have e:=Lib.extract_data (za (a::b::t)) 0 2;rw [ByteArray.toList_eq,e]
 rfl
theorem X7 (os:List Ob) (f:Fr) (b:Bool):∃t,zL os f b=(if b then 62 else 32)::32::t:=by
 unfold zL xH
 cases b
 ·exact xt 32 32 _ (by decide) (by decide)
 ·exact xt 62 32 _ (by decide) (by decide)
theorem uL {m:Int} {os:List Ob} {w w':World} {e:Ending} (h:V0 m os w e w'):∃p er,e=.returned (.tuple #[.pointer p,.int .i64 er])∧Below w.heap.size w w'∧(p=none∨∃g o c,p=some ⟨g,0,none⟩∧zx (fun k=>w.heap.size≤k) w' (mostN m) os g o c):=by
 obtain ⟨b,⟨rfl,-⟩ | ⟨rfl,-⟩ | ⟨-,-,g,o,c,rfl,H⟩⟩:=h
 ·exact ⟨_,_,rfl,b,.inl rfl⟩
 ·exact ⟨_,_,rfl,b,.inl rfl⟩
 ·exact ⟨_,_,rfl,b,.inr ⟨g,o,c,rfl,H⟩⟩
theorem Yq (w:World) (v:Vw) (vf vs:Value) (hv:zR (fun q=>q<w.heap.size) w v vf vs) (hs:yz v) (os:List Ob) (U:Value) (ho:Zc (fun _=>True) w U os) (h1:∀o∈os,Zj o) (h2:∀o∈os,o.2.length≤1048576) (h3:os.length≤1048576) (a:Int) (ha:Zq a) (Z:YB w) :
  Calls Tryz.prog 6 #[uS vf vs v,U,.int .i64 a] w fun e w'=>e=.returned (.bool true)∧Below w.heap.size w w':=by
 obtain ⟨bf,cf,rfl,-,-,ax⟩:=hv.frames.at
 obtain ⟨bs,cs,rfl,-⟩:=hv.stops.at
 obtain ⟨bo,co,rfl,-,-,av⟩:=ho.at
 have aD:Hid (∀W,Below w.heap.size w W→Calls Tryz.prog 11 #[.int .i64 4096,.slice bo os.length co] W (V0 4096 os W)):=fun W hW =>
  V1 (fun _=>True) 4096 os _ W (ho.kept hW.size fun q _ hq=>hW.block q hq) h1 h2 h3 (Z.below hW (Nat.le_refl _)).tabs
 have aF:Hid (∀W,Below w.heap.size w W→Calls Tryz.prog 12 #[uS (.slice bf v.look.frames.length cf) (.slice bs v.stops.length cs) v,.slice bo os.length co] W fun e w'=>V2 e∧Below W.heap.size W w'):=fun W hW =>
  uK v _ _ os _ W (hv.below hW) hs (ho.kept hW.size fun q _ hq=>hW.block q hq) h3 h2
 have Y:Hid (∀W,Below w.heap.size w W→Calls Tryz.prog 10 #[] W fun e w'=>e=.returned (.bool true)∧Below W.heap.size W w'):=fun W hW=>XC W (Z.below hW (Nat.le_refl _))
 have HV:Hid (∀W,Below w.heap.size w W→∀s,zR (fun q=>q<w.heap.size) W { v with sel:=s } (.slice bf v.look.frames.length cf) (.slice bs v.stops.length cs)):=fun W hW s=>⟨(hv.below hW).frames,(hv.below hW).stops⟩
 have ay:Hid (yz { v with sel:=a }):={ hs with sel:=ha };have HT:Hid (YB w):=Z;have aq:Hid (∀i,i<v.look.frames.length→∃f,(Zx os { v with sel:=a })[i+1]?=some (zL os f (decide ((i:Int)=a)))):=fun i hi=>xQ os { v with sel:=a } i hi
 have aw:Hid ((Zx os { v with sel:=a }).length=2+v.look.frames.length+v.stops.length+(y6 v.look.out).length):=X3 _ _;have q1:=hs.nframes;have q2:=hs.nstops;have aP:Hid (v.look.out.length≤1048576):=hs.out;obtain ⟨⟨I,m,y,c,B⟩,sel,u,⟨G,n,A⟩⟩:=v;obtain ⟨w1,ao,ai,aG,h0⟩:=yj w (.cells (yN I m y (.slice bf c.length cf) B sel (.slice bs u.length cs) G n A) 35);have aH:Hid (w1=w.alloc (.cells (yN I m y (.slice bf c.length cf) B sel (.slice bs u.length cs) G n A) 35)):=ao;have al:Hid (Below w.heap.size w w1):=ai;have ah:Hid (w1.heap[w.heap.size]?=some (.cells (yN I m y (.slice bf c.length cf) B sel (.slice bs u.length cs) G n A) 35 (0,0))):=h0;have cl:=aD.out w1 ai;simp only at q1 q2;clear ao ai h0 aG ax av hv hs ho h1 h2 Z
 go_enter Tryz.func6,Tryz.ntmps6
 go_wp2_with fail
 rw [←aH.out];refine cl.mono ?_;clear cl;intro e w2 ar;obtain ⟨p,er,rfl,aj,M⟩:=uL ar;have HC:Hid (p=none∨∃g U vc,p=some ⟨g,0,none⟩∧zx (fun k=>w1.heap.size≤k) w2 (mostN 4096) os g U vc):=M
 have ad:Hid (Below w.heap.size w w2):=al.out.trans (aj.mono al.out.size);have ab:Hid _:=(aj.block _ (zc ah.out)).trans ah.out;clear ar aj M;have cw:=aF.out w2 ad.out;obtain ⟨p0,p1,p2,p3,p4,p5,p6,p7,p8,p9⟩:=zs ab.out;go_wp2_with fail
 refine cw.mono ?_;clear cw p0 p1 p2 p3 p4 p5 p6 p7 p8 p9;rintro e w3 ⟨⟨b,rfl⟩,X⟩;have E:Hid (Below w.heap.size w w3):=ad.out.trans (X.mono ad.out.size);have af:Hid _:=(X.block _ (zc ab.out)).trans ab.out
 have am:Hid (p=none∨∃g U vc,p=some ⟨g,0,none⟩∧zx (fun k=>w1.heap.size≤k) w3 (mostN 4096) os g U vc):=by
  rcases HC.out with h | ⟨g,U,vc,h,H⟩
  ·exact .inl h
  ·exact .inr ⟨g,U,vc,h,H.below X⟩
 clear X HC;cases b
 ·have T:=Y.out w3 E.out
  go_wp2_with fail
  refine T.mono ?_;clear T;rintro e F ⟨rfl,K⟩;have z:Hid (Below w.heap.size w F):=E.out.trans (K.mono E.out.size);clear K;go_wp2
  go_ret
  exact ⟨rfl,z.out⟩
 rcases am.out with rfl | ⟨g,U,vc,rfl,H⟩
 ·have T:=Y.out w3 E.out
  go_wp2_with fail
  refine T.mono ?_;clear T;rintro e F ⟨rfl,K⟩;have z:Hid (Below w.heap.size w F):=E.out.trans (K.mono E.out.size);clear K;go_wp2
  go_ret
  exact ⟨rfl,z.out⟩
 have an:Hid (zx (fun k=>w1.heap.size≤k) w3 (mostN 4096) os g U vc):=H
 clear H am;obtain ⟨F,O⟩:∃F,F=w3.setCell ⟨w.heap.size,5,none⟩ (.int .i64 a):=⟨_,rfl⟩;have aI:Hid (F=w3.setCell ⟨w.heap.size,5,none⟩ (.int .i64 a)):=O
 have ag:Hid (F.heap[w.heap.size]?=some (.cells (yN I m y (.slice bf c.length cf) B a (.slice bs u.length cs) G n A) 35 (0,0))):=by
  rw [O];exact heap_setCell_same w3 w.heap.size 5 _ _ _ af.out
 have z:Hid (Below w.heap.size w F):=by
  rw [O];exact E.out.setCell (p:=⟨w.heap.size,5,none⟩) (Nat.le_refl _) _
 have aE:Hid (zx (fun k=>w1.heap.size≤k) F (mostN 4096) os g U vc):=an.out.kept fun k hk _=>by
  rw [O];exact Below.heap_setCell _ _ _ _ (by have:=zc ah.out;simp only;omega)
 clear O an;have cn:=xq { (⟨⟨I,m,y,c,B⟩,sel,u,⟨G,n,A⟩⟩:Vw) with sel:=a } _ _ F aE.out (HV.out F z.out a) ay.out (HT.out.below z.out (Nat.le_refl _));obtain ⟨p0,p1,p2,p3,p4,p5,p6,p7,p8,p9⟩:=zs af.out;have aC:=Yy af.out 5;go_wp2_with fail
 rw [←aI.out];clear p0 p1 p2 p3 p4 p5 p6 p7 p8 p9 aC;obtain ⟨p0,p1,p2,p3,p4,p5,p6,p7,p8,p9⟩:=zs ag.out;go_wp2_with fail
 refine cn.mono ?_;clear cn p0 p1 p2 p3 p4 p5 p6 p7 p8 p9;rintro e w5 (⟨-,rfl,ap⟩ | ⟨-,r,rfl,J⟩)
 ·have D:Hid (Below w.heap.size w w5):=z.out.trans (ap.mono z.out.size)
  clear ap;have T:=Y.out w5 D.out;go_wp2_with fail
  refine T.mono ?_;clear T;rintro e w6 ⟨rfl,R⟩;have ae:Hid (Below w.heap.size w w6):=D.out.trans (R.mono D.out.size);clear R;go_wp2
  go_ret
  exact ⟨rfl,ae.out⟩
 obtain ⟨L,hL⟩:∃L,L=Zx os { (⟨⟨I,m,y,c,B⟩,sel,u,⟨G,n,A⟩⟩:Vw) with sel:=a }:=⟨_,rfl⟩;have au:Hid (∀i,i<c.length→∃f,L[i+1]?=some (zL os f (decide ((i:Int)=a)))):=by rw [hL];exact aq.out
 have aJ:L.length=2+c.length+u.length+(y6 B).length:=by rw [hL];exact aw.out
 rw [←hL] at J;have D:Hid (Below w.heap.size w w5):=z.out.trans (J.below.mono z.out.size);have aA:Hid _:=(J.below.block _ (zc ag.out)).trans ag.out;obtain ⟨br,cr,rfl,aL,aK,aa⟩:=J.in.at;have ak:Hid (∀i (hi:i<L.length),∃b o,br=some ⟨b,o,none⟩∧(fun k=>F.heap.size≤k) b∧b<w5.heap.size∧xG w5 b (o+i*1) L[i]):=aa
 have aO:L.length≤4000000:=by
  have:=Xz B
  omega
 have aN:c.length+2≤L.length:=by omega
 obtain ⟨p0,p1,p2,p3,p4,p5,p6,p7,p8,p9⟩:=zs aA.out;clear aa J hL aJ aq aw p0 p1 p2 p4 p5 p6 p7 p8 p9
 go_upto_region 9 with fail
 go_loopw [11] (fun vi wr=>∃i:Nat,i≤c.length∧vi=.int .i64 (i:Int)∧wr=w5) (fun vi _=>c.length-(intOf vi).toNat)
 case atStart=>exact ⟨0,Nat.zero_le _,rfl,rfl⟩
 case round =>
  obtain ⟨i,hi,rfl,rfl⟩:=hrel
  by_cases hlt:i<c.length
  ·have aB:(i:Int)<c.length:=by omega
   obtain ⟨b,o,rfl,-,aM,hc⟩:=ak.out (i+1) (by omega)
   obtain ⟨f,hf⟩:=au.out i hlt;obtain ⟨t,Z⟩:=X7 os f (decide ((i:Int)=a))
   have V:wr.cell? ⟨b,o+(i+1),none⟩=some (.string (za ((if decide ((i:Int)=a) then 62 else 32)::32::t))):=by
    rw [List.getElem?_eq_getElem (by omega),Option.some.injEq] at hf
    rw [←Z,←hf];have az:wr.cell? ⟨b,o+(i+1)*1,none⟩=some (.string (za L[i+1])):=hc
    rwa [Nat.mul_one] at az
   have aQ:t.length≤200:=by
    have h1:=congrArg List.length Z;have h2:=v8 (xH os f (decide ((i:Int)=a))).flatten
    unfold zL at h1
    simp only [List.length_cons] at h1;omega
   clear hc hf Z
   by_cases hia:(i:Int)=a
   ·rw [decide_eq_true hia,if_pos rfl] at V
    subst hia;have hx:=V3 62 32 t;go_wp2
    exact ⟨⟨i+1,by omega,by go_num,trivial⟩,by simp [intOf];omega⟩
   ·rw [decide_eq_false hia,if_neg (by decide)] at V
    have hx:=V3 32 32 t;have hy:((i:Int)==a)=false:=by simpa using hia
    go_wp2
    exact ⟨⟨i+1,by omega,by go_num,trivial⟩,by simp [intOf];omega⟩
  ·have aB:¬ (i:Int)<c.length:=by omega
   have T:=Y.out wr D.out;go_wp2_with fail
   refine T.mono ?_;clear T;rintro e w6 ⟨rfl,R⟩;have ae:Hid (Below w.heap.size w w6):=D.out.trans (R.mono D.out.size);clear R;go_wp2
   go_ret
   exact ⟨rfl,ae.out⟩
end Go.Proofs.YtbjndgachcdbcaaGreatDoor
