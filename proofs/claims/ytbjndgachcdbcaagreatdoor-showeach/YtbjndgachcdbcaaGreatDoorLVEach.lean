import Derived.Test.YtbjndgachcdbcaaGreatDoorLVSelects
namespace Go.Proofs.YtbjndgachcdbcaaGreatDoor
open Go.RowKit Go.Shelf
set_option maxHeartbeats 16000000
set_option maxRecDepth 100000
def ZC (l:List UInt8):Nat:=(l.filter fun c=>c==10).length
theorem vq (l:List UInt8) {i:Nat} (h:i<l.length):ZC (l.take (i+1))=ZC (l.take i)+if l[i]=10 then 1 else 0:=by
 have e:l.take i++[l[i]]=l.take (i+1):=List.take_append_getElem h
 unfold ZC
 rw [←e,List.filter_append,List.length_append]
 congr 1
 by_cases h10:l[i]=10
 ·rw [if_pos h10,List.filter_cons_of_pos (by simp [h10])];rfl
 ·rw [if_neg h10,List.filter_cons_of_neg (by simp [h10])];rfl
theorem XK (l:List UInt8):ZC l≤l.length:=List.length_filter_le _ _
theorem ya:∀(t cur:List UInt8),(endsAt cur t).length=ZC t
 | [],_=>rfl
 | c::t,cur=>by
  unfold endsAt
  by_cases h:c=10
  ·rw [if_pos h,List.length_cons,ya t []]
   unfold ZC
   rw [List.filter_cons_of_pos (by simp [h])];rfl
  ·rw [if_neg h,ya t (cur++[c])]
   unfold ZC
   rw [List.filter_cons_of_neg (by simp [h])]
theorem Vt (out:List UInt8):(yM out).length=min (ZC out) 4:=by
 unfold yM vN
 rw [List.length_drop,ya];omega
theorem xV (w:World) (v:Vw) (vf vs:Value) (hv:zL (fun q=>q<w.heap.size) w v vf vs) (V:Z9 v) (os:List Ob) (vo:Value) (ho:z8 (fun _=>True) w vo os) (h1:∀o∈os,Zf o) (h2:∀o∈os,o.2.length≤1048576) (h3:os.length≤1048576) (ht:Yr w) :
  Calls Tryz.prog 4 #[ut vf vs v,vo] w fun e w'=>e=.returned (.bool true)∧Below w.heap.size w w':=by
 obtain ⟨bf,cf,rfl,-,-,aI⟩:=hv.frames.at
 obtain ⟨bs,cs,rfl,-⟩:=hv.stops.at
 obtain ⟨bo,co,rfl,-,-,aM⟩:=ho.at
 have a8:Hid (∀W,Below w.heap.size w W→Calls Tryz.prog 11 #[.int .i64 4096,.slice bo os.length co] W (V9 4096 os W)):=fun W hW =>
  ub (fun _=>True) 4096 os _ W (ho.kept hW.size fun q _ hq=>hW.block q hq) h1 h2 h3 (ht.below hW (Nat.le_refl _)).tabs
 have a5:Hid (∀W,Below w.heap.size w W→Calls Tryz.prog 12 #[ut (.slice bf v.look.frames.length cf) (.slice bs v.stops.length cs) v,.slice bo os.length co] W fun e w'=>uc e∧Below W.heap.size W w'):=fun W hW =>
  uR v _ _ os _ W (hv.below hW) V (ho.kept hW.size fun q _ hq=>hW.block q hq) h3 h2
 have al:Hid (∀W,Below w.heap.size w W→Calls Tryz.prog 10 #[] W fun e w'=>e=.returned (.bool true)∧Below W.heap.size W w'):=fun W hW=>XJ W (ht.below hW (Nat.le_refl _))
 have HV:Hid (∀W,Below w.heap.size w W→zL (fun q=>q<w.heap.size) W v (.slice bf v.look.frames.length cf) (.slice bs v.stops.length cs)):=fun W hW=>hv.below hW
 have au:Hid (Z9 v):=V;have HT:Hid (Yr w):=ht;have aR:Hid ((linesB os v).length=2+v.look.frames.length+v.stops.length+(yM v.look.out).length):=YZ _ _;have aQ:Hid (∀s∈linesB os v,s.length≤200∧∀c∈s,32≤c∧c≤126):=Yn os v _ fun l=>⟨xp l,X5 l⟩
 have q1:=V.nframes;have q2:=V.nstops;have a9:Hid (v.look.out.length≤1048576):=V.out;obtain ⟨⟨F,u,z,m,out⟩,E,y,⟨G,n,A⟩⟩:=v;obtain ⟨w1,aO,aA,be,h0⟩:=Z6 w (.cells (yP F u z (.slice bf m.length cf) out E (.slice bs y.length cs) G n A) 35);have a1:Hid (w1=w.alloc (.cells (yP F u z (.slice bf m.length cf) out E (.slice bs y.length cs) G n A) 35)):=aO;have aH:Hid (Below w.heap.size w w1):=aA;have aN:Hid (w1.heap[w.heap.size]?=some (.cells (yP F u z (.slice bf m.length cf) out E (.slice bs y.length cs) G n A) 35 (0,0))):=h0;have cl:=a8.out w1 aA;simp only at q1 q2;clear aO aA h0 be aI aM hv V ho h1 h2 ht
 go_enter Tryz.func4,Tryz.ntmps4
 go_wp2_with fail
 rw [←a1.out];refine cl.mono ?_;clear cl;intro e w2 aX;obtain ⟨p,er,rfl,az,ag⟩:=uS aX;have HC:Hid (p=none∨∃g vo vc,p=some ⟨g,0,none⟩∧zw (fun k=>w1.heap.size≤k) w2 (mostN 4096) os g vo vc):=ag
 have aC:Hid (Below w.heap.size w w2):=aH.out.trans (az.mono aH.out.size);have ax:Hid _:=(az.block _ (zc aN.out)).trans aN.out;clear aX az ag;have cw:=a5.out w2 aC.out;obtain ⟨p0,p1,p2,p3,p4,p5,p6,p7,p8,p9⟩:=zo ax.out;go_wp2_with fail
 refine cw.mono ?_;clear cw p0 p1 p2 p3 p4 p5 p6 p7 p8 p9;rintro e J ⟨⟨b,rfl⟩,ak⟩;have B:Hid (Below w.heap.size w J):=aC.out.trans (ak.mono aC.out.size);have af:Hid _:=(ak.block _ (zc ax.out)).trans ax.out
 have aS:Hid (p=none∨∃g vo vc,p=some ⟨g,0,none⟩∧zw (fun k=>w1.heap.size≤k) J (mostN 4096) os g vo vc):=by
  rcases HC.out with h | ⟨g,vo,vc,h,H⟩
  ·exact .inl h
  ·exact .inr ⟨g,vo,vc,h,H.below ak⟩
 clear ak HC;cases b
 ·have cv:=al.out J B.out
  go_wp2_with fail
  refine cv.mono ?_;clear cv;rintro e w4 ⟨rfl,D⟩;have I:Hid (Below w.heap.size w w4):=B.out.trans (D.mono B.out.size);clear D;go_wp2
  go_ret
  exact ⟨rfl,I.out⟩
 rcases aS.out with rfl | ⟨g,vo,vc,rfl,H⟩
 ·have cv:=al.out J B.out
  go_wp2_with fail
  refine cv.mono ?_;clear cv;rintro e w4 ⟨rfl,D⟩;have I:Hid (Below w.heap.size w w4):=B.out.trans (D.mono B.out.size);clear D;go_wp2
  go_ret
  exact ⟨rfl,I.out⟩
 have aD:Hid (zw (fun k=>w1.heap.size≤k) J (mostN 4096) os g vo vc):=H
 clear H aS;have cn:=Yc ⟨⟨F,u,z,m,out⟩,E,y,⟨G,n,A⟩⟩ _ _ J aD.out (HV.out J B.out) au.out (HT.out.below B.out (Nat.le_refl _))
 have CB:Hid (∀W,Below J.heap.size J W→Calls Tryz.prog 14 #[ut (.slice bf m.length cf) (.slice bs y.length cs) ⟨⟨F,u,z,m,out⟩,E,y,⟨G,n,A⟩⟩,.pointer (some ⟨g,0,none⟩)] W fun e w'=>(Y8 os.length ⟨⟨F,u,z,m,out⟩,E,y,⟨G,n,A⟩⟩=false∧e=.returned (.tuple #[.slice none 0 0,.int .i64 2])∧Below W.heap.size W w')∨(Y8 os.length ⟨⟨F,u,z,m,out⟩,E,y,⟨G,n,A⟩⟩=true∧∃r,e=.returned (.tuple #[r,.int .i64 0])∧zg W.heap.size w' r (ze (linesB os ⟨⟨F,u,z,m,out⟩,E,y,⟨G,n,A⟩⟩))∧Below W.heap.size W w')):=fun W hW =>
  Vr ⟨⟨F,u,z,m,out⟩,E,y,⟨G,n,A⟩⟩ _ _ W (aD.out.below hW) (HV.out W (B.out.trans (hW.mono B.out.size))) au.out (HT.out.below (B.out.trans (hW.mono B.out.size)) (Nat.le_refl _))
 obtain ⟨L,hL⟩:∃L,L=linesB os ⟨⟨F,u,z,m,out⟩,E,y,⟨G,n,A⟩⟩:=⟨_,rfl⟩;obtain ⟨M,hM⟩:∃M,M=Y8 os.length ⟨⟨F,u,z,m,out⟩,E,y,⟨G,n,A⟩⟩:=⟨_,rfl⟩;have an:Hid (∀s∈L,s.length≤200∧∀c∈s,32≤c∧c≤126):=by rw [hL];exact aQ.out
 have a0:L.length=2+m.length+y.length+min (ZC out) 4:=by rw [hL,←Vt];exact aR.out
 rw [←hL,←hM] at cn CB;clear hL hM aQ aR HV au aD;obtain ⟨p0,p1,p2,p3,p4,p5,p6,p7,p8,p9⟩:=zo af.out;go_wp2_with fail
 refine cn.mono ?_;clear cn p0 p1 p2 p3 p4 p5 p6 p7 p8 p9;rintro e w4 (⟨rfl,rfl,D⟩ | ⟨rfl,r,rfl,X⟩)
 ·have bq:Hid (Below J.heap.size J w4):=D
  have I:Hid (Below w.heap.size w w4):=B.out.trans (D.mono B.out.size);have ah:Hid _:=(D.block _ (zc af.out)).trans af.out;obtain ⟨p0,p1,p2,p3,p4,p5,p6,p7,p8,p9⟩:=zo ah.out;have cb:=CB.out w4 D;clear D;go_wp2_with fail
  refine cb.mono ?_;clear cb p0 p1 p2 p3 p4 p5 p6 p7 p8 p9;rintro e K (⟨-,rfl,O⟩ | ⟨h,-⟩)
  ·have U:Hid (Below w.heap.size w K):=I.out.trans (O.mono I.out.size)
   clear O;have cv:=al.out K U.out;go_wp2_with fail
   refine cv.mono ?_;clear cv;rintro e w6 ⟨rfl,aG⟩;have Y:Hid (Below w.heap.size w w6):=U.out.trans (aG.mono U.out.size);clear aG;go_wp2
   go_ret
   exact ⟨rfl,Y.out⟩
  ·cases h
 have I:Hid (Below w.heap.size w w4):=B.out.trans (X.below.mono B.out.size);have ah:Hid _:=(X.below.block _ (zc af.out)).trans af.out;obtain ⟨p0,p1,p2,p3,p4,p5,p6,p7,p8,p9⟩:=zo ah.out;have cb:=CB.out w4 X.below;have aY:Hid (zl J.heap.size J w4 r L):=X;clear X;go_wp2_with fail
 refine cb.mono ?_;clear cb p0 p1 p2 p3 p4 p5 p6 p7 p8 p9;rintro e K (⟨h,-⟩ | ⟨-,r2,rfl,aT,O⟩)
 ·cases h
 have U:Hid (Below w.heap.size w K):=I.out.trans (O.mono I.out.size);have a3:Hid _:=(O.block _ (zc ah.out)).trans ah.out;have aU:Hid (zl J.heap.size J K r L):=aY.out.new O;obtain ⟨br,cr,rfl,bn,bl,am⟩:=aU.out.in.at;have aF:Hid (∀i (hi:i<L.length),∃b o,br=some ⟨b,o,none⟩∧(fun k=>J.heap.size≤k) b∧b<K.heap.size∧Y6 K b (o+i*1) L[i]):=am
 obtain ⟨aK,cy,rfl,Z,ap,bp,-⟩:=Zj aT.own
 have bj:Hid (ZY K aK (ze L)):=Z
 have aE:(ze L).length≤L.length*201:=YY L fun s V=>(an.out s V).1
 have bu:=a9.out;have bd:=XK out;clear am aT O Z aY aU CB;obtain ⟨p0,p1,p2,p3,p4,p5,p6,p7,p8,p9⟩:=zo a3.out;clear p0 p1 p2 p5 p7 p8 p9
 go_upto_region 10 with fail
 go_loopw [11,13] (fun vn vi wr=>∃i:Nat,i≤out.length∧vi=.int .i64 (i:Int)∧vn=.int .i64 (ZC (out.take i):Int)∧wr=K) (fun _ vi _=>out.length-(intOf vi).toNat)
 case atStart=>exact ⟨0,Nat.zero_le _,rfl,rfl,rfl⟩
 case round =>
  obtain ⟨i,hi,rfl,rfl,he⟩:=hrel;have a7:=he.symm;clear he;subst a7;have bi:(za out).size=out.length:=rfl
  by_cases hlt:i<out.length
  ·have ay:(i:Int)<out.length:=by omega
   have av:(za out)[i]'hlt=out[i]:=rfl;have HN:Hid (ZC (out.take (i+1))=ZC (out.take i)+if out[i]=10 then 1 else 0):=vq out hlt
   have T:=XK (out.take i);rw [List.length_take] at T;obtain ⟨nn,ai⟩:∃nn,nn=ZC (out.take i):=⟨_,rfl⟩;rw [←ai] at HN T ⊢;clear ai;obtain ⟨c,hc⟩:∃c,c=out[i]:=⟨_,rfl⟩;rw [←hc] at av HN;clear hc
   by_cases h10:c=10
   ·have ab:=HN.out
    rw [if_pos h10] at ab;subst h10;clear HN;go_wp2
    exact ⟨⟨i+1,by omega,by go_num,by rw [ab];go_num,trivial⟩,by simp [intOf];omega⟩
   ·have ab:=HN.out
    rw [if_neg h10] at ab;have bh:¬ (c.toNat:Int)=10:=fun h=>h10 (UInt8.toNat_inj.1 (by simpa using Int.ofNat_inj.1 h))
    have bv:((c.toNat:Int)==10)=false:=by simpa using bh
    clear HN h10;go_wp2
    exact ⟨⟨i+1,by omega,by go_num,by rw [ab,Nat.add_zero],trivial⟩,by simp [intOf];omega⟩
  ·have ay:¬ (i:Int)<out.length:=by omega
   obtain rfl:i=out.length:=by omega
   rw [List.take_length];obtain ⟨nn,ai⟩:∃nn,nn=ZC out:=⟨_,rfl⟩;rw [←ai] at a0 bd ⊢;clear ai;have bk:L.length≤4000000:=by omega
   have aJ:(2:Int)+(m.length:Int)+(y.length:Int)+min (nn:Int) 4=(L.length:Int):=by omega
   clear a0
   go_upto_region 17 with fail
   clear aJ
   go_loopw [12,14] (fun va vi wr=>∃i:Nat,i≤L.length∧vi=.int .i64 (i:Int)∧va=.int .i64 ((ze (L.take i)).length:Int)∧Below K.heap.size K wr) (fun _ vi _=>L.length-(intOf vi).toNat)
   case atStart=>exact ⟨0,Nat.zero_le _,rfl,rfl,Below.refl _ _⟩
   case round =>
    obtain ⟨i,hi,rfl,rfl,aa⟩:=hrel;have aP:Hid (Below K.heap.size K wr):=aa
    by_cases hlt:i<L.length
    ·have ay:(i:Int)<L.length:=by omega
     obtain ⟨b,o,rfl,-,aW,hc⟩:=aF.out i hlt
     have aq:wr.cell? ⟨b,o+i,none⟩=some (.string (za L[i])):=by
      have:=(zb (g:=b) (j:=o+i*1) aa aW).trans hc
      simpa only [Nat.mul_one] using this
     obtain ⟨a6,aB⟩:=an.out L[i] (List.getElem_mem hlt)
     have hcut:ze L=ze (L.take i)++(L[i]++(10::ze (L.drop (i+1)))):=by
      conv=>lhs;rw [←List.take_append_drop i L]
      rw [zQ,List.drop_eq_getElem_cons hlt]
      congr 1
      unfold ze
      rw [List.flatMap_cons,List.append_assoc]
      rfl
     have aj:Hid ((ze (L.take (i+1))).length=(ze (L.take i)).length+L[i].length+1):=by
      show (ze _).length=_
      rw [Ym L hlt,List.length_append,List.length_append]
      rfl
     have aV:ZY wr aK (ze L):=Xa bj.out aa (Nat.le_refl _)
     obtain ⟨s,V⟩:∃s,s=L[i]:=⟨_,rfl⟩;obtain ⟨P,hP⟩:∃P,P=ze (L.take i):=⟨_,rfl⟩;obtain ⟨R,hR⟩:∃R,R=ze (L.drop (i+1)):=⟨_,rfl⟩;rw [←V,←hP,←hR] at hcut;rw [←V] at aq a6 aB aj;rw [←hP] at aj ⊢;rw [hcut] at aV;have T:(ze L).length=P.length+(s.length+(1+R.length)):=by rw [hcut];simp;omega
     rcases aV with h0 | ⟨g2,o2,rfl,hg⟩
     ·simp at h0
     have ba:Hid (∀c∈s,32≤c∧c≤126):=aB
     have aL:ZY wr (some ⟨g2,o2+P.length,none⟩) s:=.inr ⟨g2,o2+P.length,rfl,fun j hj=>by
      have h:=hg (P.length+j) (by simp;omega)
      rw [List.getElem_append_right (by omega),List.getElem_append_left (by omega)] at h
      have e:P.length+j-P.length=j:=by omega
      simp only [e] at h;rw [Nat.add_assoc]
      exact h⟩
     have ao:wr.cell? ⟨g2,o2+(P.length+s.length),none⟩=some (.int .u8 10):=by
      have h:=hg (P.length+s.length) (by simp)
      rw [List.getElem_append_right (by omega),List.getElem_append_right (by omega)] at h
      rw [h];have e:P.length+s.length-P.length-s.length=0:=by omega
      simp only [e,List.getElem_cons_zero]
      rfl
     have ae:∀n,(convert 44 9 (.slice (some ⟨g2,o2+P.length,none⟩) s.length (cy-P.length))).run Tryz.prog (wr.drewN n)=.ok (.string (za s)) (wr.drewN n):=fun n=>Zq _ _ _ _ (xZ n aL)
     obtain ⟨nB,ad⟩:∃nB,nB=(ze L).length:=⟨_,rfl⟩;rw [←ad] at T aE ap ⊢;obtain ⟨k,hk⟩:∃k,k=P.length:=⟨_,rfl⟩;rw [←hk] at T ao ae aj ⊢;have bm:((k:Int)+(s.length:Int))<(nB:Int):=by omega
     have a2:decide ((nB:Int)≤(k:Int)+(s.length:Int))=false:=decide_eq_false (by omega)
     have bc:decide ((200:Int)<(s.length:Int))=false:=decide_eq_false (by omega)
     have bt:k+s.length+1≤nB:=by omega
     clear aL hg hcut V hP hR ad hk hc aB aa T;go_wp2_with fail
     go_quiet (fail)
     go_upto_region 23 with fail
     have a4:Hid (Below K.heap.size K (wr.drewN nq)):=aP.out.trans ⟨rfl,rfl,rfl,Nat.le_refl _,fun _ _=>rfl⟩
     clear ae ao a2 bc
     go_loopw [15] (fun vj wq=>∃j:Nat,j≤s.length∧vj=.int .i64 (j:Int)∧wq=wr.drewN nq) (fun vj _=>s.length-(intOf vj).toNat)
     case atStart=>exact ⟨0,Nat.zero_le _,rfl,rfl⟩
     case round =>
      obtain ⟨j,hj,rfl,rfl⟩:=hrel
      by_cases hjl:j<s.length
      ·have bb:(j:Int)<s.length:=by omega
       have bi:(za s).size=s.length:=rfl;have av:(za s)[j]'hjl=s[j]:=rfl;obtain ⟨aw,ar⟩:=ba.out s[j] (List.getElem_mem hjl);obtain ⟨c,hc⟩:∃c,c=s[j]:=⟨_,rfl⟩;rw [←hc] at av aw ar
       have h5:¬ (c.toNat:Int)<32:=by
        have:=UInt8.le_iff_toNat_le.1 aw
        have e:(32:UInt8).toNat=32:=rfl;omega
       have h6:¬ (126:Int)<(c.toNat:Int):=by
        have:=UInt8.le_iff_toNat_le.1 ar
        have e:(126:UInt8).toNat=126:=rfl;omega
       clear hc aw ar;go_wp2
       exact ⟨⟨j+1,by omega,by go_num,trivial⟩,by simp [intOf];omega⟩
      ·have bb:¬ (j:Int)<s.length:=by omega
       go_wp2
       exact ⟨⟨i+1,by omega,by go_num,by rw [aj.out];go_num,a4.out⟩,by simp [intOf];omega⟩
    ·have ay:¬ (i:Int)<L.length:=by omega
     obtain rfl:i=L.length:=by omega
     rw [List.take_length];obtain ⟨nB,ad⟩:∃nB,nB=(ze L).length:=⟨_,rfl⟩;rw [←ad] at aE ap ⊢;clear ad aa;have Y:Hid (Below w.heap.size w wr):=U.out.trans (aP.out.mono U.out.size);have cv:=al.out wr Y.out;go_wp2_with fail
     refine cv.mono ?_;clear cv;rintro e w7 ⟨rfl,aZ⟩;have bg:Hid (Below w.heap.size w w7):=Y.out.trans (aZ.mono Y.out.size);clear aZ;go_wp2
     go_ret
     exact ⟨rfl,bg.out⟩
end Go.Proofs.YtbjndgachcdbcaaGreatDoor
