import Derived.Test.YtbjndgachcdbcaaGreatDoorHWrite
import Derived.Deep.RegionWith
namespace Go.Proofs.YtbjndgachcdbcaaGreatDoor
open Go.RowKit Go.Shelf
set_option maxHeartbeats 16000000
set_option maxRecDepth 100000
theorem zg.lt {B:Nat} {w:World} {v:Value} {bs:List UInt8} (h:zg B w v bs):∀k,v.ownBlock=some k→B≤k:=fun k hk=>(World.ownsRow.lt h k hk).1
theorem zg.own {B:Nat} {w:World} {v:Value} {bs:List UInt8} (h:zg B w v bs):w.ownsRow B 5 1 v bs.length (Lib.byteCells bs):=h
theorem zg.alloc {B:Nat} {w:World} {v:Value} {bs:List UInt8} (h:zg B w v bs) (o:Obj):zg B (w.alloc o) v bs:=World.ownsRow.alloc h o
theorem zg.kept {B n:Nat} {w w':World} {v:Value} {bs:List UInt8} (h:zg B w v bs) (hb:Below n w w') (hn:w.heap.size≤n):zg B w' v bs:=zh h fun k _ hk=>hb.block k (Nat.lt_of_lt_of_le hk hn)
theorem YU (d:Nat) (hO:Vj d):YI d:=by
 intro B w aB os h vo vc H l pv us bv aM hl bo ax bj;have hB:=H.le;have a8:Hid (zg B w bv us):=ax;have HH:Hid (XF B w aB os h vo vc):=H;have HL:Hid (∀v∈l,rightV v os.length=true∧zr v):=hl;have a5:Hid (Vj d):=hO;have aF:∀o∈os,Ze o:=fun o ho=>(H.hp.ok o ho).2
 have bq:Hid (∀o∈os,Ze o):=aF;obtain ⟨base,bp,rfl,be,bg,aU⟩:=aM.at;have aS:Hid (∀i (hi:i<l.length),∃b o,base=some ⟨b,o,none⟩∧b<B∧b<w.heap.size∧w.cell? ⟨b,o+i*3,none⟩=some (.int .i64 (l[i]).k)∧w.cell? ⟨b,o+i*3+1,none⟩=some (.int .i64 (l[i]).n)∧w.cell? ⟨b,o+i*3+2,none⟩=some (.string (za (l[i]).s))):=aU;have bh:=xW d;obtain ⟨f,hf⟩:∃f,f=zy os d:=⟨_,rfl⟩;rw [←hf];have HF:Hid (f=zy os d):=hf
 have az:∀i,i≤8→(us++zf f (l.take i)).length≤us.length+8*(Zj d+2):=fun i hi=>by
  have h1:=Ya (f:=f) (N:=Zj d) (l.take i) fun v hv=>by rw [hf];exact yN aF d v (hl v (List.mem_of_mem_take hv)).2
  have h2:(l.take i).length≤8:=by rw [List.length_take];omega
  have h3:(l.take i).length*(Zj d+2)≤8*(Zj d+2):=Nat.mul_le_mul_right _ h2;rw [List.length_append];omega
 have aX:Hid (∀i,i≤8→(us++zf f (l.take i)).length≤us.length+8*(Zj d+2)):=az;clear aM aU ax H hl hO hf az aF
 go_enter Tryz.func48,Tryz.ntmps48
 go_wp2
 go_loopw [1,15] (fun vb vi wr=>∃i:Nat,i≤l.length∧vi=.int .i64 i∧zg B wr vb (us++zf f (l.take i))∧Below B w wr) (fun _ vi _=>l.length-(intOf vi).toNat)
 case atStart=>exact ⟨0,Nat.zero_le _,rfl,by simpa [zf] using a8.out,Below.refl _ _⟩
 case round =>
  obtain ⟨i,hi,rfl,aT,aI⟩:=hrel;have HO:Hid (zg B wr u1 (us++zf f (l.take i))):=aT;have HB:Hid (Below B w wr):=aI;have bb:=aI.size;clear aT aI
  by_cases hlt:i<l.length
  ·obtain ⟨b,o,rfl,aG,bl,q0,q1,q2⟩:=aS.out i hlt
   have a7:(i:Int)<l.length:=by omega
   have r0:=(zb HB.out aG).trans q0;have r1:=(zb HB.out aG).trans q1;have r2:=(zb HB.out aG).trans q2;have aE:=(HL.out l[i] (List.getElem_mem hlt)).1;have aj:=(HL.out l[i] (List.getElem_mem hlt)).2;have ap:=XG us f l i hlt;have aR:f l[i]=zX l[i] (yD os d ((os[(l[i]).n.toNat]?).getD ([],[]))):=by rw [HF.out];exact xz os d l[i]
   rw [aR] at ap;have bc:=aX.out i (by omega)
   have a6:(Yb us f l i).length≤us.length+8*(Zj d+2)+2:=by
    unfold Yb
    rw [List.length_append]
    have:(if i=0 then ([]:List UInt8) else [44,32]).length≤2:=by split <;> simp
    omega
   have X:Hid (Yb us f l i=us++zf f (l.take i)++if i=0 then [] else [44,32]):=rfl
   obtain ⟨x,hx⟩:∃x,x=l[i]:=⟨_,rfl⟩;rw [←hx] at r0 r1 r2 aE aj ap;obtain ⟨J,aN⟩:∃J,J=Yb us f l i:=⟨_,rfl⟩;rw [←aN] at ap a6 X;obtain ⟨xk,xn,xs⟩:=x;have O:Hid (us++zf f (l.take (i+1))=J++zX ⟨xk,xn,xs⟩ (yD os d ((os[xn.toNat]?).getD ([],[])))):=ap;have HX:Hid (rightV ⟨xk,xn,xs⟩ os.length=true∧zr ⟨xk,xn,xs⟩):=⟨aE,aj⟩;have aA:-9223372036854775808≤xn:=aj.1.1;have ay:xn≤9223372036854775807:=aj.1.2;have aL:xs.length≤1048576:=aj.2;simp only at r0 r1 r2;obtain ⟨w1,ai⟩:∃w1,w1=wr.alloc (.cells #[.int .i64 xk,.int .i64 xn,.string (za xs)] 56):=⟨_,rfl⟩;have ag:w1.heap.size=wr.heap.size+1:=by rw [ai];simp
   have Z:Hid (Below B w w1):=by show Below _ _ _;rw [ai];exact HB.out.alloc (by omega) _
   have aJ:w1.heap[wr.heap.size]?=some (.cells #[.int .i64 xk,.int .i64 xn,.string (za xs)] 56 (0,0)):=by rw [ai];exact World.alloc_heap_new _ _
   have D:Hid (zg B w1 u1 (us++zf f (l.take i))):=by show zg _ _ _ _;rw [ai];exact HO.out.alloc _
   obtain ⟨p0,p1,p2,-⟩:=zt aJ;have aa:Hid (w1.heap[wr.heap.size]?=some (.cells #[.int .i64 xk,.int .i64 xn,.string (za xs)] 56 (0,0))):=aJ;have ba:=ai.symm;clear q0 q1 q2 aE aj ap aR hx aN ai aJ aS HL
   by_cases h1:xk=1
   ·subst h1
    rw [show zX ⟨1,xn,xs⟩ (yD os d ((os[xn.toNat]?).getD ([],[])))=Lib.itoa xn from rfl] at O
    rcases Nat.eq_zero_or_pos i with K | K
    ·subst K
     simp only [Nat.zero_mul,Nat.add_zero] at r0 r1 r2;have A:Hid (zg B w1 u1 J):=by show zg _ _ _ _;rw [X.out];simpa using D.out
     have u:Hid (Below B w w1):=Z.out;have ab:w1.heap.size=wr.heap.size+1:=ag;go_wp2_with fail
     refine (Tryz.strconv_AppendInt_10 B J.length xn aA ay u1 (Lib.byteCells J) w1 A.out.own (by have:=u.out.size;omega) (by omega) (fun W hW=>(HH.out.tabs W (u.out.trans hW)).2)).mono ?_
     rintro e G ⟨V,rfl,z,I,-⟩;have E:Hid (zg B G V (us++zf f (l.take (0+1)))):=by show zg _ _ _ _;rw [O.out];unfold zg;rw [List.length_append,Lib.byteCells_append];exact z
     have F:Hid (Below B w G):=u.out.trans I;clear z I;go_wp2
     exact ⟨⟨0+1,by omega,by go_num,E.out,F.out⟩,by simp [intOf];omega⟩
    ·have av:(0:Int)<(i:Int):=by omega
     have M:Hid (J=us++zf f (l.take i)++[44,32]):=by show _=_;rw [X.out,if_neg (by omega)]
     go_wp2_with (at_builtin;refine ze rfl _ _ rfl B _ (us++zf f (l.take i)) rfl D.out.own [44,32] rfl (by simp only [List.length_cons,List.length_nil];omega) (by omega) ?_;intro va Y y m;have A:Hid (zg B Y va J):=(by show zg _ _ _ _;rw [M.out];exact y);have u:Hid (Below B w Y):=Z.out.grown m (by omega) (fun q hq=>D.out.lt q hq);have ab:=m.size;have R:some wr.heap.size≠u1.ownBlock:=(fun e=>by obtain ⟨an,U⟩:=zj D.out.own e.symm;rw [aa.out] at U;simp at U);have T:=(m.block _ (by omega) R).trans aa.out;obtain ⟨ao,au,al,-⟩:=zt T;clear y m R)
     refine (Tryz.strconv_AppendInt_10 B J.length xn aA ay va (Lib.byteCells J) Y A.out.own (by have:=u.out.size;omega) (by omega) (fun W hW=>(HH.out.tabs W (u.out.trans hW)).2)).mono ?_
     rintro e G ⟨V,rfl,z,I,-⟩;have E:Hid (zg B G V (us++zf f (l.take (i+1)))):=by show zg _ _ _ _;rw [O.out];unfold zg;rw [List.length_append,Lib.byteCells_append];exact z
     have F:Hid (Below B w G):=u.out.trans I;clear z I;go_wp2
     exact ⟨⟨i+1,by omega,by go_num,E.out,F.out⟩,by simp [intOf];omega⟩
   have aD:(xk==1)=false:=by rw [beq_eq_false_iff_ne];exact h1
   by_cases h2:xk=2
   ·subst h2
    clear aD
    by_cases hn1:xn=1
    ·subst hn1
     rw [show zX ⟨2,1,xs⟩ (yD os d ((os[(1:Int).toNat]?).getD ([],[])))=xA true from rfl] at O
     rcases Nat.eq_zero_or_pos i with K | K
     ·subst K
      simp only [Nat.zero_mul,Nat.add_zero] at r0 r1 r2;have A:Hid (zg B w1 u1 J):=by show zg _ _ _ _;rw [X.out];simpa using D.out
      have u:Hid (Below B w w1):=Z.out;have ab:w1.heap.size=wr.heap.size+1:=ag;go_wp2_with fail
      refine (zU B u1 J true w1 A.out.own (by have:=u.out.size;omega) (by omega)).mono ?_
      rintro e G ⟨V,rfl,z,I⟩;have E:Hid (zg B G V (us++zf f (l.take (0+1)))):=by show zg _ _ _ _;rw [O.out];exact z
      have F:Hid (Below B w G):=u.out.trans I;clear z I;go_wp2
      exact ⟨⟨0+1,by omega,by go_num,E.out,F.out⟩,by simp [intOf];omega⟩
     ·have av:(0:Int)<(i:Int):=by omega
      have M:Hid (J=us++zf f (l.take i)++[44,32]):=by show _=_;rw [X.out,if_neg (by omega)]
      go_wp2_with (at_builtin;refine ze rfl _ _ rfl B _ (us++zf f (l.take i)) rfl D.out.own [44,32] rfl (by simp only [List.length_cons,List.length_nil];omega) (by omega) ?_;intro va Y y m;have A:Hid (zg B Y va J):=(by show zg _ _ _ _;rw [M.out];exact y);have u:Hid (Below B w Y):=Z.out.grown m (by omega) (fun q hq=>D.out.lt q hq);have ab:=m.size;have R:some wr.heap.size≠u1.ownBlock:=(fun e=>by obtain ⟨an,U⟩:=zj D.out.own e.symm;rw [aa.out] at U;simp at U);have T:=(m.block _ (by omega) R).trans aa.out;obtain ⟨ao,au,al,-⟩:=zt T;clear y m R)
      refine (zU B va J true Y A.out.own (by have:=u.out.size;omega) (by omega)).mono ?_
      rintro e G ⟨V,rfl,z,I⟩;have E:Hid (zg B G V (us++zf f (l.take (i+1)))):=by show zg _ _ _ _;rw [O.out];exact z
      have F:Hid (Below B w G):=u.out.trans I;clear z I;go_wp2
      exact ⟨⟨i+1,by omega,by go_num,E.out,F.out⟩,by simp [intOf];omega⟩
    have br:(xn==1)=false:=by rw [beq_eq_false_iff_ne];exact hn1
    rw [show zX ⟨2,xn,xs⟩ (yD os d ((os[xn.toNat]?).getD ([],[])))=xA false by simp [zX,hn1,xA]] at O
    rcases Nat.eq_zero_or_pos i with K | K
    ·subst K
     simp only [Nat.zero_mul,Nat.add_zero] at r0 r1 r2;have A:Hid (zg B w1 u1 J):=by show zg _ _ _ _;rw [X.out];simpa using D.out
     have u:Hid (Below B w w1):=Z.out;have ab:w1.heap.size=wr.heap.size+1:=ag;go_wp2_with fail
     refine (zU B u1 J false w1 A.out.own (by have:=u.out.size;omega) (by omega)).mono ?_
     rintro e G ⟨V,rfl,z,I⟩;have E:Hid (zg B G V (us++zf f (l.take (0+1)))):=by show zg _ _ _ _;rw [O.out];exact z
     have F:Hid (Below B w G):=u.out.trans I;clear z I;go_wp2
     exact ⟨⟨0+1,by omega,by go_num,E.out,F.out⟩,by simp [intOf];omega⟩
    ·have av:(0:Int)<(i:Int):=by omega
     have M:Hid (J=us++zf f (l.take i)++[44,32]):=by show _=_;rw [X.out,if_neg (by omega)]
     go_wp2_with (at_builtin;refine ze rfl _ _ rfl B _ (us++zf f (l.take i)) rfl D.out.own [44,32] rfl (by simp only [List.length_cons,List.length_nil];omega) (by omega) ?_;intro va Y y m;have A:Hid (zg B Y va J):=(by show zg _ _ _ _;rw [M.out];exact y);have u:Hid (Below B w Y):=Z.out.grown m (by omega) (fun q hq=>D.out.lt q hq);have ab:=m.size;have R:some wr.heap.size≠u1.ownBlock:=(fun e=>by obtain ⟨an,U⟩:=zj D.out.own e.symm;rw [aa.out] at U;simp at U);have T:=(m.block _ (by omega) R).trans aa.out;obtain ⟨ao,au,al,-⟩:=zt T;clear y m R)
     refine (zU B va J false Y A.out.own (by have:=u.out.size;omega) (by omega)).mono ?_
     rintro e G ⟨V,rfl,z,I⟩;have E:Hid (zg B G V (us++zf f (l.take (i+1)))):=by show zg _ _ _ _;rw [O.out];exact z
     have F:Hid (Below B w G):=u.out.trans I;clear z I;go_wp2
     exact ⟨⟨i+1,by omega,by go_num,E.out,F.out⟩,by simp [intOf];omega⟩
   have aO:(xk==2)=false:=by rw [beq_eq_false_iff_ne];exact h2
   by_cases h3:xk=3
   ·subst h3
    clear aD aO;rw [show zX ⟨3,xn,xs⟩ (yD os d ((os[xn.toNat]?).getD ([],[])))=(Xy 3 0 xs).1 from rfl] at O
    have bd:(Xy 3 0 xs).1.length≤3000000:=by
     have:=y6 (v:=⟨3,0,xs⟩) (r:=[]) (N:=3000000) ⟨⟨by simp,by simp⟩,aL⟩ (by simp) (Nat.le_refl _)
     simpa [zX] using this
    rcases Nat.eq_zero_or_pos i with K | K
    ·subst K
     simp only [Nat.zero_mul,Nat.add_zero] at r0 r1 r2;have A:Hid (zg B w1 u1 J):=by show zg _ _ _ _;rw [X.out];simpa using D.out
     have u:Hid (Below B w w1):=Z.out;have ab:w1.heap.size=wr.heap.size+1:=ag;go_wp2_with fail
     refine (yd 3 0 0 0 xs w1 (by omega) (by omega) (by omega) (HH.out.tabs _ u.out)).mono ?_
     rintro e w4 ⟨rfl,af⟩;have aq:Hid (zg B w4 u1 J):=A.out.kept af (Nat.le_refl _);have ar:Hid (Below B w w4):=u.out.trans (af.mono (by have:=u.out.size;omega))
     have a3:=ar.out.size;clear af
     go_wp2_with (at_builtin;refine ze rfl _ _ rfl B _ J rfl aq.out.own (Xy 3 0 xs).1 rfl (by omega) (by omega) ?_;intro V G z ae)
     have F:Hid (Below B w G):=ar.out.grown ae (by omega) (fun q hq=>aq.out.lt q hq)
     have E:Hid (zg B G V (us++zf f (l.take (0+1)))):=by show zg _ _ _ _;rw [O.out];exact z
     exact ⟨⟨0+1,by omega,by go_num,E.out,F.out⟩,by simp [intOf];omega⟩
    ·have av:(0:Int)<(i:Int):=by omega
     have M:Hid (J=us++zf f (l.take i)++[44,32]):=by show _=_;rw [X.out,if_neg (by omega)]
     go_wp2_with (at_builtin;refine ze rfl _ _ rfl B _ (us++zf f (l.take i)) rfl D.out.own [44,32] rfl (by simp only [List.length_cons,List.length_nil];omega) (by omega) ?_;intro va Y y m;have A:Hid (zg B Y va J):=(by show zg _ _ _ _;rw [M.out];exact y);have u:Hid (Below B w Y):=Z.out.grown m (by omega) (fun q hq=>D.out.lt q hq);have ab:=m.size;have R:some wr.heap.size≠u1.ownBlock:=(fun e=>by obtain ⟨an,U⟩:=zj D.out.own e.symm;rw [aa.out] at U;simp at U);have T:=(m.block _ (by omega) R).trans aa.out;obtain ⟨ao,au,al,-⟩:=zt T;clear y m R)
     refine (yd 3 0 0 0 xs Y (by omega) (by omega) (by omega) (HH.out.tabs _ u.out)).mono ?_
     rintro e w4 ⟨rfl,af⟩;have aq:Hid (zg B w4 va J):=A.out.kept af (Nat.le_refl _);have ar:Hid (Below B w w4):=u.out.trans (af.mono (by have:=u.out.size;omega))
     have a3:=ar.out.size;clear af
     go_wp2_with (at_builtin;refine ze rfl _ _ rfl B _ J rfl aq.out.own (Xy 3 0 xs).1 rfl (by omega) (by omega) ?_;intro V G z ae)
     have F:Hid (Below B w G):=ar.out.grown ae (by omega) (fun q hq=>aq.out.lt q hq)
     have E:Hid (zg B G V (us++zf f (l.take (i+1)))):=by show zg _ _ _ _;rw [O.out];exact z
     exact ⟨⟨i+1,by omega,by go_num,E.out,F.out⟩,by simp [intOf];omega⟩
   have aY:(xk==3)=false:=by rw [beq_eq_false_iff_ne];exact h3
   by_cases h4:xk=4
   ·subst h4
    clear aD aO aY;obtain ⟨j,hj,aQ⟩:∃j:Nat,j<os.length∧(⟨4,xn,xs⟩:Vl)=⟨4,j,[]⟩:=VI (by unfold vy;rw [HX.out.1];rfl)
    simp only [Vl.mk.injEq,true_and] at aQ;obtain ⟨aZ,-⟩:=aQ;have a9:xn.toNat=j:=by omega
    have bm:0≤xn:=by omega
    have bi:xn<(os.length:Int):=by omega
    rw [show zX ⟨4,xn,xs⟩ (yD os d ((os[xn.toNat]?).getD ([],[])))=yD os d os[j] by simp [zX,a9,hj]] at O
    clear aZ;obtain ⟨g,oc,aV,-,hg,bk,ad⟩:=VD HH.out.hp.objs (by omega)
    have aC:oc≤maxLen:=by obtain ⟨b9,bf,am,-,aC⟩:=zT HH.out.hp.objs;rw [aV] at am;simp only [Value.slice.injEq] at am;rw [am.2.2];exact aC
    subst aV;have ak:g<B:=HH.out.hp.so g rfl;have aP:h<B:=HH.out.hp.sh;obtain ⟨-,-,aW,-,-⟩:=Zy HH.out.hp.blk;obtain ⟨a0,a1,a2⟩:=Vg 0 os j hj;have e0:=ad _ _ a0;have e1:=ad _ _ a1;have e2:=ad _ _ a2;rw [Nat.zero_add] at e1 e2;have bn:(j:Int)<os.length:=by omega
    have aw:∃(tg:List UInt8) (fr up:Int),yB os j hj=.agg #[.string (za tg),.int .i64 fr,.int .i64 up]∧w.cell? ⟨g,j*3,none⟩=some (.string (za tg))∧w.cell? ⟨g,j*3+1,none⟩=some (.int .i64 fr)∧w.cell? ⟨g,j*3+2,none⟩=some (.int .i64 up):=⟨_,_,_,rfl,e0,e1,e2⟩;obtain ⟨tg,fr,up,aw,e0,e1,e2⟩:=aw
    have cO:∀W va,Below B w W→zg B W va J→Calls Tryz.prog 56 #[.pointer (some ⟨h,0,none⟩),va,.int .i64 (d:Int),.agg #[.string (za tg),.int .i64 fr,.int .i64 up]] W fun e G=>∃V,e=.returned V∧Hid (zg B G V (us++zf f (l.take (i+1))))∧Hid (Below B w G):=fun W va hW ho=>by
     have c:=a5.out B W aB os h _ _ (HH.out.on hW) j hj J va ho.own (by omega)
     rw [aw] at c;refine c.mono ?_;rintro e G ⟨V,rfl,z,I⟩;exact ⟨V,rfl,by show zg _ _ _ _;rw [O.out];exact z,hW.trans I⟩
    clear a0 a1 a2 ad aw HX;rcases Nat.eq_zero_or_pos i with K | K
    ·subst K
     simp only [Nat.zero_mul,Nat.add_zero] at r0 r1 r2;have A:Hid (zg B w1 u1 J):=by show zg _ _ _ _;rw [X.out];simpa using D.out
     have u:Hid (Below B w w1):=Z.out;have ab:w1.heap.size=wr.heap.size+1:=ag;go_wp2_with fail
     have t2:=(zb u.out aP).trans aW;have t3:=(zb u.out ak).trans e0;have t4:=(zb u.out ak).trans e1;have t5:=(zb u.out ak).trans e2;have aK:∀W,Below w1.heap.size w1 W→Calls Tryz.prog 56 #[.pointer (some ⟨h,0,none⟩),u1,.int .i64 (d:Int),.agg #[.string (za tg),.int .i64 fr,.int .i64 up]] W fun e G=>∃V,e=.returned V∧Hid (zg B G V (us++zf f (l.take (0+1))))∧Hid (Below B w G):=fun W hW=>cO W u1 (u.out.trans (hW.mono (by have:=u.out.size;omega))) (A.out.kept hW (Nat.le_refl _))
     have aH:Below w1.heap.size w1 w1.drew:=(Below.refl _ _).drew;clear cO
     go_region_with (go_at_call 56;refine (aK _ aH).mono ?_;rintro e G ⟨V,rfl,E,F⟩)
     all_goals
      go_wp2
      exact ⟨⟨0+1,by omega,by go_num,E.out,F.out⟩,by simp [intOf];omega⟩
    ·have av:(0:Int)<(i:Int):=by omega
     have M:Hid (J=us++zf f (l.take i)++[44,32]):=by show _=_;rw [X.out,if_neg (by omega)]
     go_wp2_with (at_builtin;refine ze rfl _ _ rfl B _ (us++zf f (l.take i)) rfl D.out.own [44,32] rfl (by simp only [List.length_cons,List.length_nil];omega) (by omega) ?_;intro va Y y m;have A:Hid (zg B Y va J):=(by show zg _ _ _ _;rw [M.out];exact y);have u:Hid (Below B w Y):=Z.out.grown m (by omega) (fun q hq=>D.out.lt q hq);have ab:=m.size;have R:some wr.heap.size≠u1.ownBlock:=(fun e=>by obtain ⟨an,U⟩:=zj D.out.own e.symm;rw [aa.out] at U;simp at U);have T:=(m.block _ (by omega) R).trans aa.out;obtain ⟨ao,au,al,-⟩:=zt T;clear y m R)
     have t2:=(zb u.out aP).trans aW;have t3:=(zb u.out ak).trans e0;have t4:=(zb u.out ak).trans e1;have t5:=(zb u.out ak).trans e2;have aK:∀W,Below Y.heap.size Y W→Calls Tryz.prog 56 #[.pointer (some ⟨h,0,none⟩),va,.int .i64 (d:Int),.agg #[.string (za tg),.int .i64 fr,.int .i64 up]] W fun e G=>∃V,e=.returned V∧Hid (zg B G V (us++zf f (l.take (i+1))))∧Hid (Below B w G):=fun W hW=>cO W va (u.out.trans (hW.mono (by have:=u.out.size;omega))) (A.out.kept hW (Nat.le_refl _))
     have aH:Below Y.heap.size Y Y.drew:=(Below.refl _ _).drew;clear cO
     go_region_with (go_at_call 56;refine (aK _ aH).mono ?_;rintro e G ⟨V,rfl,E,F⟩)
     all_goals
      go_wp2
      exact ⟨⟨i+1,by omega,by go_num,E.out,F.out⟩,by simp [intOf];omega⟩
   have bs:(xk==4)=false:=by rw [beq_eq_false_iff_ne];exact h4
   rw [show zX ⟨xk,xn,xs⟩ (yD os d ((os[xn.toNat]?).getD ([],[])))=Yq by simp [zX,h1,h2,h3,h4]] at O
   rcases Nat.eq_zero_or_pos i with K | K
   ·subst K
    simp only [Nat.zero_mul,Nat.add_zero] at r0 r1 r2;have A:Hid (zg B w1 u1 J):=by show zg _ _ _ _;rw [X.out];simpa using D.out
    have u:Hid (Below B w w1):=Z.out;have ab:w1.heap.size=wr.heap.size+1:=ag
    go_wp2_with (at_builtin;refine ze rfl _ _ rfl B _ J rfl A.out.own Yq rfl (by simp [Yq];omega) (by have:=u.out.size;omega) ?_;intro V G z ae)
    have F:Hid (Below B w G):=u.out.grown ae (by have:=u.out.size;omega) (fun q hq=>A.out.lt q hq)
    have E:Hid (zg B G V (us++zf f (l.take (0+1)))):=by show zg _ _ _ _;rw [O.out];exact z
    exact ⟨⟨0+1,by omega,by go_num,E.out,F.out⟩,by simp [intOf];omega⟩
   ·have av:(0:Int)<(i:Int):=by omega
    have M:Hid (J=us++zf f (l.take i)++[44,32]):=by show _=_;rw [X.out,if_neg (by omega)]
    go_wp2_with (first | (at_builtin;refine ze rfl _ _ rfl B _ (us++zf f (l.take i)) rfl D.out.own [44,32] rfl (by simp only [List.length_cons,List.length_nil];omega) (by omega) ?_;intro va Y y m;have A:Hid (zg B Y va J):=(by show zg _ _ _ _;rw [M.out];exact y);have u:Hid (Below B w Y):=Z.out.grown m (by omega) (fun q hq=>D.out.lt q hq);have ab:=m.size;have R:some wr.heap.size≠u1.ownBlock:=(fun e=>by obtain ⟨an,U⟩:=zj D.out.own e.symm;rw [aa.out] at U;simp at U);have T:=(m.block _ (by omega) R).trans aa.out;obtain ⟨ao,au,al,-⟩:=zt T;clear y m R) | (at_builtin;refine ze rfl _ _ rfl B _ J rfl A.out.own Yq rfl (by simp [Yq];omega) (by have:=u.out.size;omega) ?_;intro V G z ae))
    have F:Hid (Below B w G):=u.out.grown ae (by have:=u.out.size;omega) (fun q hq=>A.out.lt q hq)
    have E:Hid (zg B G V (us++zf f (l.take (i+1)))):=by show zg _ _ _ _;rw [O.out];exact z
    exact ⟨⟨i+1,by omega,by go_num,E.out,F.out⟩,by simp [intOf];omega⟩
  ·obtain rfl:i=l.length:=by omega
   have a7:¬ (l.length:Int)<l.length:=by omega
   have a4:Hid (zg B wr u1 (us++zf f l)):=by
    have:=HO.out
    rwa [List.take_length] at this
   go_wp2
   go_ret
   exact ⟨u1,rfl,a4.out,HB.out⟩
end Go.Proofs.YtbjndgachcdbcaaGreatDoor
