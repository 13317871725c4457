import Derived.Test.YtbjndgachcdbcaaGreatDoorHWrite
import Derived.Deep.RegionWith
namespace Go.Proofs.YtbjndgachcdbcaaGreatDoor
open Go.RowKit Go.Shelf
set_option maxHeartbeats 16000000
set_option maxRecDepth 100000
theorem zf.lt {B:Nat} {w:World} {v:Value} {bs:List UInt8} (h:zf B w v bs):∀k,v.ownBlock=some k→B≤k:=fun k hk=>(World.ownsRow.lt h k hk).1
theorem zf.own {B:Nat} {w:World} {v:Value} {bs:List UInt8} (h:zf B w v bs):w.ownsRow B 5 1 v bs.length (Lib.byteCells bs):=h
theorem zf.alloc {B:Nat} {w:World} {v:Value} {bs:List UInt8} (h:zf B w v bs) (o:Obj):zf B (w.alloc o) v bs:=World.ownsRow.alloc h o
theorem zf.kept {B n:Nat} {w w':World} {v:Value} {bs:List UInt8} (h:zf B w v bs) (hb:Below n w w') (hn:w.heap.size≤n):zf B w' v bs:=zm h fun k _ hk=>hb.block k (Nat.lt_of_lt_of_le hk hn)
theorem Ya (d:Nat) (hO:XD d):yV d:=by
 intro B w ay os h vo vc H l pv I bv aX hl bf aC bn;have hB:=H.le;have a3:Hid (zf B w bv I):=aC;have HH:Hid (xy B w ay os h vo vc):=H;have HL:Hid (∀v∈l,zb v os.length=true∧zv v):=hl;have aZ:Hid (XD d):=hO;have aI:∀o∈os,yZ o:=fun o ho=>(H.hp.ok o ho).2
 have bs:Hid (∀o∈os,yZ o):=aI;obtain ⟨base,bd,rfl,bp,bq,aQ⟩:=aX.at;have aP:Hid (∀i (hi:i<l.length),∃b o,base=some ⟨b,o,none⟩∧b<B∧b<w.heap.size∧w.cell? ⟨b,o+i*3,none⟩=some (.int .i64 (l[i]).k)∧w.cell? ⟨b,o+i*3+1,none⟩=some (.int .i64 (l[i]).n)∧w.cell? ⟨b,o+i*3+2,none⟩=some (.string (za (l[i]).s))):=aQ;have br:=Y4 d;obtain ⟨f,hf⟩:∃f,f=zI os d:=⟨_,rfl⟩;rw [←hf];have HF:Hid (f=zI os d):=hf
 have aA:∀i,i≤8→(I++zg f (l.take i)).length≤I.length+8*(z7 d+2):=fun i hi=>by
  have h1:=yw (f:=f) (N:=z7 d) (l.take i) fun v hv=>by rw [hf];exact ym aI d v (hl v (List.mem_of_mem_take hv)).2
  have h2:(l.take i).length≤8:=by rw [List.length_take];omega
  have h3:(l.take i).length*(z7 d+2)≤8*(z7 d+2):=Nat.mul_le_mul_right _ h2;rw [List.length_append];omega
 have aT:Hid (∀i,i≤8→(I++zg f (l.take i)).length≤I.length+8*(z7 d+2)):=aA;clear aX aQ aC H hl hO hf aA aI
 go_enter Tryz.func48,Tryz.ntmps48
 go_wp2
 go_loopw [1,15] (fun vb vi wr=>∃i:Nat,i≤l.length∧vi=.int .i64 i∧zf B wr vb (I++zg f (l.take i))∧Below B w wr) (fun _ vi _=>l.length-(intOf vi).toNat)
 case atStart=>exact ⟨0,Nat.zero_le _,rfl,by simpa [zg] using a3.out,Below.refl _ _⟩
 case round =>
  obtain ⟨i,hi,rfl,aM,aG⟩:=hrel;have HO:Hid (zf B wr u1 (I++zg f (l.take i))):=aM;have HB:Hid (Below B w wr):=aG;have bc:=aG.size;clear aM aG
  by_cases hlt:i<l.length
  ·obtain ⟨b,o,rfl,aK,bj,q0,q1,q2⟩:=aP.out i hlt
   have a7:(i:Int)<l.length:=by omega
   have r0:=(zh HB.out aK).trans q0;have r1:=(zh HB.out aK).trans q1;have r2:=(zh HB.out aK).trans q2;have aE:=(HL.out l[i] (List.getElem_mem hlt)).1;have ak:=(HL.out l[i] (List.getElem_mem hlt)).2;have an:=xz I f l i hlt;have aN:f l[i]=zT l[i] (yb os d ((os[(l[i]).n.toNat]?).getD ([],[]))):=by rw [HF.out];exact YN os d l[i]
   rw [aN] at an;have bg:=aT.out i (by omega)
   have a5:(yx I f l i).length≤I.length+8*(z7 d+2)+2:=by
    unfold yx
    rw [List.length_append]
    have:(if i=0 then ([]:List UInt8) else [44,32]).length≤2:=by split <;> simp
    omega
   have Y:Hid (yx I f l i=I++zg f (l.take i)++if i=0 then [] else [44,32]):=rfl
   obtain ⟨x,hx⟩:∃x,x=l[i]:=⟨_,rfl⟩;rw [←hx] at r0 r1 r2 aE ak an;obtain ⟨K,aR⟩:∃K,K=yx I f l i:=⟨_,rfl⟩;rw [←aR] at an a5 Y;obtain ⟨xk,xn,xs⟩:=x;have R:Hid (I++zg f (l.take (i+1))=K++zT ⟨xk,xn,xs⟩ (yb os d ((os[xn.toNat]?).getD ([],[])))):=an;have HX:Hid (zb ⟨xk,xn,xs⟩ os.length=true∧zv ⟨xk,xn,xs⟩):=⟨aE,ak⟩;have aD:-9223372036854775808≤xn:=ak.1.1;have az:xn≤9223372036854775807:=ak.1.2;have aS:xs.length≤1048576:=ak.2;simp only at r0 r1 r2;obtain ⟨w1,aj⟩:∃w1,w1=wr.alloc (.cells #[.int .i64 xk,.int .i64 xn,.string (za xs)] 56):=⟨_,rfl⟩;have ai:w1.heap.size=wr.heap.size+1:=by rw [aj];simp
   have aa:Hid (Below B w w1):=by show Below _ _ _;rw [aj];exact HB.out.alloc (by omega) _
   have aL:w1.heap[wr.heap.size]?=some (.cells #[.int .i64 xk,.int .i64 xn,.string (za xs)] 56 (0,0)):=by rw [aj];exact World.alloc_heap_new _ _
   have D:Hid (zf B w1 u1 (I++zg f (l.take i))):=by show zf _ _ _ _;rw [aj];exact HO.out.alloc _
   obtain ⟨p0,p1,p2,-⟩:=zu aL;have ab:Hid (w1.heap[wr.heap.size]?=some (.cells #[.int .i64 xk,.int .i64 xn,.string (za xs)] 56 (0,0))):=aL;have bb:=aj.symm;clear q0 q1 q2 aE ak an aN hx aR aj aL aP HL
   by_cases h1:xk=1
   ·subst h1
    rw [show zT ⟨1,xn,xs⟩ (yb os d ((os[xn.toNat]?).getD ([],[])))=Lib.itoa xn from rfl] at R
    rcases Nat.eq_zero_or_pos i with O | O
    ·subst O
     simp only [Nat.zero_mul,Nat.add_zero] at r0 r1 r2;have A:Hid (zf B w1 u1 K):=by show zf _ _ _ _;rw [Y.out];simpa using D.out
     have u:Hid (Below B w w1):=aa.out;have ad:w1.heap.size=wr.heap.size+1:=ai;go_wp2_with fail
     refine (Tryz.strconv_AppendInt_10 B K.length xn aD az u1 (Lib.byteCells K) w1 A.out.own (by have:=u.out.size;omega) (by omega) (fun W hW=>(HH.out.tabs W (u.out.trans hW)).2)).mono ?_
     rintro e G ⟨X,rfl,z,J,-⟩;have F:Hid (zf B G X (I++zg f (l.take (0+1)))):=by show zf _ _ _ _;rw [R.out];unfold zf;rw [List.length_append,Lib.byteCells_append];exact z
     have E:Hid (Below B w G):=u.out.trans J;clear z J;go_wp2
     exact ⟨⟨0+1,by omega,by go_num,F.out,E.out⟩,by simp [intOf];omega⟩
    ·have au:(0:Int)<(i:Int):=by omega
     have M:Hid (K=I++zg f (l.take i)++[44,32]):=by show _=_;rw [Y.out,if_neg (by omega)]
     go_wp2_with (at_builtin;refine ze rfl _ _ rfl B _ (I++zg f (l.take i)) rfl D.out.own [44,32] rfl (by simp only [List.length_cons,List.length_nil];omega) (by omega) ?_;intro va Z y m;have A:Hid (zf B Z va K):=(by show zf _ _ _ _;rw [M.out];exact y);have u:Hid (Below B w Z):=aa.out.grown m (by omega) (fun q hq=>D.out.lt q hq);have ad:=m.size;have T:some wr.heap.size≠u1.ownBlock:=(fun e=>by obtain ⟨ap,V⟩:=zr D.out.own e.symm;rw [ab.out] at V;simp at V);have U:=(m.block _ (by omega) T).trans ab.out;obtain ⟨am,aq,aw,-⟩:=zu U;clear y m T)
     refine (Tryz.strconv_AppendInt_10 B K.length xn aD az va (Lib.byteCells K) Z A.out.own (by have:=u.out.size;omega) (by omega) (fun W hW=>(HH.out.tabs W (u.out.trans hW)).2)).mono ?_
     rintro e G ⟨X,rfl,z,J,-⟩;have F:Hid (zf B G X (I++zg f (l.take (i+1)))):=by show zf _ _ _ _;rw [R.out];unfold zf;rw [List.length_append,Lib.byteCells_append];exact z
     have E:Hid (Below B w G):=u.out.trans J;clear z J;go_wp2
     exact ⟨⟨i+1,by omega,by go_num,F.out,E.out⟩,by simp [intOf];omega⟩
   have aH:(xk==1)=false:=by rw [beq_eq_false_iff_ne];exact h1
   by_cases h2:xk=2
   ·subst h2
    clear aH
    by_cases hn1:xn=1
    ·subst hn1
     rw [show zT ⟨2,1,xs⟩ (yb os d ((os[(1:Int).toNat]?).getD ([],[])))=YO true from rfl] at R
     rcases Nat.eq_zero_or_pos i with O | O
     ·subst O
      simp only [Nat.zero_mul,Nat.add_zero] at r0 r1 r2;have A:Hid (zf B w1 u1 K):=by show zf _ _ _ _;rw [Y.out];simpa using D.out
      have u:Hid (Below B w w1):=aa.out;have ad:w1.heap.size=wr.heap.size+1:=ai;go_wp2_with fail
      refine (zN B u1 K true w1 A.out.own (by have:=u.out.size;omega) (by omega)).mono ?_
      rintro e G ⟨X,rfl,z,J⟩;have F:Hid (zf B G X (I++zg f (l.take (0+1)))):=by show zf _ _ _ _;rw [R.out];exact z
      have E:Hid (Below B w G):=u.out.trans J;clear z J;go_wp2
      exact ⟨⟨0+1,by omega,by go_num,F.out,E.out⟩,by simp [intOf];omega⟩
     ·have au:(0:Int)<(i:Int):=by omega
      have M:Hid (K=I++zg f (l.take i)++[44,32]):=by show _=_;rw [Y.out,if_neg (by omega)]
      go_wp2_with (at_builtin;refine ze rfl _ _ rfl B _ (I++zg f (l.take i)) rfl D.out.own [44,32] rfl (by simp only [List.length_cons,List.length_nil];omega) (by omega) ?_;intro va Z y m;have A:Hid (zf B Z va K):=(by show zf _ _ _ _;rw [M.out];exact y);have u:Hid (Below B w Z):=aa.out.grown m (by omega) (fun q hq=>D.out.lt q hq);have ad:=m.size;have T:some wr.heap.size≠u1.ownBlock:=(fun e=>by obtain ⟨ap,V⟩:=zr D.out.own e.symm;rw [ab.out] at V;simp at V);have U:=(m.block _ (by omega) T).trans ab.out;obtain ⟨am,aq,aw,-⟩:=zu U;clear y m T)
      refine (zN B va K true Z A.out.own (by have:=u.out.size;omega) (by omega)).mono ?_
      rintro e G ⟨X,rfl,z,J⟩;have F:Hid (zf B G X (I++zg f (l.take (i+1)))):=by show zf _ _ _ _;rw [R.out];exact z
      have E:Hid (Below B w G):=u.out.trans J;clear z J;go_wp2
      exact ⟨⟨i+1,by omega,by go_num,F.out,E.out⟩,by simp [intOf];omega⟩
    have bh:(xn==1)=false:=by rw [beq_eq_false_iff_ne];exact hn1
    rw [show zT ⟨2,xn,xs⟩ (yb os d ((os[xn.toNat]?).getD ([],[])))=YO false by simp [zT,hn1,YO]] at R
    rcases Nat.eq_zero_or_pos i with O | O
    ·subst O
     simp only [Nat.zero_mul,Nat.add_zero] at r0 r1 r2;have A:Hid (zf B w1 u1 K):=by show zf _ _ _ _;rw [Y.out];simpa using D.out
     have u:Hid (Below B w w1):=aa.out;have ad:w1.heap.size=wr.heap.size+1:=ai;go_wp2_with fail
     refine (zN B u1 K false w1 A.out.own (by have:=u.out.size;omega) (by omega)).mono ?_
     rintro e G ⟨X,rfl,z,J⟩;have F:Hid (zf B G X (I++zg f (l.take (0+1)))):=by show zf _ _ _ _;rw [R.out];exact z
     have E:Hid (Below B w G):=u.out.trans J;clear z J;go_wp2
     exact ⟨⟨0+1,by omega,by go_num,F.out,E.out⟩,by simp [intOf];omega⟩
    ·have au:(0:Int)<(i:Int):=by omega
     have M:Hid (K=I++zg f (l.take i)++[44,32]):=by show _=_;rw [Y.out,if_neg (by omega)]
     go_wp2_with (at_builtin;refine ze rfl _ _ rfl B _ (I++zg f (l.take i)) rfl D.out.own [44,32] rfl (by simp only [List.length_cons,List.length_nil];omega) (by omega) ?_;intro va Z y m;have A:Hid (zf B Z va K):=(by show zf _ _ _ _;rw [M.out];exact y);have u:Hid (Below B w Z):=aa.out.grown m (by omega) (fun q hq=>D.out.lt q hq);have ad:=m.size;have T:some wr.heap.size≠u1.ownBlock:=(fun e=>by obtain ⟨ap,V⟩:=zr D.out.own e.symm;rw [ab.out] at V;simp at V);have U:=(m.block _ (by omega) T).trans ab.out;obtain ⟨am,aq,aw,-⟩:=zu U;clear y m T)
     refine (zN B va K false Z A.out.own (by have:=u.out.size;omega) (by omega)).mono ?_
     rintro e G ⟨X,rfl,z,J⟩;have F:Hid (zf B G X (I++zg f (l.take (i+1)))):=by show zf _ _ _ _;rw [R.out];exact z
     have E:Hid (Below B w G):=u.out.trans J;clear z J;go_wp2
     exact ⟨⟨i+1,by omega,by go_num,F.out,E.out⟩,by simp [intOf];omega⟩
   have aY:(xk==2)=false:=by rw [beq_eq_false_iff_ne];exact h2
   by_cases h3:xk=3
   ·subst h3
    clear aH aY;rw [show zT ⟨3,xn,xs⟩ (yb os d ((os[xn.toNat]?).getD ([],[])))=(xt 3 0 xs).1 from rfl] at R
    have be:(xt 3 0 xs).1.length≤3000000:=by
     have:=yv (v:=⟨3,0,xs⟩) (r:=[]) (N:=3000000) ⟨⟨by simp,by simp⟩,aS⟩ (by simp) (Nat.le_refl _)
     simpa [zT] using this
    rcases Nat.eq_zero_or_pos i with O | O
    ·subst O
     simp only [Nat.zero_mul,Nat.add_zero] at r0 r1 r2;have A:Hid (zf B w1 u1 K):=by show zf _ _ _ _;rw [Y.out];simpa using D.out
     have u:Hid (Below B w w1):=aa.out;have ad:w1.heap.size=wr.heap.size+1:=ai;go_wp2_with fail
     refine (ZT 3 0 0 0 xs w1 (by omega) (by omega) (by omega) (HH.out.tabs _ u.out)).mono ?_
     rintro e w4 ⟨rfl,ag⟩;have ar:Hid (zf B w4 u1 K):=A.out.kept ag (Nat.le_refl _);have av:Hid (Below B w w4):=u.out.trans (ag.mono (by have:=u.out.size;omega))
     have a4:=av.out.size;clear ag
     go_wp2_with (at_builtin;refine ze rfl _ _ rfl B _ K rfl ar.out.own (xt 3 0 xs).1 rfl (by omega) (by omega) ?_;intro X G z af)
     have E:Hid (Below B w G):=av.out.grown af (by omega) (fun q hq=>ar.out.lt q hq)
     have F:Hid (zf B G X (I++zg f (l.take (0+1)))):=by show zf _ _ _ _;rw [R.out];exact z
     exact ⟨⟨0+1,by omega,by go_num,F.out,E.out⟩,by simp [intOf];omega⟩
    ·have au:(0:Int)<(i:Int):=by omega
     have M:Hid (K=I++zg f (l.take i)++[44,32]):=by show _=_;rw [Y.out,if_neg (by omega)]
     go_wp2_with (at_builtin;refine ze rfl _ _ rfl B _ (I++zg f (l.take i)) rfl D.out.own [44,32] rfl (by simp only [List.length_cons,List.length_nil];omega) (by omega) ?_;intro va Z y m;have A:Hid (zf B Z va K):=(by show zf _ _ _ _;rw [M.out];exact y);have u:Hid (Below B w Z):=aa.out.grown m (by omega) (fun q hq=>D.out.lt q hq);have ad:=m.size;have T:some wr.heap.size≠u1.ownBlock:=(fun e=>by obtain ⟨ap,V⟩:=zr D.out.own e.symm;rw [ab.out] at V;simp at V);have U:=(m.block _ (by omega) T).trans ab.out;obtain ⟨am,aq,aw,-⟩:=zu U;clear y m T)
     refine (ZT 3 0 0 0 xs Z (by omega) (by omega) (by omega) (HH.out.tabs _ u.out)).mono ?_
     rintro e w4 ⟨rfl,ag⟩;have ar:Hid (zf B w4 va K):=A.out.kept ag (Nat.le_refl _);have av:Hid (Below B w w4):=u.out.trans (ag.mono (by have:=u.out.size;omega))
     have a4:=av.out.size;clear ag
     go_wp2_with (at_builtin;refine ze rfl _ _ rfl B _ K rfl ar.out.own (xt 3 0 xs).1 rfl (by omega) (by omega) ?_;intro X G z af)
     have E:Hid (Below B w G):=av.out.grown af (by omega) (fun q hq=>ar.out.lt q hq)
     have F:Hid (zf B G X (I++zg f (l.take (i+1)))):=by show zf _ _ _ _;rw [R.out];exact z
     exact ⟨⟨i+1,by omega,by go_num,F.out,E.out⟩,by simp [intOf];omega⟩
   have a8:(xk==3)=false:=by rw [beq_eq_false_iff_ne];exact h3
   by_cases h4:xk=4
   ·subst h4
    clear aH aY a8;obtain ⟨j,hj,aO⟩:∃j:Nat,j<os.length∧(⟨4,xn,xs⟩:Vl)=⟨4,j,[]⟩:=XS (by unfold xZ;rw [HX.out.1];rfl)
    simp only [Vl.mk.injEq,true_and] at aO;obtain ⟨ba,-⟩:=aO;have a9:xn.toNat=j:=by omega
    have bo:0≤xn:=by omega
    have bm:xn<(os.length:Int):=by omega
    rw [show zT ⟨4,xn,xs⟩ (yb os d ((os[xn.toNat]?).getD ([],[])))=yb os d os[j] by simp [zT,a9,hj]] at R
    clear ba;obtain ⟨g,oc,aU,-,hg,bt,ae⟩:=XO HH.out.hp.objs (by omega)
    have aB:oc≤maxLen:=by obtain ⟨b9,bi,ao,-,aB⟩:=yi HH.out.hp.objs;rw [aU] at ao;simp only [Value.slice.injEq] at ao;rw [ao.2.2];exact aB
    subst aU;have al:g<B:=HH.out.hp.so g rfl;have aV:h<B:=HH.out.hp.sh;obtain ⟨-,-,aW,-,-⟩:=y3 HH.out.hp.blk;obtain ⟨a0,a1,a2⟩:=XB 0 os j hj;have e0:=ae _ _ a0;have e1:=ae _ _ a1;have e2:=ae _ _ a2;rw [Nat.zero_add] at e1 e2;have bk:(j:Int)<os.length:=by omega
    have ax:∃(tg:List UInt8) (fr up:Int),Z6 os j hj=.agg #[.string (za tg),.int .i64 fr,.int .i64 up]∧w.cell? ⟨g,j*3,none⟩=some (.string (za tg))∧w.cell? ⟨g,j*3+1,none⟩=some (.int .i64 fr)∧w.cell? ⟨g,j*3+2,none⟩=some (.int .i64 up):=⟨_,_,_,rfl,e0,e1,e2⟩;obtain ⟨tg,fr,up,ax,e0,e1,e2⟩:=ax
    have cO:∀W va,Below B w W→zf B W va K→Calls Tryz.prog 56 #[.pointer (some ⟨h,0,none⟩),va,.int .i64 (d:Int),.agg #[.string (za tg),.int .i64 fr,.int .i64 up]] W fun e G=>∃X,e=.returned X∧Hid (zf B G X (I++zg f (l.take (i+1))))∧Hid (Below B w G):=fun W va hW ho=>by
     have c:=aZ.out B W ay os h _ _ (HH.out.on hW) j hj K va ho.own (by omega)
     rw [ax] at c;refine c.mono ?_;rintro e G ⟨X,rfl,z,J⟩;exact ⟨X,rfl,by show zf _ _ _ _;rw [R.out];exact z,hW.trans J⟩
    clear a0 a1 a2 ae ax HX;rcases Nat.eq_zero_or_pos i with O | O
    ·subst O
     simp only [Nat.zero_mul,Nat.add_zero] at r0 r1 r2;have A:Hid (zf B w1 u1 K):=by show zf _ _ _ _;rw [Y.out];simpa using D.out
     have u:Hid (Below B w w1):=aa.out;have ad:w1.heap.size=wr.heap.size+1:=ai;go_wp2_with fail
     have t2:=(zh u.out aV).trans aW;have t3:=(zh u.out al).trans e0;have t4:=(zh u.out al).trans e1;have t5:=(zh u.out al).trans e2;have aJ:∀W,Below w1.heap.size w1 W→Calls Tryz.prog 56 #[.pointer (some ⟨h,0,none⟩),u1,.int .i64 (d:Int),.agg #[.string (za tg),.int .i64 fr,.int .i64 up]] W fun e G=>∃X,e=.returned X∧Hid (zf B G X (I++zg f (l.take (0+1))))∧Hid (Below B w G):=fun W hW=>cO W u1 (u.out.trans (hW.mono (by have:=u.out.size;omega))) (A.out.kept hW (Nat.le_refl _))
     have aF:Below w1.heap.size w1 w1.drew:=(Below.refl _ _).drew;clear cO
     go_region_with (go_at_call 56;refine (aJ _ aF).mono ?_;rintro e G ⟨X,rfl,F,E⟩)
     all_goals
      go_wp2
      exact ⟨⟨0+1,by omega,by go_num,F.out,E.out⟩,by simp [intOf];omega⟩
    ·have au:(0:Int)<(i:Int):=by omega
     have M:Hid (K=I++zg f (l.take i)++[44,32]):=by show _=_;rw [Y.out,if_neg (by omega)]
     go_wp2_with (at_builtin;refine ze rfl _ _ rfl B _ (I++zg f (l.take i)) rfl D.out.own [44,32] rfl (by simp only [List.length_cons,List.length_nil];omega) (by omega) ?_;intro va Z y m;have A:Hid (zf B Z va K):=(by show zf _ _ _ _;rw [M.out];exact y);have u:Hid (Below B w Z):=aa.out.grown m (by omega) (fun q hq=>D.out.lt q hq);have ad:=m.size;have T:some wr.heap.size≠u1.ownBlock:=(fun e=>by obtain ⟨ap,V⟩:=zr D.out.own e.symm;rw [ab.out] at V;simp at V);have U:=(m.block _ (by omega) T).trans ab.out;obtain ⟨am,aq,aw,-⟩:=zu U;clear y m T)
     have t2:=(zh u.out aV).trans aW;have t3:=(zh u.out al).trans e0;have t4:=(zh u.out al).trans e1;have t5:=(zh u.out al).trans e2;have aJ:∀W,Below Z.heap.size Z W→Calls Tryz.prog 56 #[.pointer (some ⟨h,0,none⟩),va,.int .i64 (d:Int),.agg #[.string (za tg),.int .i64 fr,.int .i64 up]] W fun e G=>∃X,e=.returned X∧Hid (zf B G X (I++zg f (l.take (i+1))))∧Hid (Below B w G):=fun W hW=>cO W va (u.out.trans (hW.mono (by have:=u.out.size;omega))) (A.out.kept hW (Nat.le_refl _))
     have aF:Below Z.heap.size Z Z.drew:=(Below.refl _ _).drew;clear cO
     go_region_with (go_at_call 56;refine (aJ _ aF).mono ?_;rintro e G ⟨X,rfl,F,E⟩)
     all_goals
      go_wp2
      exact ⟨⟨i+1,by omega,by go_num,F.out,E.out⟩,by simp [intOf];omega⟩
   have bl:(xk==4)=false:=by rw [beq_eq_false_iff_ne];exact h4
   rw [show zT ⟨xk,xn,xs⟩ (yb os d ((os[xn.toNat]?).getD ([],[])))=yJ by simp [zT,h1,h2,h3,h4]] at R
   rcases Nat.eq_zero_or_pos i with O | O
   ·subst O
    simp only [Nat.zero_mul,Nat.add_zero] at r0 r1 r2;have A:Hid (zf B w1 u1 K):=by show zf _ _ _ _;rw [Y.out];simpa using D.out
    have u:Hid (Below B w w1):=aa.out;have ad:w1.heap.size=wr.heap.size+1:=ai
    go_wp2_with (at_builtin;refine ze rfl _ _ rfl B _ K rfl A.out.own yJ rfl (by simp [yJ];omega) (by have:=u.out.size;omega) ?_;intro X G z af)
    have E:Hid (Below B w G):=u.out.grown af (by have:=u.out.size;omega) (fun q hq=>A.out.lt q hq)
    have F:Hid (zf B G X (I++zg f (l.take (0+1)))):=by show zf _ _ _ _;rw [R.out];exact z
    exact ⟨⟨0+1,by omega,by go_num,F.out,E.out⟩,by simp [intOf];omega⟩
   ·have au:(0:Int)<(i:Int):=by omega
    have M:Hid (K=I++zg f (l.take i)++[44,32]):=by show _=_;rw [Y.out,if_neg (by omega)]
    go_wp2_with (first | (at_builtin;refine ze rfl _ _ rfl B _ (I++zg f (l.take i)) rfl D.out.own [44,32] rfl (by simp only [List.length_cons,List.length_nil];omega) (by omega) ?_;intro va Z y m;have A:Hid (zf B Z va K):=(by show zf _ _ _ _;rw [M.out];exact y);have u:Hid (Below B w Z):=aa.out.grown m (by omega) (fun q hq=>D.out.lt q hq);have ad:=m.size;have T:some wr.heap.size≠u1.ownBlock:=(fun e=>by obtain ⟨ap,V⟩:=zr D.out.own e.symm;rw [ab.out] at V;simp at V);have U:=(m.block _ (by omega) T).trans ab.out;obtain ⟨am,aq,aw,-⟩:=zu U;clear y m T) | (at_builtin;refine ze rfl _ _ rfl B _ K rfl A.out.own yJ rfl (by simp [yJ];omega) (by have:=u.out.size;omega) ?_;intro X G z af))
    have E:Hid (Below B w G):=u.out.grown af (by have:=u.out.size;omega) (fun q hq=>A.out.lt q hq)
    have F:Hid (zf B G X (I++zg f (l.take (i+1)))):=by show zf _ _ _ _;rw [R.out];exact z
    exact ⟨⟨i+1,by omega,by go_num,F.out,E.out⟩,by simp [intOf];omega⟩
  ·obtain rfl:i=l.length:=by omega
   have a7:¬ (l.length:Int)<l.length:=by omega
   have a6:Hid (zf B wr u1 (I++zg f l)):=by
    have:=HO.out
    rwa [List.take_length] at this
   go_wp2
   go_ret
   exact ⟨u1,rfl,a6.out,HB.out⟩
end Go.Proofs.YtbjndgachcdbcaaGreatDoor
