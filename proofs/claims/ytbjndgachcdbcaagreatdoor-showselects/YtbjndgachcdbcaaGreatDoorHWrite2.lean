import Derived.Test.YtbjndgachcdbcaaGreatDoorHWrite
import Derived.Deep.RegionWith
namespace Go.Proofs.YtbjndgachcdbcaaGreatDoor
open Go.RowKit Go.Shelf
set_option maxHeartbeats 16000000
set_option maxRecDepth 100000
theorem zf.lt {B:Nat} {w:World} {v:Value} {bs:List UInt8} (h:zf B w v bs):∀k,v.ownBlock=some k→B≤k:=fun k hk=>(World.ownsRow.lt h k hk).1
theorem zf.own {B:Nat} {w:World} {v:Value} {bs:List UInt8} (h:zf B w v bs):w.ownsRow B 5 1 v bs.length (Lib.byteCells bs):=h
theorem zf.alloc {B:Nat} {w:World} {v:Value} {bs:List UInt8} (h:zf B w v bs) (o:Obj):zf B (w.alloc o) v bs:=World.ownsRow.alloc h o
theorem zf.kept {B n:Nat} {w w':World} {v:Value} {bs:List UInt8} (h:zf B w v bs) (hb:Below n w w') (hn:w.heap.size≤n):zf B w' v bs:=zh h fun k _ hk=>hb.block k (Nat.lt_of_lt_of_le hk hn)
theorem YL (d:Nat) (hO:vF d):Yz d:=by
 intro B w aC os h vo vc H l pv G bv aU hl bt aD bo;have hB:=H.le;have a9:Hid (zf B w bv G):=aD;have HH:Hid (Xj B w aC os h vo vc):=H;have HL:Hid (∀v∈l,rightV v os.length=true∧zq v):=hl;have a6:Hid (vF d):=hO;have aJ:∀o∈os,Zj o:=fun o ho=>(H.hp.ok o ho).2
 have bk:Hid (∀o∈os,Zj o):=aJ;obtain ⟨base,bj,rfl,bh,bn,aX⟩:=aU.at;have aW:Hid (∀i (hi:i<l.length),∃b o,base=some ⟨b,o,none⟩∧b<B∧b<w.heap.size∧w.cell? ⟨b,o+i*3,none⟩=some (.int .i64 (l[i]).k)∧w.cell? ⟨b,o+i*3+1,none⟩=some (.int .i64 (l[i]).n)∧w.cell? ⟨b,o+i*3+2,none⟩=some (.string (za (l[i]).s))):=aX;have bs:=xF d;obtain ⟨f,hf⟩:∃f,f=zJ os d:=⟨_,rfl⟩;rw [←hf];have HF:Hid (f=zJ os d):=hf
 have aA:∀i,i≤8→(G++zg f (l.take i)).length≤G.length+8*(Zf d+2):=fun i hi=>by
  have h1:=yZ (f:=f) (N:=Zf d) (l.take i) fun v hv=>by rw [hf];exact yL aJ d v (hl v (List.mem_of_mem_take hv)).2
  have h2:(l.take i).length≤8:=by rw [List.length_take];omega
  have h3:(l.take i).length*(Zf d+2)≤8*(Zf d+2):=Nat.mul_le_mul_right _ h2;rw [List.length_append];omega
 have aY:Hid (∀i,i≤8→(G++zg f (l.take i)).length≤G.length+8*(Zf d+2)):=aA;clear aU aX aD H hl hO hf aA aJ
 go_enter Tryz.func48,Tryz.ntmps48
 go_wp2
 go_loopw [1,15] (fun vb vi wr=>∃i:Nat,i≤l.length∧vi=.int .i64 i∧zf B wr vb (G++zg f (l.take i))∧Below B w wr) (fun _ vi _=>l.length-(intOf vi).toNat)
 case atStart=>exact ⟨0,Nat.zero_le _,rfl,by simpa [zg] using a9.out,Below.refl _ _⟩
 case round =>
  obtain ⟨i,hi,rfl,aV,aG⟩:=hrel;have HO:Hid (zf B wr u1 (G++zg f (l.take i))):=aV;have HB:Hid (Below B w wr):=aG;have bc:=aG.size;clear aV aG
  by_cases hlt:i<l.length
  ·obtain ⟨b,o,rfl,aF,bd,q0,q1,q2⟩:=aW.out i hlt
   have a5:(i:Int)<l.length:=by omega
   have r0:=(zb HB.out aF).trans q0;have r1:=(zb HB.out aF).trans q1;have r2:=(zb HB.out aF).trans q2;have aL:=(HL.out l[i] (List.getElem_mem hlt)).1;have aj:=(HL.out l[i] (List.getElem_mem hlt)).2;have au:=Xk G f l i hlt;have aR:f l[i]=zX l[i] (yw os d ((os[(l[i]).n.toNat]?).getD ([],[]))):=by rw [HF.out];exact xf os d l[i]
   rw [aR] at au;have bm:=aY.out i (by omega)
   have a8:(y5 G f l i).length≤G.length+8*(Zf d+2)+2:=by
    unfold y5
    rw [List.length_append]
    have:(if i=0 then ([]:List UInt8) else [44,32]).length≤2:=by split <;> simp
    omega
   have Y:Hid (y5 G f l i=G++zg f (l.take i)++if i=0 then [] else [44,32]):=rfl
   obtain ⟨x,hx⟩:∃x,x=l[i]:=⟨_,rfl⟩;rw [←hx] at r0 r1 r2 aL aj au;obtain ⟨K,aM⟩:∃K,K=y5 G f l i:=⟨_,rfl⟩;rw [←aM] at au a8 Y;obtain ⟨xk,xn,xs⟩:=x;have V:Hid (G++zg f (l.take (i+1))=K++zX ⟨xk,xn,xs⟩ (yw os d ((os[xn.toNat]?).getD ([],[])))):=au;have HX:Hid (rightV ⟨xk,xn,xs⟩ os.length=true∧zq ⟨xk,xn,xs⟩):=⟨aL,aj⟩;have az:-9223372036854775808≤xn:=aj.1.1;have aB:xn≤9223372036854775807:=aj.1.2;have aO:xs.length≤1048576:=aj.2;simp only at r0 r1 r2;obtain ⟨w1,ak⟩:∃w1,w1=wr.alloc (.cells #[.int .i64 xk,.int .i64 xn,.string (za xs)] 56):=⟨_,rfl⟩;have ai:w1.heap.size=wr.heap.size+1:=by rw [ak];simp
   have aa:Hid (Below B w w1):=by show Below _ _ _;rw [ak];exact HB.out.alloc (by omega) _
   have aH:w1.heap[wr.heap.size]?=some (.cells #[.int .i64 xk,.int .i64 xn,.string (za xs)] 56 (0,0)):=by rw [ak];exact World.alloc_heap_new _ _
   have D:Hid (zf B w1 u1 (G++zg f (l.take i))):=by show zf _ _ _ _;rw [ak];exact HO.out.alloc _
   obtain ⟨p0,p1,p2,-⟩:=zr aH;have ab:Hid (w1.heap[wr.heap.size]?=some (.cells #[.int .i64 xk,.int .i64 xn,.string (za xs)] 56 (0,0))):=aH;have bb:=ak.symm;clear q0 q1 q2 aL aj au aR hx aM ak aH aW HL
   by_cases h1:xk=1
   ·subst h1
    rw [show zX ⟨1,xn,xs⟩ (yw os d ((os[xn.toNat]?).getD ([],[])))=Lib.itoa xn from rfl] at V
    rcases Nat.eq_zero_or_pos i with M | M
    ·subst M
     simp only [Nat.zero_mul,Nat.add_zero] at r0 r1 r2;have A:Hid (zf B w1 u1 K):=by show zf _ _ _ _;rw [Y.out];simpa using D.out
     have u:Hid (Below B w w1):=aa.out;have ad:w1.heap.size=wr.heap.size+1:=ai;go_wp2_with fail
     refine (Tryz.strconv_AppendInt_10 B K.length xn az aB u1 (Lib.byteCells K) w1 A.out.own (by have:=u.out.size;omega) (by omega) (fun W hW=>(HH.out.tabs W (u.out.trans hW)).2)).mono ?_
     rintro e I ⟨X,rfl,z,J,-⟩;have E:Hid (zf B I X (G++zg f (l.take (0+1)))):=by show zf _ _ _ _;rw [V.out];unfold zf;rw [List.length_append,Lib.byteCells_append];exact z
     have F:Hid (Below B w I):=u.out.trans J;clear z J;go_wp2
     exact ⟨⟨0+1,by omega,by go_num,E.out,F.out⟩,by simp [intOf];omega⟩
    ·have ap:(0:Int)<(i:Int):=by omega
     have T:Hid (K=G++zg f (l.take i)++[44,32]):=by show _=_;rw [Y.out,if_neg (by omega)]
     go_wp2_with (at_builtin;refine ze rfl _ _ rfl B _ (G++zg f (l.take i)) rfl D.out.own [44,32] rfl (by simp only [List.length_cons,List.length_nil];omega) (by omega) ?_;intro va Z y m;have A:Hid (zf B Z va K):=(by show zf _ _ _ _;rw [T.out];exact y);have u:Hid (Below B w Z):=aa.out.grown m (by omega) (fun q hq=>D.out.lt q hq);have ad:=m.size;have R:some wr.heap.size≠u1.ownBlock:=(fun e=>by obtain ⟨am,U⟩:=zj D.out.own e.symm;rw [ab.out] at U;simp at U);have O:=(m.block _ (by omega) R).trans ab.out;obtain ⟨ao,aw,av,-⟩:=zr O;clear y m R)
     refine (Tryz.strconv_AppendInt_10 B K.length xn az aB va (Lib.byteCells K) Z A.out.own (by have:=u.out.size;omega) (by omega) (fun W hW=>(HH.out.tabs W (u.out.trans hW)).2)).mono ?_
     rintro e I ⟨X,rfl,z,J,-⟩;have E:Hid (zf B I X (G++zg f (l.take (i+1)))):=by show zf _ _ _ _;rw [V.out];unfold zf;rw [List.length_append,Lib.byteCells_append];exact z
     have F:Hid (Below B w I):=u.out.trans J;clear z J;go_wp2
     exact ⟨⟨i+1,by omega,by go_num,E.out,F.out⟩,by simp [intOf];omega⟩
   have aE:(xk==1)=false:=by rw [beq_eq_false_iff_ne];exact h1
   by_cases h2:xk=2
   ·subst h2
    clear aE
    by_cases hn1:xn=1
    ·subst hn1
     rw [show zX ⟨2,1,xs⟩ (yw os d ((os[(1:Int).toNat]?).getD ([],[])))=xg true from rfl] at V
     rcases Nat.eq_zero_or_pos i with M | M
     ·subst M
      simp only [Nat.zero_mul,Nat.add_zero] at r0 r1 r2;have A:Hid (zf B w1 u1 K):=by show zf _ _ _ _;rw [Y.out];simpa using D.out
      have u:Hid (Below B w w1):=aa.out;have ad:w1.heap.size=wr.heap.size+1:=ai;go_wp2_with fail
      refine (zQ B u1 K true w1 A.out.own (by have:=u.out.size;omega) (by omega)).mono ?_
      rintro e I ⟨X,rfl,z,J⟩;have E:Hid (zf B I X (G++zg f (l.take (0+1)))):=by show zf _ _ _ _;rw [V.out];exact z
      have F:Hid (Below B w I):=u.out.trans J;clear z J;go_wp2
      exact ⟨⟨0+1,by omega,by go_num,E.out,F.out⟩,by simp [intOf];omega⟩
     ·have ap:(0:Int)<(i:Int):=by omega
      have T:Hid (K=G++zg f (l.take i)++[44,32]):=by show _=_;rw [Y.out,if_neg (by omega)]
      go_wp2_with (at_builtin;refine ze rfl _ _ rfl B _ (G++zg f (l.take i)) rfl D.out.own [44,32] rfl (by simp only [List.length_cons,List.length_nil];omega) (by omega) ?_;intro va Z y m;have A:Hid (zf B Z va K):=(by show zf _ _ _ _;rw [T.out];exact y);have u:Hid (Below B w Z):=aa.out.grown m (by omega) (fun q hq=>D.out.lt q hq);have ad:=m.size;have R:some wr.heap.size≠u1.ownBlock:=(fun e=>by obtain ⟨am,U⟩:=zj D.out.own e.symm;rw [ab.out] at U;simp at U);have O:=(m.block _ (by omega) R).trans ab.out;obtain ⟨ao,aw,av,-⟩:=zr O;clear y m R)
      refine (zQ B va K true Z A.out.own (by have:=u.out.size;omega) (by omega)).mono ?_
      rintro e I ⟨X,rfl,z,J⟩;have E:Hid (zf B I X (G++zg f (l.take (i+1)))):=by show zf _ _ _ _;rw [V.out];exact z
      have F:Hid (Below B w I):=u.out.trans J;clear z J;go_wp2
      exact ⟨⟨i+1,by omega,by go_num,E.out,F.out⟩,by simp [intOf];omega⟩
    have bf:(xn==1)=false:=by rw [beq_eq_false_iff_ne];exact hn1
    rw [show zX ⟨2,xn,xs⟩ (yw os d ((os[xn.toNat]?).getD ([],[])))=xg false by simp [zX,hn1,xg]] at V
    rcases Nat.eq_zero_or_pos i with M | M
    ·subst M
     simp only [Nat.zero_mul,Nat.add_zero] at r0 r1 r2;have A:Hid (zf B w1 u1 K):=by show zf _ _ _ _;rw [Y.out];simpa using D.out
     have u:Hid (Below B w w1):=aa.out;have ad:w1.heap.size=wr.heap.size+1:=ai;go_wp2_with fail
     refine (zQ B u1 K false w1 A.out.own (by have:=u.out.size;omega) (by omega)).mono ?_
     rintro e I ⟨X,rfl,z,J⟩;have E:Hid (zf B I X (G++zg f (l.take (0+1)))):=by show zf _ _ _ _;rw [V.out];exact z
     have F:Hid (Below B w I):=u.out.trans J;clear z J;go_wp2
     exact ⟨⟨0+1,by omega,by go_num,E.out,F.out⟩,by simp [intOf];omega⟩
    ·have ap:(0:Int)<(i:Int):=by omega
     have T:Hid (K=G++zg f (l.take i)++[44,32]):=by show _=_;rw [Y.out,if_neg (by omega)]
     go_wp2_with (at_builtin;refine ze rfl _ _ rfl B _ (G++zg f (l.take i)) rfl D.out.own [44,32] rfl (by simp only [List.length_cons,List.length_nil];omega) (by omega) ?_;intro va Z y m;have A:Hid (zf B Z va K):=(by show zf _ _ _ _;rw [T.out];exact y);have u:Hid (Below B w Z):=aa.out.grown m (by omega) (fun q hq=>D.out.lt q hq);have ad:=m.size;have R:some wr.heap.size≠u1.ownBlock:=(fun e=>by obtain ⟨am,U⟩:=zj D.out.own e.symm;rw [ab.out] at U;simp at U);have O:=(m.block _ (by omega) R).trans ab.out;obtain ⟨ao,aw,av,-⟩:=zr O;clear y m R)
     refine (zQ B va K false Z A.out.own (by have:=u.out.size;omega) (by omega)).mono ?_
     rintro e I ⟨X,rfl,z,J⟩;have E:Hid (zf B I X (G++zg f (l.take (i+1)))):=by show zf _ _ _ _;rw [V.out];exact z
     have F:Hid (Below B w I):=u.out.trans J;clear z J;go_wp2
     exact ⟨⟨i+1,by omega,by go_num,E.out,F.out⟩,by simp [intOf];omega⟩
   have aP:(xk==2)=false:=by rw [beq_eq_false_iff_ne];exact h2
   by_cases h3:xk=3
   ·subst h3
    clear aE aP;rw [show zX ⟨3,xn,xs⟩ (yw os d ((os[xn.toNat]?).getD ([],[])))=(Xc 3 0 xs).1 from rfl] at V
    have br:(Xc 3 0 xs).1.length≤3000000:=by
     have:=yY (v:=⟨3,0,xs⟩) (r:=[]) (N:=3000000) ⟨⟨by simp,by simp⟩,aO⟩ (by simp) (Nat.le_refl _)
     simpa [zX] using this
    rcases Nat.eq_zero_or_pos i with M | M
    ·subst M
     simp only [Nat.zero_mul,Nat.add_zero] at r0 r1 r2;have A:Hid (zf B w1 u1 K):=by show zf _ _ _ _;rw [Y.out];simpa using D.out
     have u:Hid (Below B w w1):=aa.out;have ad:w1.heap.size=wr.heap.size+1:=ai;go_wp2_with fail
     refine (Z4 3 0 0 0 xs w1 (by omega) (by omega) (by omega) (HH.out.tabs _ u.out)).mono ?_
     rintro e w4 ⟨rfl,ag⟩;have aq:Hid (zf B w4 u1 K):=A.out.kept ag (Nat.le_refl _);have ar:Hid (Below B w w4):=u.out.trans (ag.mono (by have:=u.out.size;omega))
     have aZ:=ar.out.size;clear ag
     go_wp2_with (at_builtin;refine ze rfl _ _ rfl B _ K rfl aq.out.own (Xc 3 0 xs).1 rfl (by omega) (by omega) ?_;intro X I z af)
     have F:Hid (Below B w I):=ar.out.grown af (by omega) (fun q hq=>aq.out.lt q hq)
     have E:Hid (zf B I X (G++zg f (l.take (0+1)))):=by show zf _ _ _ _;rw [V.out];exact z
     exact ⟨⟨0+1,by omega,by go_num,E.out,F.out⟩,by simp [intOf];omega⟩
    ·have ap:(0:Int)<(i:Int):=by omega
     have T:Hid (K=G++zg f (l.take i)++[44,32]):=by show _=_;rw [Y.out,if_neg (by omega)]
     go_wp2_with (at_builtin;refine ze rfl _ _ rfl B _ (G++zg f (l.take i)) rfl D.out.own [44,32] rfl (by simp only [List.length_cons,List.length_nil];omega) (by omega) ?_;intro va Z y m;have A:Hid (zf B Z va K):=(by show zf _ _ _ _;rw [T.out];exact y);have u:Hid (Below B w Z):=aa.out.grown m (by omega) (fun q hq=>D.out.lt q hq);have ad:=m.size;have R:some wr.heap.size≠u1.ownBlock:=(fun e=>by obtain ⟨am,U⟩:=zj D.out.own e.symm;rw [ab.out] at U;simp at U);have O:=(m.block _ (by omega) R).trans ab.out;obtain ⟨ao,aw,av,-⟩:=zr O;clear y m R)
     refine (Z4 3 0 0 0 xs Z (by omega) (by omega) (by omega) (HH.out.tabs _ u.out)).mono ?_
     rintro e w4 ⟨rfl,ag⟩;have aq:Hid (zf B w4 va K):=A.out.kept ag (Nat.le_refl _);have ar:Hid (Below B w w4):=u.out.trans (ag.mono (by have:=u.out.size;omega))
     have aZ:=ar.out.size;clear ag
     go_wp2_with (at_builtin;refine ze rfl _ _ rfl B _ K rfl aq.out.own (Xc 3 0 xs).1 rfl (by omega) (by omega) ?_;intro X I z af)
     have F:Hid (Below B w I):=ar.out.grown af (by omega) (fun q hq=>aq.out.lt q hq)
     have E:Hid (zf B I X (G++zg f (l.take (i+1)))):=by show zf _ _ _ _;rw [V.out];exact z
     exact ⟨⟨i+1,by omega,by go_num,E.out,F.out⟩,by simp [intOf];omega⟩
   have a7:(xk==3)=false:=by rw [beq_eq_false_iff_ne];exact h3
   by_cases h4:xk=4
   ·subst h4
    clear aE aP a7;obtain ⟨j,hj,aT⟩:∃j:Nat,j<os.length∧(⟨4,xn,xs⟩:Vl)=⟨4,j,[]⟩:=vZ (by unfold XS;rw [HX.out.1];rfl)
    simp only [Vl.mk.injEq,true_and] at aT;obtain ⟨a4,-⟩:=aT;have ba:xn.toNat=j:=by omega
    have bi:0≤xn:=by omega
    have bq:xn<(os.length:Int):=by omega
    rw [show zX ⟨4,xn,xs⟩ (yw os d ((os[xn.toNat]?).getD ([],[])))=yw os d os[j] by simp [zX,ba,hj]] at V
    clear a4;obtain ⟨g,oc,aN,-,hg,be,ae⟩:=vU HH.out.hp.objs (by omega)
    have ay:oc≤maxLen:=by obtain ⟨b9,bl,an,-,ay⟩:=Zp HH.out.hp.objs;rw [aN] at an;simp only [Value.slice.injEq] at an;rw [an.2.2];exact ay
    subst aN;have al:g<B:=HH.out.hp.so g rfl;have aS:h<B:=HH.out.hp.sh;obtain ⟨-,-,aQ,-,-⟩:=Zw HH.out.hp.blk;obtain ⟨a0,a1,a2⟩:=vC 0 os j hj;have e0:=ae _ _ a0;have e1:=ae _ _ a1;have e2:=ae _ _ a2;rw [Nat.zero_add] at e1 e2;have bp:(j:Int)<os.length:=by omega
    have ax:∃(tg:List UInt8) (fr up:Int),yu os j hj=.agg #[.string (za tg),.int .i64 fr,.int .i64 up]∧w.cell? ⟨g,j*3,none⟩=some (.string (za tg))∧w.cell? ⟨g,j*3+1,none⟩=some (.int .i64 fr)∧w.cell? ⟨g,j*3+2,none⟩=some (.int .i64 up):=⟨_,_,_,rfl,e0,e1,e2⟩;obtain ⟨tg,fr,up,ax,e0,e1,e2⟩:=ax
    have cO:∀W va,Below B w W→zf B W va K→Calls Tryz.prog 56 #[.pointer (some ⟨h,0,none⟩),va,.int .i64 (d:Int),.agg #[.string (za tg),.int .i64 fr,.int .i64 up]] W fun e I=>∃X,e=.returned X∧Hid (zf B I X (G++zg f (l.take (i+1))))∧Hid (Below B w I):=fun W va hW ho=>by
     have c:=a6.out B W aC os h _ _ (HH.out.on hW) j hj K va ho.own (by omega)
     rw [ax] at c;refine c.mono ?_;rintro e I ⟨X,rfl,z,J⟩;exact ⟨X,rfl,by show zf _ _ _ _;rw [V.out];exact z,hW.trans J⟩
    clear a0 a1 a2 ae ax HX;rcases Nat.eq_zero_or_pos i with M | M
    ·subst M
     simp only [Nat.zero_mul,Nat.add_zero] at r0 r1 r2;have A:Hid (zf B w1 u1 K):=by show zf _ _ _ _;rw [Y.out];simpa using D.out
     have u:Hid (Below B w w1):=aa.out;have ad:w1.heap.size=wr.heap.size+1:=ai;go_wp2_with fail
     have t2:=(zb u.out aS).trans aQ;have t3:=(zb u.out al).trans e0;have t4:=(zb u.out al).trans e1;have t5:=(zb u.out al).trans e2;have aI:∀W,Below w1.heap.size w1 W→Calls Tryz.prog 56 #[.pointer (some ⟨h,0,none⟩),u1,.int .i64 (d:Int),.agg #[.string (za tg),.int .i64 fr,.int .i64 up]] W fun e I=>∃X,e=.returned X∧Hid (zf B I X (G++zg f (l.take (0+1))))∧Hid (Below B w I):=fun W hW=>cO W u1 (u.out.trans (hW.mono (by have:=u.out.size;omega))) (A.out.kept hW (Nat.le_refl _))
     have aK:Below w1.heap.size w1 w1.drew:=(Below.refl _ _).drew;clear cO
     go_region_with (go_at_call 56;refine (aI _ aK).mono ?_;rintro e I ⟨X,rfl,E,F⟩)
     all_goals
      go_wp2
      exact ⟨⟨0+1,by omega,by go_num,E.out,F.out⟩,by simp [intOf];omega⟩
    ·have ap:(0:Int)<(i:Int):=by omega
     have T:Hid (K=G++zg f (l.take i)++[44,32]):=by show _=_;rw [Y.out,if_neg (by omega)]
     go_wp2_with (at_builtin;refine ze rfl _ _ rfl B _ (G++zg f (l.take i)) rfl D.out.own [44,32] rfl (by simp only [List.length_cons,List.length_nil];omega) (by omega) ?_;intro va Z y m;have A:Hid (zf B Z va K):=(by show zf _ _ _ _;rw [T.out];exact y);have u:Hid (Below B w Z):=aa.out.grown m (by omega) (fun q hq=>D.out.lt q hq);have ad:=m.size;have R:some wr.heap.size≠u1.ownBlock:=(fun e=>by obtain ⟨am,U⟩:=zj D.out.own e.symm;rw [ab.out] at U;simp at U);have O:=(m.block _ (by omega) R).trans ab.out;obtain ⟨ao,aw,av,-⟩:=zr O;clear y m R)
     have t2:=(zb u.out aS).trans aQ;have t3:=(zb u.out al).trans e0;have t4:=(zb u.out al).trans e1;have t5:=(zb u.out al).trans e2;have aI:∀W,Below Z.heap.size Z W→Calls Tryz.prog 56 #[.pointer (some ⟨h,0,none⟩),va,.int .i64 (d:Int),.agg #[.string (za tg),.int .i64 fr,.int .i64 up]] W fun e I=>∃X,e=.returned X∧Hid (zf B I X (G++zg f (l.take (i+1))))∧Hid (Below B w I):=fun W hW=>cO W va (u.out.trans (hW.mono (by have:=u.out.size;omega))) (A.out.kept hW (Nat.le_refl _))
     have aK:Below Z.heap.size Z Z.drew:=(Below.refl _ _).drew;clear cO
     go_region_with (go_at_call 56;refine (aI _ aK).mono ?_;rintro e I ⟨X,rfl,E,F⟩)
     all_goals
      go_wp2
      exact ⟨⟨i+1,by omega,by go_num,E.out,F.out⟩,by simp [intOf];omega⟩
   have bg:(xk==4)=false:=by rw [beq_eq_false_iff_ne];exact h4
   rw [show zX ⟨xk,xn,xs⟩ (yw os d ((os[xn.toNat]?).getD ([],[])))=Yi by simp [zX,h1,h2,h3,h4]] at V
   rcases Nat.eq_zero_or_pos i with M | M
   ·subst M
    simp only [Nat.zero_mul,Nat.add_zero] at r0 r1 r2;have A:Hid (zf B w1 u1 K):=by show zf _ _ _ _;rw [Y.out];simpa using D.out
    have u:Hid (Below B w w1):=aa.out;have ad:w1.heap.size=wr.heap.size+1:=ai
    go_wp2_with (at_builtin;refine ze rfl _ _ rfl B _ K rfl A.out.own Yi rfl (by simp [Yi];omega) (by have:=u.out.size;omega) ?_;intro X I z af)
    have F:Hid (Below B w I):=u.out.grown af (by have:=u.out.size;omega) (fun q hq=>A.out.lt q hq)
    have E:Hid (zf B I X (G++zg f (l.take (0+1)))):=by show zf _ _ _ _;rw [V.out];exact z
    exact ⟨⟨0+1,by omega,by go_num,E.out,F.out⟩,by simp [intOf];omega⟩
   ·have ap:(0:Int)<(i:Int):=by omega
    have T:Hid (K=G++zg f (l.take i)++[44,32]):=by show _=_;rw [Y.out,if_neg (by omega)]
    go_wp2_with (first | (at_builtin;refine ze rfl _ _ rfl B _ (G++zg f (l.take i)) rfl D.out.own [44,32] rfl (by simp only [List.length_cons,List.length_nil];omega) (by omega) ?_;intro va Z y m;have A:Hid (zf B Z va K):=(by show zf _ _ _ _;rw [T.out];exact y);have u:Hid (Below B w Z):=aa.out.grown m (by omega) (fun q hq=>D.out.lt q hq);have ad:=m.size;have R:some wr.heap.size≠u1.ownBlock:=(fun e=>by obtain ⟨am,U⟩:=zj D.out.own e.symm;rw [ab.out] at U;simp at U);have O:=(m.block _ (by omega) R).trans ab.out;obtain ⟨ao,aw,av,-⟩:=zr O;clear y m R) | (at_builtin;refine ze rfl _ _ rfl B _ K rfl A.out.own Yi rfl (by simp [Yi];omega) (by have:=u.out.size;omega) ?_;intro X I z af))
    have F:Hid (Below B w I):=u.out.grown af (by have:=u.out.size;omega) (fun q hq=>A.out.lt q hq)
    have E:Hid (zf B I X (G++zg f (l.take (i+1)))):=by show zf _ _ _ _;rw [V.out];exact z
    exact ⟨⟨i+1,by omega,by go_num,E.out,F.out⟩,by simp [intOf];omega⟩
  ·obtain rfl:i=l.length:=by omega
   have a5:¬ (l.length:Int)<l.length:=by omega
   have a3:Hid (zf B wr u1 (G++zg f l)):=by
    have:=HO.out
    rwa [List.take_length] at this
   go_wp2
   go_ret
   exact ⟨u1,rfl,a3.out,HB.out⟩
end Go.Proofs.YtbjndgachcdbcaaGreatDoor
