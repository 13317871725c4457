import Derived.Test.YtbjndgachcdbcaaGreatDoorHWrite
import Derived.Deep.RegionWith
namespace Go.Proofs.YtbjndgachcdbcaaGreatDoor
open Go.RowKit Go.Shelf
set_option maxHeartbeats 16000000
set_option maxRecDepth 100000
theorem zf.lt {B:Nat} {w:World} {v:Value} {bs:List UInt8} (h:zf B w v bs):∀k,v.ownBlock=some k→B≤k:=fun k hk=>(World.ownsRow.lt h k hk).1
theorem zf.own {B:Nat} {w:World} {v:Value} {bs:List UInt8} (h:zf B w v bs):w.ownsRow B 5 1 v bs.length (Lib.byteCells bs):=h
theorem zf.alloc {B:Nat} {w:World} {v:Value} {bs:List UInt8} (h:zf B w v bs) (o:Obj):zf B (w.alloc o) v bs:=World.ownsRow.alloc h o
theorem zf.kept {B n:Nat} {w w':World} {v:Value} {bs:List UInt8} (h:zf B w v bs) (hb:Below n w w') (hn:w.heap.size≤n):zf B w' v bs:=zm h fun k _ hk=>hb.block k (Nat.lt_of_lt_of_le hk hn)
theorem Ym (d:Nat) (hO:XX d):Yb d:=by
 intro B w aB os h vo vc H l pv I bv aN hl bf az bd;have hB:=H.le;have aZ:Hid (zf B w bv I):=az;have HH:Hid (xM B w aB os h vo vc):=H;have HL:Hid (∀v∈l,zb v os.length=true∧zw v):=hl;have a8:Hid (XX d):=hO;have aI:∀o∈os,Yf o:=fun o ho=>(H.hp.ok o ho).2
 have bl:Hid (∀o∈os,Yf o):=aI;obtain ⟨base,bs,rfl,bp,br,aP⟩:=aN.at;have aV:Hid (∀i (hi:i<l.length),∃b o,base=some ⟨b,o,none⟩∧b<B∧b<w.heap.size∧w.cell? ⟨b,o+i*3,none⟩=some (.int .i64 (l[i]).k)∧w.cell? ⟨b,o+i*3+1,none⟩=some (.int .i64 (l[i]).n)∧w.cell? ⟨b,o+i*3+2,none⟩=some (.string (za (l[i]).s))):=aP;have bo:=xh d;obtain ⟨f,hf⟩:∃f,f=zH os d:=⟨_,rfl⟩;rw [←hf];have HF:Hid (f=zH os d):=hf
 have aA:∀i,i≤8→(I++zg f (l.take i)).length≤I.length+8*(z8 d+2):=fun i hi=>by
  have h1:=yA (f:=f) (N:=z8 d) (l.take i) fun v hv=>by rw [hf];exact yp aI d v (hl v (List.mem_of_mem_take hv)).2
  have h2:(l.take i).length≤8:=by rw [List.length_take];omega
  have h3:(l.take i).length*(z8 d+2)≤8*(z8 d+2):=Nat.mul_le_mul_right _ h2;rw [List.length_append];omega
 have aY:Hid (∀i,i≤8→(I++zg f (l.take i)).length≤I.length+8*(z8 d+2)):=aA;clear aN aP az H hl hO hf aA aI
 go_enter Tryz.func48,Tryz.ntmps48
 go_wp2
 go_loopw [1,15] (fun vb vi wr=>∃i:Nat,i≤l.length∧vi=.int .i64 i∧zf B wr vb (I++zg f (l.take i))∧Below B w wr) (fun _ vi _=>l.length-(intOf vi).toNat)
 case atStart=>exact ⟨0,Nat.zero_le _,rfl,by simpa [zg] using aZ.out,Below.refl _ _⟩
 case round =>
  obtain ⟨i,hi,rfl,aR,aL⟩:=hrel;have HO:Hid (zf B wr u1 (I++zg f (l.take i))):=aR;have HB:Hid (Below B w wr):=aL;have bb:=aL.size;clear aR aL
  by_cases hlt:i<l.length
  ·obtain ⟨b,o,rfl,aJ,bt,q0,q1,q2⟩:=aV.out i hlt
   have a7:(i:Int)<l.length:=by omega
   have r0:=(zh HB.out aJ).trans q0;have r1:=(zh HB.out aJ).trans q1;have r2:=(zh HB.out aJ).trans q2;have aK:=(HL.out l[i] (List.getElem_mem hlt)).1;have aj:=(HL.out l[i] (List.getElem_mem hlt)).2;have au:=xN I f l i hlt;have aW:f l[i]=zT l[i] (ye os d ((os[(l[i]).n.toNat]?).getD ([],[]))):=by rw [HF.out];exact YX os d l[i]
   rw [aW] at au;have bj:=aY.out i (by omega)
   have a6:(yB I f l i).length≤I.length+8*(z8 d+2)+2:=by
    unfold yB
    rw [List.length_append]
    have:(if i=0 then ([]:List UInt8) else [44,32]).length≤2:=by split <;> simp
    omega
   have Y:Hid (yB I f l i=I++zg f (l.take i)++if i=0 then [] else [44,32]):=rfl
   obtain ⟨x,hx⟩:∃x,x=l[i]:=⟨_,rfl⟩;rw [←hx] at r0 r1 r2 aK aj au;obtain ⟨K,aO⟩:∃K,K=yB I f l i:=⟨_,rfl⟩;rw [←aO] at au a6 Y;obtain ⟨xk,xn,xs⟩:=x;have O:Hid (I++zg f (l.take (i+1))=K++zT ⟨xk,xn,xs⟩ (ye os d ((os[xn.toNat]?).getD ([],[])))):=au;have HX:Hid (zb ⟨xk,xn,xs⟩ os.length=true∧zw ⟨xk,xn,xs⟩):=⟨aK,aj⟩;have aD:-9223372036854775808≤xn:=aj.1.1;have aC:xn≤9223372036854775807:=aj.1.2;have aT:xs.length≤1048576:=aj.2;simp only at r0 r1 r2;obtain ⟨w1,ai⟩:∃w1,w1=wr.alloc (.cells #[.int .i64 xk,.int .i64 xn,.string (za xs)] 56):=⟨_,rfl⟩;have ak:w1.heap.size=wr.heap.size+1:=by rw [ai];simp
   have ab:Hid (Below B w w1):=by show Below _ _ _;rw [ai];exact HB.out.alloc (by omega) _
   have aG:w1.heap[wr.heap.size]?=some (.cells #[.int .i64 xk,.int .i64 xn,.string (za xs)] 56 (0,0)):=by rw [ai];exact World.alloc_heap_new _ _
   have D:Hid (zf B w1 u1 (I++zg f (l.take i))):=by show zf _ _ _ _;rw [ai];exact HO.out.alloc _
   obtain ⟨p0,p1,p2,-⟩:=zv aG;have aa:Hid (w1.heap[wr.heap.size]?=some (.cells #[.int .i64 xk,.int .i64 xn,.string (za xs)] 56 (0,0))):=aG;have bc:=ai.symm;clear q0 q1 q2 aK aj au aW hx aO ai aG aV HL
   by_cases h1:xk=1
   ·subst h1
    rw [show zT ⟨1,xn,xs⟩ (ye os d ((os[xn.toNat]?).getD ([],[])))=Lib.itoa xn from rfl] at O
    rcases Nat.eq_zero_or_pos i with T | T
    ·subst T
     simp only [Nat.zero_mul,Nat.add_zero] at r0 r1 r2;have A:Hid (zf B w1 u1 K):=by show zf _ _ _ _;rw [Y.out];simpa using D.out
     have u:Hid (Below B w w1):=ab.out;have ad:w1.heap.size=wr.heap.size+1:=ak;go_wp2_with fail
     refine (Tryz.strconv_AppendInt_10 B K.length xn aD aC u1 (Lib.byteCells K) w1 A.out.own (by have:=u.out.size;omega) (by omega) (fun W hW=>(HH.out.tabs W (u.out.trans hW)).2)).mono ?_
     rintro e G ⟨X,rfl,z,J,-⟩;have E:Hid (zf B G X (I++zg f (l.take (0+1)))):=by show zf _ _ _ _;rw [O.out];unfold zf;rw [List.length_append,Lib.byteCells_append];exact z
     have F:Hid (Below B w G):=u.out.trans J;clear z J;go_wp2
     exact ⟨⟨0+1,by omega,by go_num,E.out,F.out⟩,by simp [intOf];omega⟩
    ·have av:(0:Int)<(i:Int):=by omega
     have V:Hid (K=I++zg f (l.take i)++[44,32]):=by show _=_;rw [Y.out,if_neg (by omega)]
     go_wp2_with (at_builtin;refine ze rfl _ _ rfl B _ (I++zg f (l.take i)) rfl D.out.own [44,32] rfl (by simp only [List.length_cons,List.length_nil];omega) (by omega) ?_;intro va Z y m;have A:Hid (zf B Z va K):=(by show zf _ _ _ _;rw [V.out];exact y);have u:Hid (Below B w Z):=ab.out.grown m (by omega) (fun q hq=>D.out.lt q hq);have ad:=m.size;have U:some wr.heap.size≠u1.ownBlock:=(fun e=>by obtain ⟨ao,M⟩:=zs D.out.own e.symm;rw [aa.out] at M;simp at M);have R:=(m.block _ (by omega) U).trans aa.out;obtain ⟨ap,an,ar,-⟩:=zv R;clear y m U)
     refine (Tryz.strconv_AppendInt_10 B K.length xn aD aC va (Lib.byteCells K) Z A.out.own (by have:=u.out.size;omega) (by omega) (fun W hW=>(HH.out.tabs W (u.out.trans hW)).2)).mono ?_
     rintro e G ⟨X,rfl,z,J,-⟩;have E:Hid (zf B G X (I++zg f (l.take (i+1)))):=by show zf _ _ _ _;rw [O.out];unfold zf;rw [List.length_append,Lib.byteCells_append];exact z
     have F:Hid (Below B w G):=u.out.trans J;clear z J;go_wp2
     exact ⟨⟨i+1,by omega,by go_num,E.out,F.out⟩,by simp [intOf];omega⟩
   have aE:(xk==1)=false:=by rw [beq_eq_false_iff_ne];exact h1
   by_cases h2:xk=2
   ·subst h2
    clear aE
    by_cases hn1:xn=1
    ·subst hn1
     rw [show zT ⟨2,1,xs⟩ (ye os d ((os[(1:Int).toNat]?).getD ([],[])))=YY true from rfl] at O
     rcases Nat.eq_zero_or_pos i with T | T
     ·subst T
      simp only [Nat.zero_mul,Nat.add_zero] at r0 r1 r2;have A:Hid (zf B w1 u1 K):=by show zf _ _ _ _;rw [Y.out];simpa using D.out
      have u:Hid (Below B w w1):=ab.out;have ad:w1.heap.size=wr.heap.size+1:=ak;go_wp2_with fail
      refine (zM B u1 K true w1 A.out.own (by have:=u.out.size;omega) (by omega)).mono ?_
      rintro e G ⟨X,rfl,z,J⟩;have E:Hid (zf B G X (I++zg f (l.take (0+1)))):=by show zf _ _ _ _;rw [O.out];exact z
      have F:Hid (Below B w G):=u.out.trans J;clear z J;go_wp2
      exact ⟨⟨0+1,by omega,by go_num,E.out,F.out⟩,by simp [intOf];omega⟩
     ·have av:(0:Int)<(i:Int):=by omega
      have V:Hid (K=I++zg f (l.take i)++[44,32]):=by show _=_;rw [Y.out,if_neg (by omega)]
      go_wp2_with (at_builtin;refine ze rfl _ _ rfl B _ (I++zg f (l.take i)) rfl D.out.own [44,32] rfl (by simp only [List.length_cons,List.length_nil];omega) (by omega) ?_;intro va Z y m;have A:Hid (zf B Z va K):=(by show zf _ _ _ _;rw [V.out];exact y);have u:Hid (Below B w Z):=ab.out.grown m (by omega) (fun q hq=>D.out.lt q hq);have ad:=m.size;have U:some wr.heap.size≠u1.ownBlock:=(fun e=>by obtain ⟨ao,M⟩:=zs D.out.own e.symm;rw [aa.out] at M;simp at M);have R:=(m.block _ (by omega) U).trans aa.out;obtain ⟨ap,an,ar,-⟩:=zv R;clear y m U)
      refine (zM B va K true Z A.out.own (by have:=u.out.size;omega) (by omega)).mono ?_
      rintro e G ⟨X,rfl,z,J⟩;have E:Hid (zf B G X (I++zg f (l.take (i+1)))):=by show zf _ _ _ _;rw [O.out];exact z
      have F:Hid (Below B w G):=u.out.trans J;clear z J;go_wp2
      exact ⟨⟨i+1,by omega,by go_num,E.out,F.out⟩,by simp [intOf];omega⟩
    have bh:(xn==1)=false:=by rw [beq_eq_false_iff_ne];exact hn1
    rw [show zT ⟨2,xn,xs⟩ (ye os d ((os[xn.toNat]?).getD ([],[])))=YY false by simp [zT,hn1,YY]] at O
    rcases Nat.eq_zero_or_pos i with T | T
    ·subst T
     simp only [Nat.zero_mul,Nat.add_zero] at r0 r1 r2;have A:Hid (zf B w1 u1 K):=by show zf _ _ _ _;rw [Y.out];simpa using D.out
     have u:Hid (Below B w w1):=ab.out;have ad:w1.heap.size=wr.heap.size+1:=ak;go_wp2_with fail
     refine (zM B u1 K false w1 A.out.own (by have:=u.out.size;omega) (by omega)).mono ?_
     rintro e G ⟨X,rfl,z,J⟩;have E:Hid (zf B G X (I++zg f (l.take (0+1)))):=by show zf _ _ _ _;rw [O.out];exact z
     have F:Hid (Below B w G):=u.out.trans J;clear z J;go_wp2
     exact ⟨⟨0+1,by omega,by go_num,E.out,F.out⟩,by simp [intOf];omega⟩
    ·have av:(0:Int)<(i:Int):=by omega
     have V:Hid (K=I++zg f (l.take i)++[44,32]):=by show _=_;rw [Y.out,if_neg (by omega)]
     go_wp2_with (at_builtin;refine ze rfl _ _ rfl B _ (I++zg f (l.take i)) rfl D.out.own [44,32] rfl (by simp only [List.length_cons,List.length_nil];omega) (by omega) ?_;intro va Z y m;have A:Hid (zf B Z va K):=(by show zf _ _ _ _;rw [V.out];exact y);have u:Hid (Below B w Z):=ab.out.grown m (by omega) (fun q hq=>D.out.lt q hq);have ad:=m.size;have U:some wr.heap.size≠u1.ownBlock:=(fun e=>by obtain ⟨ao,M⟩:=zs D.out.own e.symm;rw [aa.out] at M;simp at M);have R:=(m.block _ (by omega) U).trans aa.out;obtain ⟨ap,an,ar,-⟩:=zv R;clear y m U)
     refine (zM B va K false Z A.out.own (by have:=u.out.size;omega) (by omega)).mono ?_
     rintro e G ⟨X,rfl,z,J⟩;have E:Hid (zf B G X (I++zg f (l.take (i+1)))):=by show zf _ _ _ _;rw [O.out];exact z
     have F:Hid (Below B w G):=u.out.trans J;clear z J;go_wp2
     exact ⟨⟨i+1,by omega,by go_num,E.out,F.out⟩,by simp [intOf];omega⟩
   have aX:(xk==2)=false:=by rw [beq_eq_false_iff_ne];exact h2
   by_cases h3:xk=3
   ·subst h3
    clear aE aX;rw [show zT ⟨3,xn,xs⟩ (ye os d ((os[xn.toNat]?).getD ([],[])))=(xH 3 0 xs).1 from rfl] at O
    have bq:(xH 3 0 xs).1.length≤3000000:=by
     have:=yz (v:=⟨3,0,xs⟩) (r:=[]) (N:=3000000) ⟨⟨by simp,by simp⟩,aT⟩ (by simp) (Nat.le_refl _)
     simpa [zT] using this
    rcases Nat.eq_zero_or_pos i with T | T
    ·subst T
     simp only [Nat.zero_mul,Nat.add_zero] at r0 r1 r2;have A:Hid (zf B w1 u1 K):=by show zf _ _ _ _;rw [Y.out];simpa using D.out
     have u:Hid (Below B w w1):=ab.out;have ad:w1.heap.size=wr.heap.size+1:=ak;go_wp2_with fail
     refine (ZU 3 0 0 0 xs w1 (by omega) (by omega) (by omega) (HH.out.tabs _ u.out)).mono ?_
     rintro e w4 ⟨rfl,af⟩;have aq:Hid (zf B w4 u1 K):=A.out.kept af (Nat.le_refl _);have aw:Hid (Below B w w4):=u.out.trans (af.mono (by have:=u.out.size;omega))
     have a5:=aw.out.size;clear af
     go_wp2_with (at_builtin;refine ze rfl _ _ rfl B _ K rfl aq.out.own (xH 3 0 xs).1 rfl (by omega) (by omega) ?_;intro X G z ag)
     have F:Hid (Below B w G):=aw.out.grown ag (by omega) (fun q hq=>aq.out.lt q hq)
     have E:Hid (zf B G X (I++zg f (l.take (0+1)))):=by show zf _ _ _ _;rw [O.out];exact z
     exact ⟨⟨0+1,by omega,by go_num,E.out,F.out⟩,by simp [intOf];omega⟩
    ·have av:(0:Int)<(i:Int):=by omega
     have V:Hid (K=I++zg f (l.take i)++[44,32]):=by show _=_;rw [Y.out,if_neg (by omega)]
     go_wp2_with (at_builtin;refine ze rfl _ _ rfl B _ (I++zg f (l.take i)) rfl D.out.own [44,32] rfl (by simp only [List.length_cons,List.length_nil];omega) (by omega) ?_;intro va Z y m;have A:Hid (zf B Z va K):=(by show zf _ _ _ _;rw [V.out];exact y);have u:Hid (Below B w Z):=ab.out.grown m (by omega) (fun q hq=>D.out.lt q hq);have ad:=m.size;have U:some wr.heap.size≠u1.ownBlock:=(fun e=>by obtain ⟨ao,M⟩:=zs D.out.own e.symm;rw [aa.out] at M;simp at M);have R:=(m.block _ (by omega) U).trans aa.out;obtain ⟨ap,an,ar,-⟩:=zv R;clear y m U)
     refine (ZU 3 0 0 0 xs Z (by omega) (by omega) (by omega) (HH.out.tabs _ u.out)).mono ?_
     rintro e w4 ⟨rfl,af⟩;have aq:Hid (zf B w4 va K):=A.out.kept af (Nat.le_refl _);have aw:Hid (Below B w w4):=u.out.trans (af.mono (by have:=u.out.size;omega))
     have a5:=aw.out.size;clear af
     go_wp2_with (at_builtin;refine ze rfl _ _ rfl B _ K rfl aq.out.own (xH 3 0 xs).1 rfl (by omega) (by omega) ?_;intro X G z ag)
     have F:Hid (Below B w G):=aw.out.grown ag (by omega) (fun q hq=>aq.out.lt q hq)
     have E:Hid (zf B G X (I++zg f (l.take (i+1)))):=by show zf _ _ _ _;rw [O.out];exact z
     exact ⟨⟨i+1,by omega,by go_num,E.out,F.out⟩,by simp [intOf];omega⟩
   have a4:(xk==3)=false:=by rw [beq_eq_false_iff_ne];exact h3
   by_cases h4:xk=4
   ·subst h4
    clear aE aX a4;obtain ⟨j,hj,aM⟩:∃j:Nat,j<os.length∧(⟨4,xn,xs⟩:Vl)=⟨4,j,[]⟩:=vk (by unfold Xq;rw [HX.out.1];rfl)
    simp only [Vl.mk.injEq,true_and] at aM;obtain ⟨a3,-⟩:=aM;have ba:xn.toNat=j:=by omega
    have bm:0≤xn:=by omega
    have be:xn<(os.length:Int):=by omega
    rw [show zT ⟨4,xn,xs⟩ (ye os d ((os[xn.toNat]?).getD ([],[])))=ye os d os[j] by simp [zT,ba,hj]] at O
    clear a3;obtain ⟨g,oc,aS,-,hg,bg,ae⟩:=X9 HH.out.hp.objs (by omega)
    have ay:oc≤maxLen:=by obtain ⟨b9,bn,am,-,ay⟩:=ym HH.out.hp.objs;rw [aS] at am;simp only [Value.slice.injEq] at am;rw [am.2.2];exact ay
    subst aS;have al:g<B:=HH.out.hp.so g rfl;have aU:h<B:=HH.out.hp.sh;obtain ⟨-,-,aQ,-,-⟩:=Yg HH.out.hp.blk;obtain ⟨a0,a1,a2⟩:=XV 0 os j hj;have e0:=ae _ _ a0;have e1:=ae _ _ a1;have e2:=ae _ _ a2;rw [Nat.zero_add] at e1 e2;have bk:(j:Int)<os.length:=by omega
    have ax:∃(tg:List UInt8) (fr up:Int),Z9 os j hj=.agg #[.string (za tg),.int .i64 fr,.int .i64 up]∧w.cell? ⟨g,j*3,none⟩=some (.string (za tg))∧w.cell? ⟨g,j*3+1,none⟩=some (.int .i64 fr)∧w.cell? ⟨g,j*3+2,none⟩=some (.int .i64 up):=⟨_,_,_,rfl,e0,e1,e2⟩;obtain ⟨tg,fr,up,ax,e0,e1,e2⟩:=ax
    have cO:∀W va,Below B w W→zf B W va K→Calls Tryz.prog 56 #[.pointer (some ⟨h,0,none⟩),va,.int .i64 (d:Int),.agg #[.string (za tg),.int .i64 fr,.int .i64 up]] W fun e G=>∃X,e=.returned X∧Hid (zf B G X (I++zg f (l.take (i+1))))∧Hid (Below B w G):=fun W va hW ho=>by
     have c:=a8.out B W aB os h _ _ (HH.out.on hW) j hj K va ho.own (by omega)
     rw [ax] at c;refine c.mono ?_;rintro e G ⟨X,rfl,z,J⟩;exact ⟨X,rfl,by show zf _ _ _ _;rw [O.out];exact z,hW.trans J⟩
    clear a0 a1 a2 ae ax HX;rcases Nat.eq_zero_or_pos i with T | T
    ·subst T
     simp only [Nat.zero_mul,Nat.add_zero] at r0 r1 r2;have A:Hid (zf B w1 u1 K):=by show zf _ _ _ _;rw [Y.out];simpa using D.out
     have u:Hid (Below B w w1):=ab.out;have ad:w1.heap.size=wr.heap.size+1:=ak;go_wp2_with fail
     have t2:=(zh u.out aU).trans aQ;have t3:=(zh u.out al).trans e0;have t4:=(zh u.out al).trans e1;have t5:=(zh u.out al).trans e2;have aF:∀W,Below w1.heap.size w1 W→Calls Tryz.prog 56 #[.pointer (some ⟨h,0,none⟩),u1,.int .i64 (d:Int),.agg #[.string (za tg),.int .i64 fr,.int .i64 up]] W fun e G=>∃X,e=.returned X∧Hid (zf B G X (I++zg f (l.take (0+1))))∧Hid (Below B w G):=fun W hW=>cO W u1 (u.out.trans (hW.mono (by have:=u.out.size;omega))) (A.out.kept hW (Nat.le_refl _))
     have aH:Below w1.heap.size w1 w1.drew:=(Below.refl _ _).drew;clear cO
     go_region_with (go_at_call 56;refine (aF _ aH).mono ?_;rintro e G ⟨X,rfl,E,F⟩)
     all_goals
      go_wp2
      exact ⟨⟨0+1,by omega,by go_num,E.out,F.out⟩,by simp [intOf];omega⟩
    ·have av:(0:Int)<(i:Int):=by omega
     have V:Hid (K=I++zg f (l.take i)++[44,32]):=by show _=_;rw [Y.out,if_neg (by omega)]
     go_wp2_with (at_builtin;refine ze rfl _ _ rfl B _ (I++zg f (l.take i)) rfl D.out.own [44,32] rfl (by simp only [List.length_cons,List.length_nil];omega) (by omega) ?_;intro va Z y m;have A:Hid (zf B Z va K):=(by show zf _ _ _ _;rw [V.out];exact y);have u:Hid (Below B w Z):=ab.out.grown m (by omega) (fun q hq=>D.out.lt q hq);have ad:=m.size;have U:some wr.heap.size≠u1.ownBlock:=(fun e=>by obtain ⟨ao,M⟩:=zs D.out.own e.symm;rw [aa.out] at M;simp at M);have R:=(m.block _ (by omega) U).trans aa.out;obtain ⟨ap,an,ar,-⟩:=zv R;clear y m U)
     have t2:=(zh u.out aU).trans aQ;have t3:=(zh u.out al).trans e0;have t4:=(zh u.out al).trans e1;have t5:=(zh u.out al).trans e2;have aF:∀W,Below Z.heap.size Z W→Calls Tryz.prog 56 #[.pointer (some ⟨h,0,none⟩),va,.int .i64 (d:Int),.agg #[.string (za tg),.int .i64 fr,.int .i64 up]] W fun e G=>∃X,e=.returned X∧Hid (zf B G X (I++zg f (l.take (i+1))))∧Hid (Below B w G):=fun W hW=>cO W va (u.out.trans (hW.mono (by have:=u.out.size;omega))) (A.out.kept hW (Nat.le_refl _))
     have aH:Below Z.heap.size Z Z.drew:=(Below.refl _ _).drew;clear cO
     go_region_with (go_at_call 56;refine (aF _ aH).mono ?_;rintro e G ⟨X,rfl,E,F⟩)
     all_goals
      go_wp2
      exact ⟨⟨i+1,by omega,by go_num,E.out,F.out⟩,by simp [intOf];omega⟩
   have bi:(xk==4)=false:=by rw [beq_eq_false_iff_ne];exact h4
   rw [show zT ⟨xk,xn,xs⟩ (ye os d ((os[xn.toNat]?).getD ([],[])))=yQ by simp [zT,h1,h2,h3,h4]] at O
   rcases Nat.eq_zero_or_pos i with T | T
   ·subst T
    simp only [Nat.zero_mul,Nat.add_zero] at r0 r1 r2;have A:Hid (zf B w1 u1 K):=by show zf _ _ _ _;rw [Y.out];simpa using D.out
    have u:Hid (Below B w w1):=ab.out;have ad:w1.heap.size=wr.heap.size+1:=ak
    go_wp2_with (at_builtin;refine ze rfl _ _ rfl B _ K rfl A.out.own yQ rfl (by simp [yQ];omega) (by have:=u.out.size;omega) ?_;intro X G z ag)
    have F:Hid (Below B w G):=u.out.grown ag (by have:=u.out.size;omega) (fun q hq=>A.out.lt q hq)
    have E:Hid (zf B G X (I++zg f (l.take (0+1)))):=by show zf _ _ _ _;rw [O.out];exact z
    exact ⟨⟨0+1,by omega,by go_num,E.out,F.out⟩,by simp [intOf];omega⟩
   ·have av:(0:Int)<(i:Int):=by omega
    have V:Hid (K=I++zg f (l.take i)++[44,32]):=by show _=_;rw [Y.out,if_neg (by omega)]
    go_wp2_with (first | (at_builtin;refine ze rfl _ _ rfl B _ (I++zg f (l.take i)) rfl D.out.own [44,32] rfl (by simp only [List.length_cons,List.length_nil];omega) (by omega) ?_;intro va Z y m;have A:Hid (zf B Z va K):=(by show zf _ _ _ _;rw [V.out];exact y);have u:Hid (Below B w Z):=ab.out.grown m (by omega) (fun q hq=>D.out.lt q hq);have ad:=m.size;have U:some wr.heap.size≠u1.ownBlock:=(fun e=>by obtain ⟨ao,M⟩:=zs D.out.own e.symm;rw [aa.out] at M;simp at M);have R:=(m.block _ (by omega) U).trans aa.out;obtain ⟨ap,an,ar,-⟩:=zv R;clear y m U) | (at_builtin;refine ze rfl _ _ rfl B _ K rfl A.out.own yQ rfl (by simp [yQ];omega) (by have:=u.out.size;omega) ?_;intro X G z ag))
    have F:Hid (Below B w G):=u.out.grown ag (by have:=u.out.size;omega) (fun q hq=>A.out.lt q hq)
    have E:Hid (zf B G X (I++zg f (l.take (i+1)))):=by show zf _ _ _ _;rw [O.out];exact z
    exact ⟨⟨i+1,by omega,by go_num,E.out,F.out⟩,by simp [intOf];omega⟩
  ·obtain rfl:i=l.length:=by omega
   have a7:¬ (l.length:Int)<l.length:=by omega
   have a9:Hid (zf B wr u1 (I++zg f l)):=by
    have:=HO.out
    rwa [List.take_length] at this
   go_wp2
   go_ret
   exact ⟨u1,rfl,a9.out,HB.out⟩
end Go.Proofs.YtbjndgachcdbcaaGreatDoor
