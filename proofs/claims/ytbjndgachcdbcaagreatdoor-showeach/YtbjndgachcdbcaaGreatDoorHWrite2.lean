import Derived.Test.YtbjndgachcdbcaaGreatDoorHWrite
import Derived.Deep.RegionWith
namespace Go.Proofs.YtbjndgachcdbcaaGreatDoor
open Go.RowKit Go.Shelf
set_option maxHeartbeats 16000000
set_option maxRecDepth 100000
theorem zg.lt {B:Nat} {w:World} {v:Value} {bs:List UInt8} (h:zg B w v bs):∀k,v.ownBlock=some k→B≤k:=fun k hk=>(World.ownsRow.lt h k hk).1
theorem zg.own {B:Nat} {w:World} {v:Value} {bs:List UInt8} (h:zg B w v bs):w.ownsRow B 5 1 v bs.length (Lib.byteCells bs):=h
theorem zg.alloc {B:Nat} {w:World} {v:Value} {bs:List UInt8} (h:zg B w v bs) (o:Obj):zg B (w.alloc o) v bs:=World.ownsRow.alloc h o
theorem zg.kept {B n:Nat} {w w':World} {v:Value} {bs:List UInt8} (h:zg B w v bs) (hb:Below n w w') (hn:w.heap.size≤n):zg B w' v bs:=zi h fun k _ hk=>hb.block k (Nat.lt_of_lt_of_le hk hn)
theorem YL (d:Nat) (hO:vM d):Yz d:=by
 intro B w ay os h vo vc H l pv I bv aQ hl bg az bf;have hB:=H.le;have a7:Hid (zg B w bv I):=az;have HH:Hid (Xq B w ay os h vo vc):=H;have HL:Hid (∀v∈l,rightV v os.length=true∧zq v):=hl;have a5:Hid (vM d):=hO;have aK:∀o∈os,Zf o:=fun o ho=>(H.hp.ok o ho).2
 have bk:Hid (∀o∈os,Zf o):=aK;obtain ⟨base,bj,rfl,bo,bh,aM⟩:=aQ.at;have aN:Hid (∀i (hi:i<l.length),∃b o,base=some ⟨b,o,none⟩∧b<B∧b<w.heap.size∧w.cell? ⟨b,o+i*3,none⟩=some (.int .i64 (l[i]).k)∧w.cell? ⟨b,o+i*3+1,none⟩=some (.int .i64 (l[i]).n)∧w.cell? ⟨b,o+i*3+2,none⟩=some (.string (za (l[i]).s))):=aM;have br:=xL d;obtain ⟨f,hf⟩:∃f,f=zH os d:=⟨_,rfl⟩;rw [←hf];have HF:Hid (f=zH os d):=hf
 have aC:∀i,i≤8→(I++zh f (l.take i)).length≤I.length+8*(Zc d+2):=fun i hi=>by
  have h1:=y5 (f:=f) (N:=Zc d) (l.take i) fun v hv=>by rw [hf];exact yL aK d v (hl v (List.mem_of_mem_take hv)).2
  have h2:(l.take i).length≤8:=by rw [List.length_take];omega
  have h3:(l.take i).length*(Zc d+2)≤8*(Zc d+2):=Nat.mul_le_mul_right _ h2;rw [List.length_append];omega
 have aT:Hid (∀i,i≤8→(I++zh f (l.take i)).length≤I.length+8*(Zc d+2)):=aC;clear aQ aM az H hl hO hf aC aK
 go_enter Tryz.func48,Tryz.ntmps48
 go_wp2
 go_loopw [1,15] (fun vb vi wr=>∃i:Nat,i≤l.length∧vi=.int .i64 i∧zg B wr vb (I++zh f (l.take i))∧Below B w wr) (fun _ vi _=>l.length-(intOf vi).toNat)
 case atStart=>exact ⟨0,Nat.zero_le _,rfl,by simpa [zh] using a7.out,Below.refl _ _⟩
 case round =>
  obtain ⟨i,hi,rfl,aR,aG⟩:=hrel;have HO:Hid (zg B wr u1 (I++zh f (l.take i))):=aR;have HB:Hid (Below B w wr):=aG;have bc:=aG.size;clear aR aG
  by_cases hlt:i<l.length
  ·obtain ⟨b,o,rfl,aJ,bd,q0,q1,q2⟩:=aN.out i hlt
   have a6:(i:Int)<l.length:=by omega
   have r0:=(zb HB.out aJ).trans q0;have r1:=(zb HB.out aJ).trans q1;have r2:=(zb HB.out aJ).trans q2;have aH:=(HL.out l[i] (List.getElem_mem hlt)).1;have aj:=(HL.out l[i] (List.getElem_mem hlt)).2;have au:=Xr I f l i hlt;have aV:f l[i]=zV l[i] (yA os d ((os[(l[i]).n.toNat]?).getD ([],[]))):=by rw [HF.out];exact xm os d l[i]
   rw [aV] at au;have bi:=aT.out i (by omega)
   have a4:(y6 I f l i).length≤I.length+8*(Zc d+2)+2:=by
    unfold y6
    rw [List.length_append]
    have:(if i=0 then ([]:List UInt8) else [44,32]).length≤2:=by split <;> simp
    omega
   have Y:Hid (y6 I f l i=I++zh f (l.take i)++if i=0 then [] else [44,32]):=rfl
   obtain ⟨x,hx⟩:∃x,x=l[i]:=⟨_,rfl⟩;rw [←hx] at r0 r1 r2 aH aj au;obtain ⟨K,aO⟩:∃K,K=y6 I f l i:=⟨_,rfl⟩;rw [←aO] at au a4 Y;obtain ⟨xk,xn,xs⟩:=x;have M:Hid (I++zh f (l.take (i+1))=K++zV ⟨xk,xn,xs⟩ (yA os d ((os[xn.toNat]?).getD ([],[])))):=au;have HX:Hid (rightV ⟨xk,xn,xs⟩ os.length=true∧zq ⟨xk,xn,xs⟩):=⟨aH,aj⟩;have aD:-9223372036854775808≤xn:=aj.1.1;have aA:xn≤9223372036854775807:=aj.1.2;have aU:xs.length≤1048576:=aj.2;simp only at r0 r1 r2;obtain ⟨w1,ak⟩:∃w1,w1=wr.alloc (.cells #[.int .i64 xk,.int .i64 xn,.string (za xs)] 56):=⟨_,rfl⟩;have ai:w1.heap.size=wr.heap.size+1:=by rw [ak];simp
   have aa:Hid (Below B w w1):=by show Below _ _ _;rw [ak];exact HB.out.alloc (by omega) _
   have aI:w1.heap[wr.heap.size]?=some (.cells #[.int .i64 xk,.int .i64 xn,.string (za xs)] 56 (0,0)):=by rw [ak];exact World.alloc_heap_new _ _
   have D:Hid (zg B w1 u1 (I++zh f (l.take i))):=by show zg _ _ _ _;rw [ak];exact HO.out.alloc _
   obtain ⟨p0,p1,p2,-⟩:=zr aI;have ab:Hid (w1.heap[wr.heap.size]?=some (.cells #[.int .i64 xk,.int .i64 xn,.string (za xs)] 56 (0,0))):=aI;have bb:=ak.symm;clear q0 q1 q2 aH aj au aV hx aO ak aI aN HL
   by_cases h1:xk=1
   ·subst h1
    rw [show zV ⟨1,xn,xs⟩ (yA os d ((os[xn.toNat]?).getD ([],[])))=Lib.itoa xn from rfl] at M
    rcases Nat.eq_zero_or_pos i with T | T
    ·subst T
     simp only [Nat.zero_mul,Nat.add_zero] at r0 r1 r2;have A:Hid (zg B w1 u1 K):=by show zg _ _ _ _;rw [Y.out];simpa using D.out
     have u:Hid (Below B w w1):=aa.out;have ad:w1.heap.size=wr.heap.size+1:=ai;go_wp2_with fail
     refine (Tryz.strconv_AppendInt_10 B K.length xn aD aA u1 (Lib.byteCells K) w1 A.out.own (by have:=u.out.size;omega) (by omega) (fun W hW=>(HH.out.tabs W (u.out.trans hW)).2)).mono ?_
     rintro e G ⟨X,rfl,z,J,-⟩;have F:Hid (zg B G X (I++zh f (l.take (0+1)))):=by show zg _ _ _ _;rw [M.out];unfold zg;rw [List.length_append,Lib.byteCells_append];exact z
     have E:Hid (Below B w G):=u.out.trans J;clear z J;go_wp2
     exact ⟨⟨0+1,by omega,by go_num,F.out,E.out⟩,by simp [intOf];omega⟩
    ·have av:(0:Int)<(i:Int):=by omega
     have U:Hid (K=I++zh f (l.take i)++[44,32]):=by show _=_;rw [Y.out,if_neg (by omega)]
     go_wp2_with (at_builtin;refine zf rfl _ _ rfl B _ (I++zh f (l.take i)) rfl D.out.own [44,32] rfl (by simp only [List.length_cons,List.length_nil];omega) (by omega) ?_;intro va Z y m;have A:Hid (zg B Z va K):=(by show zg _ _ _ _;rw [U.out];exact y);have u:Hid (Below B w Z):=aa.out.grown m (by omega) (fun q hq=>D.out.lt q hq);have ad:=m.size;have V:some wr.heap.size≠u1.ownBlock:=(fun e=>by obtain ⟨aq,R⟩:=zk D.out.own e.symm;rw [ab.out] at R;simp at R);have O:=(m.block _ (by omega) V).trans ab.out;obtain ⟨ar,ap,aw,-⟩:=zr O;clear y m V)
     refine (Tryz.strconv_AppendInt_10 B K.length xn aD aA va (Lib.byteCells K) Z A.out.own (by have:=u.out.size;omega) (by omega) (fun W hW=>(HH.out.tabs W (u.out.trans hW)).2)).mono ?_
     rintro e G ⟨X,rfl,z,J,-⟩;have F:Hid (zg B G X (I++zh f (l.take (i+1)))):=by show zg _ _ _ _;rw [M.out];unfold zg;rw [List.length_append,Lib.byteCells_append];exact z
     have E:Hid (Below B w G):=u.out.trans J;clear z J;go_wp2
     exact ⟨⟨i+1,by omega,by go_num,F.out,E.out⟩,by simp [intOf];omega⟩
   have aE:(xk==1)=false:=by rw [beq_eq_false_iff_ne];exact h1
   by_cases h2:xk=2
   ·subst h2
    clear aE
    by_cases hn1:xn=1
    ·subst hn1
     rw [show zV ⟨2,1,xs⟩ (yA os d ((os[(1:Int).toNat]?).getD ([],[])))=xo true from rfl] at M
     rcases Nat.eq_zero_or_pos i with T | T
     ·subst T
      simp only [Nat.zero_mul,Nat.add_zero] at r0 r1 r2;have A:Hid (zg B w1 u1 K):=by show zg _ _ _ _;rw [Y.out];simpa using D.out
      have u:Hid (Below B w w1):=aa.out;have ad:w1.heap.size=wr.heap.size+1:=ai;go_wp2_with fail
      refine (zO B u1 K true w1 A.out.own (by have:=u.out.size;omega) (by omega)).mono ?_
      rintro e G ⟨X,rfl,z,J⟩;have F:Hid (zg B G X (I++zh f (l.take (0+1)))):=by show zg _ _ _ _;rw [M.out];exact z
      have E:Hid (Below B w G):=u.out.trans J;clear z J;go_wp2
      exact ⟨⟨0+1,by omega,by go_num,F.out,E.out⟩,by simp [intOf];omega⟩
     ·have av:(0:Int)<(i:Int):=by omega
      have U:Hid (K=I++zh f (l.take i)++[44,32]):=by show _=_;rw [Y.out,if_neg (by omega)]
      go_wp2_with (at_builtin;refine zf rfl _ _ rfl B _ (I++zh f (l.take i)) rfl D.out.own [44,32] rfl (by simp only [List.length_cons,List.length_nil];omega) (by omega) ?_;intro va Z y m;have A:Hid (zg B Z va K):=(by show zg _ _ _ _;rw [U.out];exact y);have u:Hid (Below B w Z):=aa.out.grown m (by omega) (fun q hq=>D.out.lt q hq);have ad:=m.size;have V:some wr.heap.size≠u1.ownBlock:=(fun e=>by obtain ⟨aq,R⟩:=zk D.out.own e.symm;rw [ab.out] at R;simp at R);have O:=(m.block _ (by omega) V).trans ab.out;obtain ⟨ar,ap,aw,-⟩:=zr O;clear y m V)
      refine (zO B va K true Z A.out.own (by have:=u.out.size;omega) (by omega)).mono ?_
      rintro e G ⟨X,rfl,z,J⟩;have F:Hid (zg B G X (I++zh f (l.take (i+1)))):=by show zg _ _ _ _;rw [M.out];exact z
      have E:Hid (Below B w G):=u.out.trans J;clear z J;go_wp2
      exact ⟨⟨i+1,by omega,by go_num,F.out,E.out⟩,by simp [intOf];omega⟩
    have be:(xn==1)=false:=by rw [beq_eq_false_iff_ne];exact hn1
    rw [show zV ⟨2,xn,xs⟩ (yA os d ((os[xn.toNat]?).getD ([],[])))=xo false by simp [zV,hn1,xo]] at M
    rcases Nat.eq_zero_or_pos i with T | T
    ·subst T
     simp only [Nat.zero_mul,Nat.add_zero] at r0 r1 r2;have A:Hid (zg B w1 u1 K):=by show zg _ _ _ _;rw [Y.out];simpa using D.out
     have u:Hid (Below B w w1):=aa.out;have ad:w1.heap.size=wr.heap.size+1:=ai;go_wp2_with fail
     refine (zO B u1 K false w1 A.out.own (by have:=u.out.size;omega) (by omega)).mono ?_
     rintro e G ⟨X,rfl,z,J⟩;have F:Hid (zg B G X (I++zh f (l.take (0+1)))):=by show zg _ _ _ _;rw [M.out];exact z
     have E:Hid (Below B w G):=u.out.trans J;clear z J;go_wp2
     exact ⟨⟨0+1,by omega,by go_num,F.out,E.out⟩,by simp [intOf];omega⟩
    ·have av:(0:Int)<(i:Int):=by omega
     have U:Hid (K=I++zh f (l.take i)++[44,32]):=by show _=_;rw [Y.out,if_neg (by omega)]
     go_wp2_with (at_builtin;refine zf rfl _ _ rfl B _ (I++zh f (l.take i)) rfl D.out.own [44,32] rfl (by simp only [List.length_cons,List.length_nil];omega) (by omega) ?_;intro va Z y m;have A:Hid (zg B Z va K):=(by show zg _ _ _ _;rw [U.out];exact y);have u:Hid (Below B w Z):=aa.out.grown m (by omega) (fun q hq=>D.out.lt q hq);have ad:=m.size;have V:some wr.heap.size≠u1.ownBlock:=(fun e=>by obtain ⟨aq,R⟩:=zk D.out.own e.symm;rw [ab.out] at R;simp at R);have O:=(m.block _ (by omega) V).trans ab.out;obtain ⟨ar,ap,aw,-⟩:=zr O;clear y m V)
     refine (zO B va K false Z A.out.own (by have:=u.out.size;omega) (by omega)).mono ?_
     rintro e G ⟨X,rfl,z,J⟩;have F:Hid (zg B G X (I++zh f (l.take (i+1)))):=by show zg _ _ _ _;rw [M.out];exact z
     have E:Hid (Below B w G):=u.out.trans J;clear z J;go_wp2
     exact ⟨⟨i+1,by omega,by go_num,F.out,E.out⟩,by simp [intOf];omega⟩
   have aP:(xk==2)=false:=by rw [beq_eq_false_iff_ne];exact h2
   by_cases h3:xk=3
   ·subst h3
    clear aE aP;rw [show zV ⟨3,xn,xs⟩ (yA os d ((os[xn.toNat]?).getD ([],[])))=(Xj 3 0 xs).1 from rfl] at M
    have bs:(Xj 3 0 xs).1.length≤3000000:=by
     have:=yZ (v:=⟨3,0,xs⟩) (r:=[]) (N:=3000000) ⟨⟨by simp,by simp⟩,aU⟩ (by simp) (Nat.le_refl _)
     simpa [zV] using this
    rcases Nat.eq_zero_or_pos i with T | T
    ·subst T
     simp only [Nat.zero_mul,Nat.add_zero] at r0 r1 r2;have A:Hid (zg B w1 u1 K):=by show zg _ _ _ _;rw [Y.out];simpa using D.out
     have u:Hid (Below B w w1):=aa.out;have ad:w1.heap.size=wr.heap.size+1:=ai;go_wp2_with fail
     refine (Z4 3 0 0 0 xs w1 (by omega) (by omega) (by omega) (HH.out.tabs _ u.out)).mono ?_
     rintro e w4 ⟨rfl,af⟩;have an:Hid (zg B w4 u1 K):=A.out.kept af (Nat.le_refl _);have am:Hid (Below B w w4):=u.out.trans (af.mono (by have:=u.out.size;omega))
     have a8:=am.out.size;clear af
     go_wp2_with (at_builtin;refine zf rfl _ _ rfl B _ K rfl an.out.own (Xj 3 0 xs).1 rfl (by omega) (by omega) ?_;intro X G z ag)
     have E:Hid (Below B w G):=am.out.grown ag (by omega) (fun q hq=>an.out.lt q hq)
     have F:Hid (zg B G X (I++zh f (l.take (0+1)))):=by show zg _ _ _ _;rw [M.out];exact z
     exact ⟨⟨0+1,by omega,by go_num,F.out,E.out⟩,by simp [intOf];omega⟩
    ·have av:(0:Int)<(i:Int):=by omega
     have U:Hid (K=I++zh f (l.take i)++[44,32]):=by show _=_;rw [Y.out,if_neg (by omega)]
     go_wp2_with (at_builtin;refine zf rfl _ _ rfl B _ (I++zh f (l.take i)) rfl D.out.own [44,32] rfl (by simp only [List.length_cons,List.length_nil];omega) (by omega) ?_;intro va Z y m;have A:Hid (zg B Z va K):=(by show zg _ _ _ _;rw [U.out];exact y);have u:Hid (Below B w Z):=aa.out.grown m (by omega) (fun q hq=>D.out.lt q hq);have ad:=m.size;have V:some wr.heap.size≠u1.ownBlock:=(fun e=>by obtain ⟨aq,R⟩:=zk D.out.own e.symm;rw [ab.out] at R;simp at R);have O:=(m.block _ (by omega) V).trans ab.out;obtain ⟨ar,ap,aw,-⟩:=zr O;clear y m V)
     refine (Z4 3 0 0 0 xs Z (by omega) (by omega) (by omega) (HH.out.tabs _ u.out)).mono ?_
     rintro e w4 ⟨rfl,af⟩;have an:Hid (zg B w4 va K):=A.out.kept af (Nat.le_refl _);have am:Hid (Below B w w4):=u.out.trans (af.mono (by have:=u.out.size;omega))
     have a8:=am.out.size;clear af
     go_wp2_with (at_builtin;refine zf rfl _ _ rfl B _ K rfl an.out.own (Xj 3 0 xs).1 rfl (by omega) (by omega) ?_;intro X G z ag)
     have E:Hid (Below B w G):=am.out.grown ag (by omega) (fun q hq=>an.out.lt q hq)
     have F:Hid (zg B G X (I++zh f (l.take (i+1)))):=by show zg _ _ _ _;rw [M.out];exact z
     exact ⟨⟨i+1,by omega,by go_num,F.out,E.out⟩,by simp [intOf];omega⟩
   have a9:(xk==3)=false:=by rw [beq_eq_false_iff_ne];exact h3
   by_cases h4:xk=4
   ·subst h4
    clear aE aP a9;obtain ⟨j,hj,aS⟩:∃j:Nat,j<os.length∧(⟨4,xn,xs⟩:Vl)=⟨4,j,[]⟩:=Ve (by unfold XZ;rw [HX.out.1];rfl)
    simp only [Vl.mk.injEq,true_and] at aS;obtain ⟨aZ,-⟩:=aS;have a3:xn.toNat=j:=by omega
    have bp:0≤xn:=by omega
    have bl:xn<(os.length:Int):=by omega
    rw [show zV ⟨4,xn,xs⟩ (yA os d ((os[xn.toNat]?).getD ([],[])))=yA os d os[j] by simp [zV,a3,hj]] at M
    clear aZ;obtain ⟨g,oc,aY,-,hg,bq,ae⟩:=v8 HH.out.hp.objs (by omega)
    have aB:oc≤maxLen:=by obtain ⟨b9,bt,ao,-,aB⟩:=Zm HH.out.hp.objs;rw [aY] at ao;simp only [Value.slice.injEq] at ao;rw [ao.2.2];exact aB
    subst aY;have al:g<B:=HH.out.hp.so g rfl;have aW:h<B:=HH.out.hp.sh;obtain ⟨-,-,aX,-,-⟩:=Zt HH.out.hp.blk;obtain ⟨a0,a1,a2⟩:=vJ 0 os j hj;have e0:=ae _ _ a0;have e1:=ae _ _ a1;have e2:=ae _ _ a2;rw [Nat.zero_add] at e1 e2;have bm:(j:Int)<os.length:=by omega
    have ax:∃(tg:List UInt8) (fr up:Int),yy os j hj=.agg #[.string (za tg),.int .i64 fr,.int .i64 up]∧w.cell? ⟨g,j*3,none⟩=some (.string (za tg))∧w.cell? ⟨g,j*3+1,none⟩=some (.int .i64 fr)∧w.cell? ⟨g,j*3+2,none⟩=some (.int .i64 up):=⟨_,_,_,rfl,e0,e1,e2⟩;obtain ⟨tg,fr,up,ax,e0,e1,e2⟩:=ax
    have cO:∀W va,Below B w W→zg B W va K→Calls Tryz.prog 56 #[.pointer (some ⟨h,0,none⟩),va,.int .i64 (d:Int),.agg #[.string (za tg),.int .i64 fr,.int .i64 up]] W fun e G=>∃X,e=.returned X∧Hid (zg B G X (I++zh f (l.take (i+1))))∧Hid (Below B w G):=fun W va hW ho=>by
     have c:=a5.out B W ay os h _ _ (HH.out.on hW) j hj K va ho.own (by omega)
     rw [ax] at c;refine c.mono ?_;rintro e G ⟨X,rfl,z,J⟩;exact ⟨X,rfl,by show zg _ _ _ _;rw [M.out];exact z,hW.trans J⟩
    clear a0 a1 a2 ae ax HX;rcases Nat.eq_zero_or_pos i with T | T
    ·subst T
     simp only [Nat.zero_mul,Nat.add_zero] at r0 r1 r2;have A:Hid (zg B w1 u1 K):=by show zg _ _ _ _;rw [Y.out];simpa using D.out
     have u:Hid (Below B w w1):=aa.out;have ad:w1.heap.size=wr.heap.size+1:=ai;go_wp2_with fail
     have t2:=(zb u.out aW).trans aX;have t3:=(zb u.out al).trans e0;have t4:=(zb u.out al).trans e1;have t5:=(zb u.out al).trans e2;have aF:∀W,Below w1.heap.size w1 W→Calls Tryz.prog 56 #[.pointer (some ⟨h,0,none⟩),u1,.int .i64 (d:Int),.agg #[.string (za tg),.int .i64 fr,.int .i64 up]] W fun e G=>∃X,e=.returned X∧Hid (zg B G X (I++zh f (l.take (0+1))))∧Hid (Below B w G):=fun W hW=>cO W u1 (u.out.trans (hW.mono (by have:=u.out.size;omega))) (A.out.kept hW (Nat.le_refl _))
     have aL:Below w1.heap.size w1 w1.drew:=(Below.refl _ _).drew;clear cO
     go_region_with (go_at_call 56;refine (aF _ aL).mono ?_;rintro e G ⟨X,rfl,F,E⟩)
     all_goals
      go_wp2
      exact ⟨⟨0+1,by omega,by go_num,F.out,E.out⟩,by simp [intOf];omega⟩
    ·have av:(0:Int)<(i:Int):=by omega
     have U:Hid (K=I++zh f (l.take i)++[44,32]):=by show _=_;rw [Y.out,if_neg (by omega)]
     go_wp2_with (at_builtin;refine zf rfl _ _ rfl B _ (I++zh f (l.take i)) rfl D.out.own [44,32] rfl (by simp only [List.length_cons,List.length_nil];omega) (by omega) ?_;intro va Z y m;have A:Hid (zg B Z va K):=(by show zg _ _ _ _;rw [U.out];exact y);have u:Hid (Below B w Z):=aa.out.grown m (by omega) (fun q hq=>D.out.lt q hq);have ad:=m.size;have V:some wr.heap.size≠u1.ownBlock:=(fun e=>by obtain ⟨aq,R⟩:=zk D.out.own e.symm;rw [ab.out] at R;simp at R);have O:=(m.block _ (by omega) V).trans ab.out;obtain ⟨ar,ap,aw,-⟩:=zr O;clear y m V)
     have t2:=(zb u.out aW).trans aX;have t3:=(zb u.out al).trans e0;have t4:=(zb u.out al).trans e1;have t5:=(zb u.out al).trans e2;have aF:∀W,Below Z.heap.size Z W→Calls Tryz.prog 56 #[.pointer (some ⟨h,0,none⟩),va,.int .i64 (d:Int),.agg #[.string (za tg),.int .i64 fr,.int .i64 up]] W fun e G=>∃X,e=.returned X∧Hid (zg B G X (I++zh f (l.take (i+1))))∧Hid (Below B w G):=fun W hW=>cO W va (u.out.trans (hW.mono (by have:=u.out.size;omega))) (A.out.kept hW (Nat.le_refl _))
     have aL:Below Z.heap.size Z Z.drew:=(Below.refl _ _).drew;clear cO
     go_region_with (go_at_call 56;refine (aF _ aL).mono ?_;rintro e G ⟨X,rfl,F,E⟩)
     all_goals
      go_wp2
      exact ⟨⟨i+1,by omega,by go_num,F.out,E.out⟩,by simp [intOf];omega⟩
   have bn:(xk==4)=false:=by rw [beq_eq_false_iff_ne];exact h4
   rw [show zV ⟨xk,xn,xs⟩ (yA os d ((os[xn.toNat]?).getD ([],[])))=Yj by simp [zV,h1,h2,h3,h4]] at M
   rcases Nat.eq_zero_or_pos i with T | T
   ·subst T
    simp only [Nat.zero_mul,Nat.add_zero] at r0 r1 r2;have A:Hid (zg B w1 u1 K):=by show zg _ _ _ _;rw [Y.out];simpa using D.out
    have u:Hid (Below B w w1):=aa.out;have ad:w1.heap.size=wr.heap.size+1:=ai
    go_wp2_with (at_builtin;refine zf rfl _ _ rfl B _ K rfl A.out.own Yj rfl (by simp [Yj];omega) (by have:=u.out.size;omega) ?_;intro X G z ag)
    have E:Hid (Below B w G):=u.out.grown ag (by have:=u.out.size;omega) (fun q hq=>A.out.lt q hq)
    have F:Hid (zg B G X (I++zh f (l.take (0+1)))):=by show zg _ _ _ _;rw [M.out];exact z
    exact ⟨⟨0+1,by omega,by go_num,F.out,E.out⟩,by simp [intOf];omega⟩
   ·have av:(0:Int)<(i:Int):=by omega
    have U:Hid (K=I++zh f (l.take i)++[44,32]):=by show _=_;rw [Y.out,if_neg (by omega)]
    go_wp2_with (first | (at_builtin;refine zf rfl _ _ rfl B _ (I++zh f (l.take i)) rfl D.out.own [44,32] rfl (by simp only [List.length_cons,List.length_nil];omega) (by omega) ?_;intro va Z y m;have A:Hid (zg B Z va K):=(by show zg _ _ _ _;rw [U.out];exact y);have u:Hid (Below B w Z):=aa.out.grown m (by omega) (fun q hq=>D.out.lt q hq);have ad:=m.size;have V:some wr.heap.size≠u1.ownBlock:=(fun e=>by obtain ⟨aq,R⟩:=zk D.out.own e.symm;rw [ab.out] at R;simp at R);have O:=(m.block _ (by omega) V).trans ab.out;obtain ⟨ar,ap,aw,-⟩:=zr O;clear y m V) | (at_builtin;refine zf rfl _ _ rfl B _ K rfl A.out.own Yj rfl (by simp [Yj];omega) (by have:=u.out.size;omega) ?_;intro X G z ag))
    have E:Hid (Below B w G):=u.out.grown ag (by have:=u.out.size;omega) (fun q hq=>A.out.lt q hq)
    have F:Hid (zg B G X (I++zh f (l.take (i+1)))):=by show zg _ _ _ _;rw [M.out];exact z
    exact ⟨⟨i+1,by omega,by go_num,F.out,E.out⟩,by simp [intOf];omega⟩
  ·obtain rfl:i=l.length:=by omega
   have a6:¬ (l.length:Int)<l.length:=by omega
   have ba:Hid (zg B wr u1 (I++zh f l)):=by
    have:=HO.out
    rwa [List.take_length] at this
   go_wp2
   go_ret
   exact ⟨u1,rfl,ba.out,HB.out⟩
end Go.Proofs.YtbjndgachcdbcaaGreatDoor
