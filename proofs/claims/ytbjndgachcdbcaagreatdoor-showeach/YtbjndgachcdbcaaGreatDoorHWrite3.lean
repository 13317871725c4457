import Derived.Test.YtbjndgachcdbcaaGreatDoorHWrite2
namespace Go.Proofs.YtbjndgachcdbcaaGreatDoor
open Go.RowKit Go.Shelf
set_option maxHeartbeats 16000000
set_option maxRecDepth 100000
theorem Xs:∀(l:List Vl) (a:Nat),vlC (l.drop a)=(vlC l).drop (a*3)
 | [],a=>by simp [vlC]
 | v::l,0=>by simp
 | v::l,a+1=>by
  have e:vlC (v::l)=Y1 v++vlC l:=rfl;rw [List.drop_succ_cons,Xs l a,e,show (a+1)*3=3+a*3 by omega,←List.drop_drop]
  rfl
theorem Xt:∀(l:List Vl) (a:Nat),vlC (l.take a)=(vlC l).take (a*3)
 | [],a=>by simp [vlC]
 | v::l,0=>by simp [vlC]
 | v::l,a+1=>by
  have e:vlC (v::l)=Y1 v++vlC l:=rfl;have b:vlC ((v::l).take (a+1))=Y1 v++vlC (l.take a):=rfl;rw [b,e,Xt l a,List.take_append,show (a+1)*3-(Y1 v).length=a*3 by simp [Y1];omega,List.take_of_length_le (l:=Y1 v) (by simp [Y1];omega)]
theorem X2 {S:Nat→Prop} {w:World} {most:Nat} {os:List Ob} {h:Nat} {vo vc:Value} (H:zw S w most os h vo vc) (j:Nat) (hj:j<os.length) {base:Option Addr} (hb:1≤(os[j]).2.length→∃g n y,vc=.slice (some ⟨g,0,none⟩) n y∧base=some ⟨g,fromO os j*3,none⟩) (m:Nat) (hm:m≤(os[j]).2.length) (hl:(os[j]).2.length≤maxLen) :
  zp S w (.slice base m (os[j]).2.length) ((os[j]).2.take m):=by
 obtain ⟨D,z⟩:=ZL os j hj;have b:((os[j]).2.take m).length=m:=by rw [List.length_take];omega
 refine ⟨base,_,by rw [b],by rw [b];exact hm,hl,?_⟩
 rcases Nat.eq_zero_or_pos m with c | c
 ·left;subst c;rfl
 ·obtain ⟨g,n,y,e,rfl⟩:=hb (by omega)
  have o:=(H.cells.lt g (by rw [e];rfl)).2
  refine .inr ⟨g,fromO os j*3,rfl,H.sc g (by rw [e];rfl),o,fun q u hq=>?_⟩
  have B:=H.cells.cells (g:=g) (by rw [e];rfl) (fromO os j*3+q) u (by
   rw [←z,List.take_take,Xt,Xs,List.getElem?_take] at hq
   split at hq
   ·rw [List.getElem?_drop] at hq;exact hq
   ·cases hq)
  have A:(⟨g,0,none⟩:Addr).add (fromO os j*3+q)=⟨g,fromO os j*3+q,none⟩:=by
   unfold Addr.add
   split
   ·rename_i c;congr 1;omega
   ·congr 1;simp
  rwa [A] at B
theorem VX (d:Nat) (hd:d≤2) (hW:Yz d):vM (d+1):=by
 intro B w V os h vo vc H j hj b bv ai hl;have hB:=H.le;have aX:=xL d;have aC:Zc (d+1)=10*Zc d+3000000:=rfl;rw [aC] at hl;have aQ:b.length+10*Zc d≤99997000000:=by omega
 clear hl aC;have aa:=H.hp.ok _ (List.getElem_mem hj);have ax:=H.hp.use;have aE:=H.hp.may;obtain ⟨hcut,-⟩:=ZL os j hj;have aF:(os[j]).2.length≤maxLen:=by unfold maxLen;omega
 have aN:(os[j]).1.length≤1048576:=aa.2.1;have aK:Hid (zg B w bv b):=ai;have HH:Hid (Xq B w V os h vo vc):=H
 have cc:∀W,Below B w W→Calls Tryz.prog 70 #[.pointer (some ⟨h,0,none⟩),yy os j hj] W fun e T=>∃base,e=.returned (.slice base (os[j]).2.length (os[j]).2.length)∧Below W.heap.size W T∧Hid (zp (fun k=>k<B) T (.slice base (min (os[j]).2.length 8) (os[j]).2.length) ((os[j]).2.take 8)):=fun W hW=>by
  refine (Xn j hj W (HH.out.on hW).hp).mono ?_;rintro e T ⟨base,rfl,y,au⟩;refine ⟨base,rfl,y,?_⟩
  have:=X2 ((HH.out.on hW).hp.below y) j hj au (min (os[j]).2.length 8) (by omega) aF
  show zp _ _ _ _
  have e9:(os[j]).2.take (min (os[j]).2.length 8)=(os[j]).2.take 8:=by
   rcases Nat.le_total (os[j]).2.length 8 with h8 | h8
   ·rw [Nat.min_eq_left h8,List.take_of_length_le (Nat.le_refl _),List.take_of_length_le h8]
   ·rw [Nat.min_eq_right h8]
  rwa [e9] at this
 have aj:Hid (∀v∈(os[j]).2.take 8,rightV v os.length=true∧zq v):=fun v hv=>by
  have av:=List.mem_of_mem_take hv;have h1:=aa.1
  unfold XX at h1
  rw [Bool.and_eq_true,List.all_eq_true] at h1
  have:=h1.1 v av
  unfold ZZ at this
  rw [Bool.and_eq_true] at this;exact ⟨this.2,aa.2.2 v av⟩
 have ah:Hid (((os[j]).2.take 8).length≤8):=by show _≤_;rw [List.length_take];omega
 have an:Hid ((zh (zH os d) ((os[j]).2.take 8)).length≤8*(Zc d+2)):=by
  have h1:=y5 (f:=zH os d) (N:=Zc d) ((os[j]).2.take 8) fun v hv=>yL (fun o ho=>(H.hp.ok o ho).2) d v (aa.2.2 v (List.mem_of_mem_take hv))
  have h3:((os[j]).2.take 8).length*(Zc d+2)≤8*(Zc d+2):=Nat.mul_le_mul_right _ ah.out;show _≤_
  omega
 have c:Hid (yA os (d+1) os[j]=(if (os[j]).1=[] then [91] else (os[j]).1++[40])++zh (zH os d) ((os[j]).2.take 8)++(if 8<(os[j]).2.length then [44,32,46,46,46] else [])++(if (os[j]).1=[] then [93] else [41])):=rfl
 obtain ⟨R,hR⟩:∃R,R=yA os (d+1) os[j]:=⟨_,rfl⟩;rw [←hR] at c ⊢;obtain ⟨u,af⟩:∃u,u=(os[j]).1:=⟨_,rfl⟩;obtain ⟨n,hn⟩:∃n,n=(os[j]).2.length:=⟨_,rfl⟩;obtain ⟨D,ag⟩:∃D,D=(os[j]).2.take 8:=⟨_,rfl⟩;obtain ⟨fr,up,ay⟩:∃fr up:Int,yy os j hj=.agg #[.string (za u),.int .i64 fr,.int .i64 up]:=⟨_,_,by rw [af]⟩
 rw [ay] at cc ⊢;rw [←af,←hn,←ag] at c;rw [←ag] at aj ah an;rw [←af] at aN;rw [←hn] at aF hcut;simp only [←hn,←ag] at cc;have aA:Hid (Yz d):=hW;obtain ⟨w1,J⟩:∃w1,w1=w.alloc (.cells #[.string (za u),.int .i64 fr,.int .i64 up] 92):=⟨_,rfl⟩;have aW:w1.heap.size=w.heap.size+1:=by rw [J];simp
 have aB:Hid (Below B w w1):=by show Below _ _ _;rw [J];exact (Below.refl _ _).alloc hB _
 have aq:w1.heap[w.heap.size]?=some (.cells #[.string (za u),.int .i64 fr,.int .i64 up] 92 (0,0)):=by rw [J];exact World.alloc_heap_new _ _
 have Z:Hid (zg B w1 bv b):=by show zg _ _ _ _;rw [J];exact aK.out.alloc _
 have ao:Hid (w1.heap[w.heap.size]?=some (.cells #[.string (za u),.int .i64 fr,.int .i64 up] 92 (0,0))):=aq
 have az:Hid (some w.heap.size≠bv.ownBlock):=fun e=>by
  obtain ⟨aZ,aD⟩:=zk Z.out.own e.symm;rw [ao.out] at aD
  simp at aD
 obtain ⟨p0,p1,p2,-⟩:=zr aq;have aO:=J.symm;have aS:((d:Int)+1==0)=false:=by rw [beq_eq_false_iff_ne];omega
 have aU:wrap64 (d:Int)=d:=by unfold wrap64;omega
 obtain ⟨m,hm⟩:∃m,m=min n 8:=⟨_,rfl⟩;have aP:min (n:Int) 8=(m:Int):=by omega
 have aV:m≤n:=by omega
 simp only [←hm] at cc
 have aw:∀(W:World) (base:Option Addr),(Instr.slice 47 (.slice base n n) none (some (.int .i64 (m:Int))) none).run Tryz.prog W=.ok (.slice base m n) W:=fun W base=>by
  rw [run_slice_h (P:=Tryz.prog) (w:=W) 47 base n n Tryz.underlying47 .i64 _ (by omega) (by omega)]
  cases base <;> simp [sliced,go_sem,Addr.add]
 clear J aq ai H hW aa hcut ax aE af hn ag ay hR hm
 by_cases ht0:u=[]
 ·subst ht0
  simp only [if_true] at c
  go_enter Tryz.func56,Tryz.ntmps56
  go_wp2_with (at_builtin;refine zf rfl _ _ rfl B _ b rfl Z.out.own [91] rfl (by simp only [List.length_cons,List.length_nil];omega) (by omega) ?_;intro v2 w2 M A;have ar:Hid (zg B w2 v2 (b++[91])):=M;have ad:Hid (Below B w w2):=aB.out.grown A (by omega) (fun q hq=>Z.out.lt q hq);have aH:=A.size;obtain ⟨t0,t1,t2,-⟩:=zr ((A.block _ (by omega) az.out).trans ao.out);clear M A)
  have U:=cc w2 ad.out;clear cc;refine U.mono ?_;clear U;rintro e T ⟨base,rfl,y,al⟩;have ak:Hid (zg B T v2 (b++[91])):=ar.out.kept y (Nat.le_refl _);have O:Hid (Below B w T):=ad.out.trans (y.mono (by omega))
  have aI:=y.size;have cw:=aA.out B T V os h vo vc (HH.out.on O.out) D _ (b++[91]) v2 al.out aj.out ah.out ak.out.own (by simp only [List.length_append,List.length_cons,List.length_nil];omega)
  have ae:=aw;clear y;go_wp2_with fail
  refine cw.mono ?_;clear cw ae;rintro e w4 ⟨v4,rfl,X,E⟩;have z:Hid (zg B w4 v4 (b++[91]++zh (zH os d) D)):=X;have K:Hid (Below B w w4):=O.out.trans E;have aL:=E.size;have aJ:=an.out;clear X E
  by_cases h8:8<n
  ·have am:(8:Int)<(n:Int):=by omega
   have HR:Hid (b++R=b++[91]++zh (zH os d) D++[44,32,46,46,46]++[93]):=by show _=_;rw [c.out,if_pos h8];simp
   go_wp2_with (first | (at_builtin;refine zf rfl _ _ rfl B _ (b++[91]++zh (zH os d) D++[44,32,46,46,46]) rfl ab.out.own [93] rfl (by simp only [List.length_append,List.length_cons,List.length_nil];omega) (by omega) ?_;intro v6 w6 I F) | (at_builtin;refine zf rfl _ _ rfl B _ (b++[91]++zh (zH os d) D) rfl z.out.own [44,32,46,46,46] rfl (by simp only [List.length_append,List.length_cons,List.length_nil];omega) (by omega) ?_;intro v5 w5 Y G;have ab:Hid (zg B w5 v5 (b++[91]++zh (zH os d) D++[44,32,46,46,46])):=Y;have ap:Hid (Below B w w5):=K.out.grown G (by omega) (fun q hq=>z.out.lt q hq);have aM:=G.size;clear Y G))
   go_ret
   refine ⟨v6,rfl,?_,ap.out.grown F (by omega) (fun q hq=>ab.out.lt q hq)⟩
   rw [HR.out];exact I
  ·have am:¬ (8:Int)<(n:Int):=by omega
   have HR:Hid (b++R=b++[91]++zh (zH os d) D++[93]):=by show _=_;rw [c.out,if_neg h8];simp
   go_wp2_with (at_builtin;refine zf rfl _ _ rfl B _ (b++[91]++zh (zH os d) D) rfl z.out.own [93] rfl (by simp only [List.length_append,List.length_cons,List.length_nil];omega) (by omega) ?_;intro v6 w6 I F)
   go_ret
   refine ⟨v6,rfl,?_,K.out.grown F (by omega) (fun q hq=>z.out.lt q hq)⟩
   rw [HR.out];exact I
 ·simp only [if_neg ht0] at c
  have aG:za u++⟨#[40]⟩=za (u++[40]):=by show za u++za [40]=_;apply ByteArray.ext;simp [za]
  have aY:(za u).size=u.length:=rfl;have aR:(za u++⟨#[40]⟩).size=u.length+1:=by rw [aG,zs,List.length_append];rfl
  have aT:(u==[])=false:=by rw [beq_eq_false_iff_ne];exact ht0
  go_enter Tryz.func56,Tryz.ntmps56
  go_wp2_with (at_builtin;refine zf rfl _ _ rfl B _ b rfl Z.out.own (u++[40]) rfl (by simp only [List.length_append,List.length_cons,List.length_nil];omega) (by omega) ?_;intro v2 w2 M A;have ar:Hid (zg B w2 v2 (b++(u++[40]))):=M;have ad:Hid (Below B w w2):=aB.out.grown A (by omega) (fun q hq=>Z.out.lt q hq);have aH:=A.size;obtain ⟨t0,t1,t2,-⟩:=zr ((A.block _ (by omega) az.out).trans ao.out);clear M A)
  have U:=cc w2 ad.out;clear cc;refine U.mono ?_;clear U;rintro e T ⟨base,rfl,y,al⟩;have ak:Hid (zg B T v2 (b++(u++[40]))):=ar.out.kept y (Nat.le_refl _);have O:Hid (Below B w T):=ad.out.trans (y.mono (by omega))
  have aI:=y.size;have cw:=aA.out B T V os h vo vc (HH.out.on O.out) D _ (b++(u++[40])) v2 al.out aj.out ah.out ak.out.own (by simp only [List.length_append,List.length_cons,List.length_nil];omega)
  have ae:=aw;clear y;go_wp2_with fail
  refine cw.mono ?_;clear cw ae;rintro e w4 ⟨v4,rfl,X,E⟩;have z:Hid (zg B w4 v4 (b++(u++[40])++zh (zH os d) D)):=X;have K:Hid (Below B w w4):=O.out.trans E;have aL:=E.size;have aJ:=an.out;clear X E
  by_cases h8:8<n
  ·have am:(8:Int)<(n:Int):=by omega
   have HR:Hid (b++R=b++(u++[40])++zh (zH os d) D++[44,32,46,46,46]++[41]):=by show _=_;rw [c.out,if_pos h8];simp
   go_wp2_with (first | (at_builtin;refine zf rfl _ _ rfl B _ (b++(u++[40])++zh (zH os d) D++[44,32,46,46,46]) rfl ab.out.own [41] rfl (by simp only [List.length_append,List.length_cons,List.length_nil];omega) (by omega) ?_;intro v6 w6 I F) | (at_builtin;refine zf rfl _ _ rfl B _ (b++(u++[40])++zh (zH os d) D) rfl z.out.own [44,32,46,46,46] rfl (by simp only [List.length_append,List.length_cons,List.length_nil];omega) (by omega) ?_;intro v5 w5 Y G;have ab:Hid (zg B w5 v5 (b++(u++[40])++zh (zH os d) D++[44,32,46,46,46])):=Y;have ap:Hid (Below B w w5):=K.out.grown G (by omega) (fun q hq=>z.out.lt q hq);have aM:=G.size;clear Y G))
   go_ret
   refine ⟨v6,rfl,?_,ap.out.grown F (by omega) (fun q hq=>ab.out.lt q hq)⟩
   rw [HR.out];exact I
  ·have am:¬ (8:Int)<(n:Int):=by omega
   have HR:Hid (b++R=b++(u++[40])++zh (zH os d) D++[41]):=by show _=_;rw [c.out,if_neg h8];simp
   go_wp2_with (at_builtin;refine zf rfl _ _ rfl B _ (b++(u++[40])++zh (zH os d) D) rfl z.out.own [41] rfl (by simp only [List.length_append,List.length_cons,List.length_nil];omega) (by omega) ?_;intro v6 w6 I F)
   go_ret
   refine ⟨v6,rfl,?_,K.out.grown F (by omega) (fun q hq=>z.out.lt q hq)⟩
   rw [HR.out];exact I
end Go.Proofs.YtbjndgachcdbcaaGreatDoor
