import Derived.Test.YtbjndgachcdbcaaGreatDoorHWrite2
namespace Go.Proofs.YtbjndgachcdbcaaGreatDoor
open Go.RowKit Go.Shelf
set_option maxHeartbeats 16000000
set_option maxRecDepth 100000
theorem Xl:∀(l:List Vl) (a:Nat),vlC (l.drop a)=(vlC l).drop (a*3)
 | [],a=>by simp [vlC]
 | v::l,0=>by simp
 | v::l,a+1=>by
  have e:vlC (v::l)=YY v++vlC l:=rfl;rw [List.drop_succ_cons,Xl l a,e,show (a+1)*3=3+a*3 by omega,←List.drop_drop]
  rfl
theorem Xm:∀(l:List Vl) (a:Nat),vlC (l.take a)=(vlC l).take (a*3)
 | [],a=>by simp [vlC]
 | v::l,0=>by simp [vlC]
 | v::l,a+1=>by
  have e:vlC (v::l)=YY v++vlC l:=rfl;have b:vlC ((v::l).take (a+1))=YY v++vlC (l.take a):=rfl;rw [b,e,Xm l a,List.take_append,show (a+1)*3-(YY v).length=a*3 by simp [YY];omega,List.take_of_length_le (l:=YY v) (by simp [YY];omega)]
theorem XV {S:Nat→Prop} {w:World} {most:Nat} {os:List Ob} {h:Nat} {vo vc:Value} (H:zx S w most os h vo vc) (j:Nat) (hj:j<os.length) {base:Option Addr} (hb:1≤(os[j]).2.length→∃g n y,vc=.slice (some ⟨g,0,none⟩) n y∧base=some ⟨g,fromO os j*3,none⟩) (m:Nat) (hm:m≤(os[j]).2.length) (hl:(os[j]).2.length≤maxLen) :
  zp S w (.slice base m (os[j]).2.length) ((os[j]).2.take m):=by
 obtain ⟨D,z⟩:=ZO os j hj;have b:((os[j]).2.take m).length=m:=by rw [List.length_take];omega
 refine ⟨base,_,by rw [b],by rw [b];exact hm,hl,?_⟩
 rcases Nat.eq_zero_or_pos m with o | o
 ·left;subst o;rfl
 ·obtain ⟨g,n,y,c,rfl⟩:=hb (by omega)
  have e:=(H.cells.lt g (by rw [c];rfl)).2
  refine .inr ⟨g,fromO os j*3,rfl,H.sc g (by rw [c];rfl),e,fun q u hq=>?_⟩
  have A:=H.cells.cells (g:=g) (by rw [c];rfl) (fromO os j*3+q) u (by
   rw [←z,List.take_take,Xm,Xl,List.getElem?_take] at hq
   split at hq
   ·rw [List.getElem?_drop] at hq;exact hq
   ·cases hq)
  have B:(⟨g,0,none⟩:Addr).add (fromO os j*3+q)=⟨g,fromO os j*3+q,none⟩:=by
   unfold Addr.add
   split
   ·rename_i o;congr 1;omega
   ·congr 1;simp
  rwa [B] at A
theorem VO (d:Nat) (hd:d≤2) (hW:Yz d):vF (d+1):=by
 intro B w ad os h vo vc H j hj b bv ah hl;have hB:=H.le;have aY:=xF d;have aw:Zf (d+1)=10*Zf d+3000000:=rfl;rw [aw] at hl;have aQ:b.length+10*Zf d≤99997000000:=by omega
 clear hl aw;have Y:=H.hp.ok _ (List.getElem_mem hj);have ax:=H.hp.use;have aC:=H.hp.may;obtain ⟨hcut,-⟩:=ZO os j hj;have aA:(os[j]).2.length≤maxLen:=by unfold maxLen;omega
 have aL:(os[j]).1.length≤1048576:=Y.2.1;have aM:Hid (zf B w bv b):=ah;have HH:Hid (Xj B w ad os h vo vc):=H
 have cc:∀W,Below B w W→Calls Tryz.prog 70 #[.pointer (some ⟨h,0,none⟩),yu os j hj] W fun e w3=>∃base,e=.returned (.slice base (os[j]).2.length (os[j]).2.length)∧Below W.heap.size W w3∧Hid (zp (fun k=>k<B) w3 (.slice base (min (os[j]).2.length 8) (os[j]).2.length) ((os[j]).2.take 8)):=fun W hW=>by
  refine (Xg j hj W (HH.out.on hW).hp).mono ?_;rintro e w3 ⟨base,rfl,y,ar⟩;refine ⟨base,rfl,y,?_⟩
  have:=XV ((HH.out.on hW).hp.below y) j hj ar (min (os[j]).2.length 8) (by omega) aA
  show zp _ _ _ _
  have e9:(os[j]).2.take (min (os[j]).2.length 8)=(os[j]).2.take 8:=by
   rcases Nat.le_total (os[j]).2.length 8 with h8 | h8
   ·rw [Nat.min_eq_left h8,List.take_of_length_le (Nat.le_refl _),List.take_of_length_le h8]
   ·rw [Nat.min_eq_right h8]
  rwa [e9] at this
 have al:Hid (∀v∈(os[j]).2.take 8,rightV v os.length=true∧zq v):=fun v hv=>by
  have ay:=List.mem_of_mem_take hv;have h1:=Y.1
  unfold XQ at h1
  rw [Bool.and_eq_true,List.all_eq_true] at h1
  have:=h1.1 v ay
  unfold ZZ at this
  rw [Bool.and_eq_true] at this;exact ⟨this.2,Y.2.2 v ay⟩
 have af:Hid (((os[j]).2.take 8).length≤8):=by show _≤_;rw [List.length_take];omega
 have aq:Hid ((zg (zJ os d) ((os[j]).2.take 8)).length≤8*(Zf d+2)):=by
  have h1:=yZ (f:=zJ os d) (N:=Zf d) ((os[j]).2.take 8) fun v hv=>yL (fun o ho=>(H.hp.ok o ho).2) d v (Y.2.2 v (List.mem_of_mem_take hv))
  have h3:((os[j]).2.take 8).length*(Zf d+2)≤8*(Zf d+2):=Nat.mul_le_mul_right _ af.out;show _≤_
  omega
 have c:Hid (yw os (d+1) os[j]=(if (os[j]).1=[] then [91] else (os[j]).1++[40])++zg (zJ os d) ((os[j]).2.take 8)++(if 8<(os[j]).2.length then [44,32,46,46,46] else [])++(if (os[j]).1=[] then [93] else [41])):=rfl
 obtain ⟨R,hR⟩:∃R,R=yw os (d+1) os[j]:=⟨_,rfl⟩;rw [←hR] at c ⊢;obtain ⟨u,ag⟩:∃u,u=(os[j]).1:=⟨_,rfl⟩;obtain ⟨n,hn⟩:∃n,n=(os[j]).2.length:=⟨_,rfl⟩;obtain ⟨D,ae⟩:∃D,D=(os[j]).2.take 8:=⟨_,rfl⟩;obtain ⟨fr,up,aD⟩:∃fr up:Int,yu os j hj=.agg #[.string (za u),.int .i64 fr,.int .i64 up]:=⟨_,_,by rw [ag]⟩
 rw [aD] at cc ⊢;rw [←ag,←hn,←ae] at c;rw [←ae] at al af aq;rw [←ag] at aL;rw [←hn] at aA hcut;simp only [←hn,←ae] at cc;have aF:Hid (Yz d):=hW;obtain ⟨w1,J⟩:∃w1,w1=w.alloc (.cells #[.string (za u),.int .i64 fr,.int .i64 up] 92):=⟨_,rfl⟩;have aR:w1.heap.size=w.heap.size+1:=by rw [J];simp
 have au:Hid (Below B w w1):=by show Below _ _ _;rw [J];exact (Below.refl _ _).alloc hB _
 have ap:w1.heap[w.heap.size]?=some (.cells #[.string (za u),.int .i64 fr,.int .i64 up] 92 (0,0)):=by rw [J];exact World.alloc_heap_new _ _
 have O:Hid (zf B w1 bv b):=by show zf _ _ _ _;rw [J];exact aM.out.alloc _
 have ak:Hid (w1.heap[w.heap.size]?=some (.cells #[.string (za u),.int .i64 fr,.int .i64 up] 92 (0,0))):=ap
 have az:Hid (some w.heap.size≠bv.ownBlock):=fun e=>by
  obtain ⟨aS,aB⟩:=zj O.out.own e.symm;rw [ak.out] at aB
  simp at aB
 obtain ⟨p0,p1,p2,-⟩:=zr ap;have aO:=J.symm;have aV:((d:Int)+1==0)=false:=by rw [beq_eq_false_iff_ne];omega
 have aX:wrap64 (d:Int)=d:=by unfold wrap64;omega
 obtain ⟨m,hm⟩:∃m,m=min n 8:=⟨_,rfl⟩;have aN:min (n:Int) 8=(m:Int):=by omega
 have aT:m≤n:=by omega
 simp only [←hm] at cc
 have av:∀(W:World) (base:Option Addr),(Instr.slice 47 (.slice base n n) none (some (.int .i64 (m:Int))) none).run Tryz.prog W=.ok (.slice base m n) W:=fun W base=>by
  rw [run_slice_h (P:=Tryz.prog) (w:=W) 47 base n n Tryz.underlying47 .i64 _ (by omega) (by omega)]
  cases base <;> simp [sliced,go_sem,Addr.add]
 clear J ap ah H hW Y hcut ax aC ag hn ae aD hR hm
 by_cases ht0:u=[]
 ·subst ht0
  simp only [if_true] at c
  go_enter Tryz.func56,Tryz.ntmps56
  go_wp2_with (at_builtin;refine ze rfl _ _ rfl B _ b rfl O.out.own [91] rfl (by simp only [List.length_cons,List.length_nil];omega) (by omega) ?_;intro v2 w2 M z;have ai:Hid (zf B w2 v2 (b++[91])):=M;have U:Hid (Below B w w2):=au.out.grown z (by omega) (fun q hq=>O.out.lt q hq);have aI:=z.size;obtain ⟨t0,t1,t2,-⟩:=zr ((z.block _ (by omega) az.out).trans ak.out);clear M z)
  have X:=cc w2 U.out;clear cc;refine X.mono ?_;clear X;rintro e w3 ⟨base,rfl,y,am⟩;have an:Hid (zf B w3 v2 (b++[91])):=ai.out.kept y (Nat.le_refl _);have ab:Hid (Below B w w3):=U.out.trans (y.mono (by omega))
  have aH:=y.size;have cw:=aF.out B w3 ad os h vo vc (HH.out.on ab.out) D _ (b++[91]) v2 am.out al.out af.out an.out.own (by simp only [List.length_append,List.length_cons,List.length_nil];omega)
  have V:=av;clear y;go_wp2_with fail
  refine cw.mono ?_;clear cw V;rintro e w4 ⟨v4,rfl,K,F⟩;have A:Hid (zf B w4 v4 (b++[91]++zg (zJ os d) D)):=K;have aa:Hid (Below B w w4):=ab.out.trans F;have aG:=F.size;have aJ:=aq.out;clear K F
  by_cases h8:8<n
  ·have ao:(8:Int)<(n:Int):=by omega
   have HR:Hid (b++R=b++[91]++zg (zJ os d) D++[44,32,46,46,46]++[93]):=by show _=_;rw [c.out,if_pos h8];simp
   go_wp2_with (first | (at_builtin;refine ze rfl _ _ rfl B _ (b++[91]++zg (zJ os d) D++[44,32,46,46,46]) rfl Z.out.own [93] rfl (by simp only [List.length_append,List.length_cons,List.length_nil];omega) (by omega) ?_;intro v6 w6 I G) | (at_builtin;refine ze rfl _ _ rfl B _ (b++[91]++zg (zJ os d) D) rfl A.out.own [44,32,46,46,46] rfl (by simp only [List.length_append,List.length_cons,List.length_nil];omega) (by omega) ?_;intro v5 w5 T E;have Z:Hid (zf B w5 v5 (b++[91]++zg (zJ os d) D++[44,32,46,46,46])):=T;have aj:Hid (Below B w w5):=aa.out.grown E (by omega) (fun q hq=>A.out.lt q hq);have aK:=E.size;clear T E))
   go_ret
   refine ⟨v6,rfl,?_,aj.out.grown G (by omega) (fun q hq=>Z.out.lt q hq)⟩
   rw [HR.out];exact I
  ·have ao:¬ (8:Int)<(n:Int):=by omega
   have HR:Hid (b++R=b++[91]++zg (zJ os d) D++[93]):=by show _=_;rw [c.out,if_neg h8];simp
   go_wp2_with (at_builtin;refine ze rfl _ _ rfl B _ (b++[91]++zg (zJ os d) D) rfl A.out.own [93] rfl (by simp only [List.length_append,List.length_cons,List.length_nil];omega) (by omega) ?_;intro v6 w6 I G)
   go_ret
   refine ⟨v6,rfl,?_,aa.out.grown G (by omega) (fun q hq=>A.out.lt q hq)⟩
   rw [HR.out];exact I
 ·simp only [if_neg ht0] at c
  have aE:za u++⟨#[40]⟩=za (u++[40]):=by show za u++za [40]=_;apply ByteArray.ext;simp [za]
  have aU:(za u).size=u.length:=rfl;have aW:(za u++⟨#[40]⟩).size=u.length+1:=by rw [aE,zt,List.length_append];rfl
  have aP:(u==[])=false:=by rw [beq_eq_false_iff_ne];exact ht0
  go_enter Tryz.func56,Tryz.ntmps56
  go_wp2_with (at_builtin;refine ze rfl _ _ rfl B _ b rfl O.out.own (u++[40]) rfl (by simp only [List.length_append,List.length_cons,List.length_nil];omega) (by omega) ?_;intro v2 w2 M z;have ai:Hid (zf B w2 v2 (b++(u++[40]))):=M;have U:Hid (Below B w w2):=au.out.grown z (by omega) (fun q hq=>O.out.lt q hq);have aI:=z.size;obtain ⟨t0,t1,t2,-⟩:=zr ((z.block _ (by omega) az.out).trans ak.out);clear M z)
  have X:=cc w2 U.out;clear cc;refine X.mono ?_;clear X;rintro e w3 ⟨base,rfl,y,am⟩;have an:Hid (zf B w3 v2 (b++(u++[40]))):=ai.out.kept y (Nat.le_refl _);have ab:Hid (Below B w w3):=U.out.trans (y.mono (by omega))
  have aH:=y.size;have cw:=aF.out B w3 ad os h vo vc (HH.out.on ab.out) D _ (b++(u++[40])) v2 am.out al.out af.out an.out.own (by simp only [List.length_append,List.length_cons,List.length_nil];omega)
  have V:=av;clear y;go_wp2_with fail
  refine cw.mono ?_;clear cw V;rintro e w4 ⟨v4,rfl,K,F⟩;have A:Hid (zf B w4 v4 (b++(u++[40])++zg (zJ os d) D)):=K;have aa:Hid (Below B w w4):=ab.out.trans F;have aG:=F.size;have aJ:=aq.out;clear K F
  by_cases h8:8<n
  ·have ao:(8:Int)<(n:Int):=by omega
   have HR:Hid (b++R=b++(u++[40])++zg (zJ os d) D++[44,32,46,46,46]++[41]):=by show _=_;rw [c.out,if_pos h8];simp
   go_wp2_with (first | (at_builtin;refine ze rfl _ _ rfl B _ (b++(u++[40])++zg (zJ os d) D++[44,32,46,46,46]) rfl Z.out.own [41] rfl (by simp only [List.length_append,List.length_cons,List.length_nil];omega) (by omega) ?_;intro v6 w6 I G) | (at_builtin;refine ze rfl _ _ rfl B _ (b++(u++[40])++zg (zJ os d) D) rfl A.out.own [44,32,46,46,46] rfl (by simp only [List.length_append,List.length_cons,List.length_nil];omega) (by omega) ?_;intro v5 w5 T E;have Z:Hid (zf B w5 v5 (b++(u++[40])++zg (zJ os d) D++[44,32,46,46,46])):=T;have aj:Hid (Below B w w5):=aa.out.grown E (by omega) (fun q hq=>A.out.lt q hq);have aK:=E.size;clear T E))
   go_ret
   refine ⟨v6,rfl,?_,aj.out.grown G (by omega) (fun q hq=>Z.out.lt q hq)⟩
   rw [HR.out];exact I
  ·have ao:¬ (8:Int)<(n:Int):=by omega
   have HR:Hid (b++R=b++(u++[40])++zg (zJ os d) D++[41]):=by show _=_;rw [c.out,if_neg h8];simp
   go_wp2_with (at_builtin;refine ze rfl _ _ rfl B _ (b++(u++[40])++zg (zJ os d) D) rfl A.out.own [41] rfl (by simp only [List.length_append,List.length_cons,List.length_nil];omega) (by omega) ?_;intro v6 w6 I G)
   go_ret
   refine ⟨v6,rfl,?_,aa.out.grown G (by omega) (fun q hq=>A.out.lt q hq)⟩
   rw [HR.out];exact I
end Go.Proofs.YtbjndgachcdbcaaGreatDoor
