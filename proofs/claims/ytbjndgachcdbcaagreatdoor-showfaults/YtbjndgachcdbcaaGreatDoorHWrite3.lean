import Derived.Test.YtbjndgachcdbcaaGreatDoorHWrite2
namespace Go.Proofs.YtbjndgachcdbcaaGreatDoor
open Go.RowKit Go.Shelf
set_option maxHeartbeats 16000000
set_option maxRecDepth 100000
theorem xA:∀(l:List Vl) (a:Nat),Zp (l.drop a)=(Zp l).drop (a*3)
 | [],a=>by simp [Zp]
 | v::l,0=>by simp
 | v::l,a+1=>by
  have e:Zp (v::l)=YH v++Zp l:=rfl;rw [List.drop_succ_cons,xA l a,e,show (a+1)*3=3+a*3 by omega,←List.drop_drop]
  rfl
theorem xB:∀(l:List Vl) (a:Nat),Zp (l.take a)=(Zp l).take (a*3)
 | [],a=>by simp [Zp]
 | v::l,0=>by simp [Zp]
 | v::l,a+1=>by
  have e:Zp (v::l)=YH v++Zp l:=rfl;have b:Zp ((v::l).take (a+1))=YH v++Zp (l.take a):=rfl;rw [b,e,xB l a,List.take_append,show (a+1)*3-(YH v).length=a*3 by simp [YH];omega,List.take_of_length_le (l:=YH v) (by simp [YH];omega)]
theorem Xc {S:Nat→Prop} {w:World} {most:Nat} {os:List Ob} {h:Nat} {vo vc:Value} (H:zA S w most os h vo vc) (j:Nat) (hj:j<os.length) {base:Option Addr} (hb:1≤(os[j]).2.length→∃g n x,vc=.slice (some ⟨g,0,none⟩) n x∧base=some ⟨g,fromO os j*3,none⟩) (m:Nat) (hm:m≤(os[j]).2.length) (hl:(os[j]).2.length≤maxLen) :
  zC S w (.slice base m (os[j]).2.length) ((os[j]).2.take m):=by
 obtain ⟨B,z⟩:=ZU os j hj;have b:((os[j]).2.take m).length=m:=by rw [List.length_take];omega
 refine ⟨base,_,by rw [b],by rw [b];exact hm,hl,?_⟩
 rcases Nat.eq_zero_or_pos m with c | c
 ·left;subst c;rfl
 ·obtain ⟨g,n,x,e,rfl⟩:=hb (by omega)
  have o:=(H.cells.lt g (by rw [e];rfl)).2
  refine .inr ⟨g,fromO os j*3,rfl,H.sc g (by rw [e];rfl),o,fun q u hq=>?_⟩
  have y:=H.cells.cells (g:=g) (by rw [e];rfl) (fromO os j*3+q) u (by
   rw [←z,List.take_take,xB,xA,List.getElem?_take] at hq
   split at hq
   ·rw [List.getElem?_drop] at hq;exact hq
   ·cases hq)
  have A:(⟨g,0,none⟩:Addr).add (fromO os j*3+q)=⟨g,fromO os j*3+q,none⟩:=by
   unfold Addr.add
   split
   ·rename_i c;congr 1;omega
   ·congr 1;simp
  rwa [A] at y
theorem vz (d:Nat) (hd:d≤2) (hW:yV d):XD (d+1):=by
 intro B w K os h vo vc H j hj b bv ah hl;have hB:=H.le;have aX:=Y4 d;have aA:z7 (d+1)=10*z7 d+3000000:=rfl;rw [aA] at hl;have aR:b.length+10*z7 d≤99997000000:=by omega
 clear hl aA;have aa:=H.hp.ok _ (List.getElem_mem hj);have aC:=H.hp.use;have au:=H.hp.may;obtain ⟨hcut,-⟩:=ZU os j hj;have ax:(os[j]).2.length≤maxLen:=by unfold maxLen;omega
 have aG:(os[j]).1.length≤1048576:=aa.2.1;have aJ:Hid (zf B w bv b):=ah;have HH:Hid (xy B w K os h vo vc):=H
 have cc:∀W,Below B w W→Calls Tryz.prog 70 #[.pointer (some ⟨h,0,none⟩),Z6 os j hj] W fun e T=>∃base,e=.returned (.slice base (os[j]).2.length (os[j]).2.length)∧Below W.heap.size W T∧Hid (zC (fun k=>k<B) T (.slice base (min (os[j]).2.length 8) (os[j]).2.length) ((os[j]).2.take 8)):=fun W hW=>by
  refine (xw j hj W (HH.out.on hW).hp).mono ?_;rintro e T ⟨base,rfl,x,ao⟩;refine ⟨base,rfl,x,?_⟩
  have:=Xc ((HH.out.on hW).hp.below x) j hj ao (min (os[j]).2.length 8) (by omega) ax
  show zC _ _ _ _
  have e9:(os[j]).2.take (min (os[j]).2.length 8)=(os[j]).2.take 8:=by
   rcases Nat.le_total (os[j]).2.length 8 with h8 | h8
   ·rw [Nat.min_eq_left h8,List.take_of_length_le (Nat.le_refl _),List.take_of_length_le h8]
   ·rw [Nat.min_eq_right h8]
  rwa [e9] at this
 have am:Hid (∀v∈(os[j]).2.take 8,zb v os.length=true∧zv v):=fun v hv=>by
  have ay:=List.mem_of_mem_take hv;have h1:=aa.1
  unfold VP at h1
  rw [Bool.and_eq_true,List.all_eq_true] at h1
  have:=h1.1 v ay
  unfold vt at this
  rw [Bool.and_eq_true] at this;exact ⟨this.2,aa.2.2 v ay⟩
 have ag:Hid (((os[j]).2.take 8).length≤8):=by show _≤_;rw [List.length_take];omega
 have aj:Hid ((zg (zI os d) ((os[j]).2.take 8)).length≤8*(z7 d+2)):=by
  have h1:=yw (f:=zI os d) (N:=z7 d) ((os[j]).2.take 8) fun v hv=>ym (fun o ho=>(H.hp.ok o ho).2) d v (aa.2.2 v (List.mem_of_mem_take hv))
  have h3:((os[j]).2.take 8).length*(z7 d+2)≤8*(z7 d+2):=Nat.mul_le_mul_right _ ag.out;show _≤_
  omega
 have u:Hid (yb os (d+1) os[j]=(if (os[j]).1=[] then [91] else (os[j]).1++[40])++zg (zI os d) ((os[j]).2.take 8)++(if 8<(os[j]).2.length then [44,32,46,46,46] else [])++(if (os[j]).1=[] then [93] else [41])):=rfl
 obtain ⟨R,hR⟩:∃R,R=yb os (d+1) os[j]:=⟨_,rfl⟩;rw [←hR] at u ⊢;obtain ⟨c,ae⟩:∃c,c=(os[j]).1:=⟨_,rfl⟩;obtain ⟨n,hn⟩:∃n,n=(os[j]).2.length:=⟨_,rfl⟩;obtain ⟨A,af⟩:∃A,A=(os[j]).2.take 8:=⟨_,rfl⟩;obtain ⟨fr,up,aE⟩:∃fr up:Int,Z6 os j hj=.agg #[.string (za c),.int .i64 fr,.int .i64 up]:=⟨_,_,by rw [ae]⟩
 rw [aE] at cc ⊢;rw [←ae,←hn,←af] at u;rw [←af] at am ag aj;rw [←ae] at aG;rw [←hn] at ax hcut;simp only [←hn,←af] at cc;have az:Hid (yV d):=hW;obtain ⟨w1,I⟩:∃w1,w1=w.alloc (.cells #[.string (za c),.int .i64 fr,.int .i64 up] 92):=⟨_,rfl⟩;have aV:w1.heap.size=w.heap.size+1:=by rw [I];simp
 have aF:Hid (Below B w w1):=by show Below _ _ _;rw [I];exact (Below.refl _ _).alloc hB _
 have ar:w1.heap[w.heap.size]?=some (.cells #[.string (za c),.int .i64 fr,.int .i64 up] 92 (0,0)):=by rw [I];exact World.alloc_heap_new _ _
 have Y:Hid (zf B w1 bv b):=by show zf _ _ _ _;rw [I];exact aJ.out.alloc _
 have an:Hid (w1.heap[w.heap.size]?=some (.cells #[.string (za c),.int .i64 fr,.int .i64 up] 92 (0,0))):=ar
 have av:Hid (some w.heap.size≠bv.ownBlock):=fun e=>by
  obtain ⟨aT,aB⟩:=zr Y.out.own e.symm;rw [an.out] at aB
  simp at aB
 obtain ⟨p0,p1,p2,-⟩:=zu ar;have aN:=I.symm;have aP:((d:Int)+1==0)=false:=by rw [beq_eq_false_iff_ne];omega
 have aW:wrap64 (d:Int)=d:=by unfold wrap64;omega
 obtain ⟨m,hm⟩:∃m,m=min n 8:=⟨_,rfl⟩;have aO:min (n:Int) 8=(m:Int):=by omega
 have aY:m≤n:=by omega
 simp only [←hm] at cc
 have aw:∀(W:World) (base:Option Addr),(Instr.slice 47 (.slice base n n) none (some (.int .i64 (m:Int))) none).run Tryz.prog W=.ok (.slice base m n) W:=fun W base=>by
  rw [run_slice_h (P:=Tryz.prog) (w:=W) 47 base n n Tryz.underlying47 .i64 _ (by omega) (by omega)]
  cases base <;> simp [sliced,go_sem,Addr.add]
 clear I ar ah H hW aa hcut aC au ae hn af aE hR hm
 by_cases ht0:c=[]
 ·subst ht0
  simp only [if_true] at u
  go_enter Tryz.func56,Tryz.ntmps56
  go_wp2_with (at_builtin;refine ze rfl _ _ rfl B _ b rfl Y.out.own [91] rfl (by simp only [List.length_cons,List.length_nil];omega) (by omega) ?_;intro v2 w2 O y;have ap:Hid (zf B w2 v2 (b++[91])):=O;have V:Hid (Below B w w2):=aF.out.grown y (by omega) (fun q hq=>Y.out.lt q hq);have aH:=y.size;obtain ⟨t0,t1,t2,-⟩:=zu ((y.block _ (by omega) av.out).trans an.out);clear O y)
  have J:=cc w2 V.out;clear cc;refine J.mono ?_;clear J;rintro e T ⟨base,rfl,x,ai⟩;have ak:Hid (zf B T v2 (b++[91])):=ap.out.kept x (Nat.le_refl _);have U:Hid (Below B w T):=V.out.trans (x.mono (by omega))
  have aI:=x.size;have cw:=az.out B T K os h vo vc (HH.out.on U.out) A _ (b++[91]) v2 ai.out am.out ag.out ak.out.own (by simp only [List.length_append,List.length_cons,List.length_nil];omega)
  have ab:=aw;clear x;go_wp2_with fail
  refine cw.mono ?_;clear cw ab;rintro e w4 ⟨v4,rfl,M,E⟩;have z:Hid (zf B w4 v4 (b++[91]++zg (zI os d) A)):=M;have ad:Hid (Below B w w4):=U.out.trans E;have aK:=E.size;have aL:=aj.out;clear M E
  by_cases h8:8<n
  ·have aq:(8:Int)<(n:Int):=by omega
   have HR:Hid (b++R=b++[91]++zg (zI os d) A++[44,32,46,46,46]++[93]):=by show _=_;rw [u.out,if_pos h8];simp
   go_wp2_with (first | (at_builtin;refine ze rfl _ _ rfl B _ (b++[91]++zg (zI os d) A++[44,32,46,46,46]) rfl Z.out.own [93] rfl (by simp only [List.length_append,List.length_cons,List.length_nil];omega) (by omega) ?_;intro v6 w6 F G) | (at_builtin;refine ze rfl _ _ rfl B _ (b++[91]++zg (zI os d) A) rfl z.out.own [44,32,46,46,46] rfl (by simp only [List.length_append,List.length_cons,List.length_nil];omega) (by omega) ?_;intro v5 w5 X D;have Z:Hid (zf B w5 v5 (b++[91]++zg (zI os d) A++[44,32,46,46,46])):=X;have al:Hid (Below B w w5):=ad.out.grown D (by omega) (fun q hq=>z.out.lt q hq);have aM:=D.size;clear X D))
   go_ret
   refine ⟨v6,rfl,?_,al.out.grown G (by omega) (fun q hq=>Z.out.lt q hq)⟩
   rw [HR.out];exact F
  ·have aq:¬ (8:Int)<(n:Int):=by omega
   have HR:Hid (b++R=b++[91]++zg (zI os d) A++[93]):=by show _=_;rw [u.out,if_neg h8];simp
   go_wp2_with (at_builtin;refine ze rfl _ _ rfl B _ (b++[91]++zg (zI os d) A) rfl z.out.own [93] rfl (by simp only [List.length_append,List.length_cons,List.length_nil];omega) (by omega) ?_;intro v6 w6 F G)
   go_ret
   refine ⟨v6,rfl,?_,ad.out.grown G (by omega) (fun q hq=>z.out.lt q hq)⟩
   rw [HR.out];exact F
 ·simp only [if_neg ht0] at u
  have aD:za c++⟨#[40]⟩=za (c++[40]):=by show za c++za [40]=_;apply ByteArray.ext;simp [za]
  have aS:(za c).size=c.length:=rfl;have aU:(za c++⟨#[40]⟩).size=c.length+1:=by rw [aD,zo,List.length_append];rfl
  have aQ:(c==[])=false:=by rw [beq_eq_false_iff_ne];exact ht0
  go_enter Tryz.func56,Tryz.ntmps56
  go_wp2_with (at_builtin;refine ze rfl _ _ rfl B _ b rfl Y.out.own (c++[40]) rfl (by simp only [List.length_append,List.length_cons,List.length_nil];omega) (by omega) ?_;intro v2 w2 O y;have ap:Hid (zf B w2 v2 (b++(c++[40]))):=O;have V:Hid (Below B w w2):=aF.out.grown y (by omega) (fun q hq=>Y.out.lt q hq);have aH:=y.size;obtain ⟨t0,t1,t2,-⟩:=zu ((y.block _ (by omega) av.out).trans an.out);clear O y)
  have J:=cc w2 V.out;clear cc;refine J.mono ?_;clear J;rintro e T ⟨base,rfl,x,ai⟩;have ak:Hid (zf B T v2 (b++(c++[40]))):=ap.out.kept x (Nat.le_refl _);have U:Hid (Below B w T):=V.out.trans (x.mono (by omega))
  have aI:=x.size;have cw:=az.out B T K os h vo vc (HH.out.on U.out) A _ (b++(c++[40])) v2 ai.out am.out ag.out ak.out.own (by simp only [List.length_append,List.length_cons,List.length_nil];omega)
  have ab:=aw;clear x;go_wp2_with fail
  refine cw.mono ?_;clear cw ab;rintro e w4 ⟨v4,rfl,M,E⟩;have z:Hid (zf B w4 v4 (b++(c++[40])++zg (zI os d) A)):=M;have ad:Hid (Below B w w4):=U.out.trans E;have aK:=E.size;have aL:=aj.out;clear M E
  by_cases h8:8<n
  ·have aq:(8:Int)<(n:Int):=by omega
   have HR:Hid (b++R=b++(c++[40])++zg (zI os d) A++[44,32,46,46,46]++[41]):=by show _=_;rw [u.out,if_pos h8];simp
   go_wp2_with (first | (at_builtin;refine ze rfl _ _ rfl B _ (b++(c++[40])++zg (zI os d) A++[44,32,46,46,46]) rfl Z.out.own [41] rfl (by simp only [List.length_append,List.length_cons,List.length_nil];omega) (by omega) ?_;intro v6 w6 F G) | (at_builtin;refine ze rfl _ _ rfl B _ (b++(c++[40])++zg (zI os d) A) rfl z.out.own [44,32,46,46,46] rfl (by simp only [List.length_append,List.length_cons,List.length_nil];omega) (by omega) ?_;intro v5 w5 X D;have Z:Hid (zf B w5 v5 (b++(c++[40])++zg (zI os d) A++[44,32,46,46,46])):=X;have al:Hid (Below B w w5):=ad.out.grown D (by omega) (fun q hq=>z.out.lt q hq);have aM:=D.size;clear X D))
   go_ret
   refine ⟨v6,rfl,?_,al.out.grown G (by omega) (fun q hq=>Z.out.lt q hq)⟩
   rw [HR.out];exact F
  ·have aq:¬ (8:Int)<(n:Int):=by omega
   have HR:Hid (b++R=b++(c++[40])++zg (zI os d) A++[41]):=by show _=_;rw [u.out,if_neg h8];simp
   go_wp2_with (at_builtin;refine ze rfl _ _ rfl B _ (b++(c++[40])++zg (zI os d) A) rfl z.out.own [41] rfl (by simp only [List.length_append,List.length_cons,List.length_nil];omega) (by omega) ?_;intro v6 w6 F G)
   go_ret
   refine ⟨v6,rfl,?_,ad.out.grown G (by omega) (fun q hq=>z.out.lt q hq)⟩
   rw [HR.out];exact F
end Go.Proofs.YtbjndgachcdbcaaGreatDoor
