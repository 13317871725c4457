import Derived.Test.YtbjndgachcdbcaaGreatDoorHWrite2
namespace Go.Proofs.YtbjndgachcdbcaaGreatDoor
open Go.RowKit Go.Shelf
set_option maxHeartbeats 16000000
set_option maxRecDepth 100000
theorem XH:∀(l:List Vl) (a:Nat),vlC (l.drop a)=(vlC l).drop (a*3)
 | [],a=>by simp [vlC]
 | v::l,0=>by simp
 | v::l,a+1=>by
  have e:vlC (v::l)=xa v++vlC l:=rfl;rw [List.drop_succ_cons,XH l a,e,show (a+1)*3=3+a*3 by omega,←List.drop_drop]
  rfl
theorem XI:∀(l:List Vl) (a:Nat),vlC (l.take a)=(vlC l).take (a*3)
 | [],a=>by simp [vlC]
 | v::l,0=>by simp [vlC]
 | v::l,a+1=>by
  have e:vlC (v::l)=xa v++vlC l:=rfl;have b:vlC ((v::l).take (a+1))=xa v++vlC (l.take a):=rfl;rw [b,e,XI l a,List.take_append,show (a+1)*3-(xa v).length=a*3 by simp [xa];omega,List.take_of_length_le (l:=xa v) (by simp [xa];omega)]
theorem vB {S:Nat→Prop} {w:World} {most:Nat} {os:List Ob} {h:Nat} {vo vc:Value} (H:zs S w most os h vo vc) (j:Nat) (hj:j<os.length) {base:Option Addr} (hb:1≤(os[j]).2.length→∃g n y,vc=.slice (some ⟨g,0,none⟩) n y∧base=some ⟨g,fromO os j*3,none⟩) (m:Nat) (hm:m≤(os[j]).2.length) (hl:(os[j]).2.length≤maxLen) :
  zk S w (.slice base m (os[j]).2.length) ((os[j]).2.take m):=by
 obtain ⟨D,A⟩:=ZX os j hj;have b:((os[j]).2.take m).length=m:=by rw [List.length_take];omega
 refine ⟨base,_,by rw [b],by rw [b];exact hm,hl,?_⟩
 rcases Nat.eq_zero_or_pos m with o | o
 ·left;subst o;rfl
 ·obtain ⟨g,n,y,c,rfl⟩:=hb (by omega)
  have e:=(H.cells.lt g (by rw [c];rfl)).2
  refine .inr ⟨g,fromO os j*3,rfl,H.sc g (by rw [c];rfl),e,fun q u hq=>?_⟩
  have z:=H.cells.cells (g:=g) (by rw [c];rfl) (fromO os j*3+q) u (by
   rw [←A,List.take_take,XI,XH,List.getElem?_take] at hq
   split at hq
   ·rw [List.getElem?_drop] at hq;exact hq
   ·cases hq)
  have B:(⟨g,0,none⟩:Addr).add (fromO os j*3+q)=⟨g,fromO os j*3+q,none⟩:=by
   unfold Addr.add
   split
   ·rename_i o;congr 1;omega
   ·congr 1;simp
  rwa [B] at z
theorem uq (d:Nat) (hd:d≤2) (hW:YI d):Vj (d+1):=by
 intro B w O os h vo vc H j hj us bv ah hl;have hB:=H.le;have aY:=xW d;have ay:Zj (d+1)=10*Zj d+3000000:=rfl;rw [ay] at hl;have aX:us.length+10*Zj d≤99997000000:=by omega
 clear hl ay;have J:=H.hp.ok _ (List.getElem_mem hj);have aC:=H.hp.use;have ax:=H.hp.may;obtain ⟨hcut,-⟩:=ZX os j hj;have av:(os[j]).2.length≤maxLen:=by unfold maxLen;omega
 have aJ:(os[j]).1.length≤1048576:=J.2.1;have aI:Hid (zg B w bv us):=ah;have HH:Hid (XF B w O os h vo vc):=H
 have cc:∀W,Below B w W→Calls Tryz.prog 70 #[.pointer (some ⟨h,0,none⟩),yB os j hj] W fun e V=>∃base,e=.returned (.slice base (os[j]).2.length (os[j]).2.length)∧Below W.heap.size W V∧Hid (zk (fun k=>k<B) V (.slice base (min (os[j]).2.length 8) (os[j]).2.length) ((os[j]).2.take 8)):=fun W hW=>by
  refine (XC j hj W (HH.out.on hW).hp).mono ?_;rintro e V ⟨base,rfl,u,aj⟩;refine ⟨base,rfl,u,?_⟩
  have:=vB ((HH.out.on hW).hp.below u) j hj aj (min (os[j]).2.length 8) (by omega) av
  show zk _ _ _ _
  have e9:(os[j]).2.take (min (os[j]).2.length 8)=(os[j]).2.take 8:=by
   rcases Nat.le_total (os[j]).2.length 8 with h8 | h8
   ·rw [Nat.min_eq_left h8,List.take_of_length_le (Nat.le_refl _),List.take_of_length_le h8]
   ·rw [Nat.min_eq_right h8]
  rwa [e9] at this
 have ap:Hid (∀v∈(os[j]).2.take 8,rightV v os.length=true∧zr v):=fun v hv=>by
  have az:=List.mem_of_mem_take hv;have h1:=J.1
  unfold xb at h1
  rw [Bool.and_eq_true,List.all_eq_true] at h1
  have:=h1.1 v az
  unfold ZW at this
  rw [Bool.and_eq_true] at this;exact ⟨this.2,J.2.2 v az⟩
 have af:Hid (((os[j]).2.take 8).length≤8):=by show _≤_;rw [List.length_take];omega
 have ar:Hid ((zf (zy os d) ((os[j]).2.take 8)).length≤8*(Zj d+2)):=by
  have h1:=Ya (f:=zy os d) (N:=Zj d) ((os[j]).2.take 8) fun v hv=>yN (fun o ho=>(H.hp.ok o ho).2) d v (J.2.2 v (List.mem_of_mem_take hv))
  have h3:((os[j]).2.take 8).length*(Zj d+2)≤8*(Zj d+2):=Nat.mul_le_mul_right _ af.out;show _≤_
  omega
 have b:Hid (yD os (d+1) os[j]=(if (os[j]).1=[] then [91] else (os[j]).1++[40])++zf (zy os d) ((os[j]).2.take 8)++(if 8<(os[j]).2.length then [44,32,46,46,46] else [])++(if (os[j]).1=[] then [93] else [41])):=rfl
 obtain ⟨R,hR⟩:∃R,R=yD os (d+1) os[j]:=⟨_,rfl⟩;rw [←hR] at b ⊢;obtain ⟨c,ag⟩:∃c,c=(os[j]).1:=⟨_,rfl⟩;obtain ⟨n,hn⟩:∃n,n=(os[j]).2.length:=⟨_,rfl⟩;obtain ⟨A,ae⟩:∃A,A=(os[j]).2.take 8:=⟨_,rfl⟩;obtain ⟨fr,up,aw⟩:∃fr up:Int,yB os j hj=.agg #[.string (za c),.int .i64 fr,.int .i64 up]:=⟨_,_,by rw [ag]⟩
 rw [aw] at cc ⊢;rw [←ag,←hn,←ae] at b;rw [←ae] at ap af ar;rw [←ag] at aJ;rw [←hn] at av hcut;simp only [←hn,←ae] at cc;have aF:Hid (YI d):=hW;obtain ⟨w1,I⟩:∃w1,w1=w.alloc (.cells #[.string (za c),.int .i64 fr,.int .i64 up] 92):=⟨_,rfl⟩;have aP:w1.heap.size=w.heap.size+1:=by rw [I];simp
 have aA:Hid (Below B w w1):=by show Below _ _ _;rw [I];exact (Below.refl _ _).alloc hB _
 have ai:w1.heap[w.heap.size]?=some (.cells #[.string (za c),.int .i64 fr,.int .i64 up] 92 (0,0)):=by rw [I];exact World.alloc_heap_new _ _
 have Z:Hid (zg B w1 bv us):=by show zg _ _ _ _;rw [I];exact aI.out.alloc _
 have aq:Hid (w1.heap[w.heap.size]?=some (.cells #[.string (za c),.int .i64 fr,.int .i64 up] 92 (0,0))):=ai
 have aB:Hid (some w.heap.size≠bv.ownBlock):=fun e=>by
  obtain ⟨aW,aE⟩:=zj Z.out.own e.symm;rw [aq.out] at aE
  simp at aE
 obtain ⟨p0,p1,p2,-⟩:=zt ai;have aO:=I.symm;have aU:((d:Int)+1==0)=false:=by rw [beq_eq_false_iff_ne];omega
 have aR:wrap64 (d:Int)=d:=by unfold wrap64;omega
 obtain ⟨m,hm⟩:∃m,m=min n 8:=⟨_,rfl⟩;have aN:min (n:Int) 8=(m:Int):=by omega
 have aQ:m≤n:=by omega
 simp only [←hm] at cc
 have au:∀(W:World) (base:Option Addr),(Instr.slice 47 (.slice base n n) none (some (.int .i64 (m:Int))) none).run Tryz.prog W=.ok (.slice base m n) W:=fun W base=>by
  rw [run_slice_h (P:=Tryz.prog) (w:=W) 47 base n n Tryz.underlying47 .i64 _ (by omega) (by omega)]
  cases base <;> simp [sliced,go_sem,Addr.add]
 clear I ai ah H hW J hcut aC ax ag hn ae aw hR hm
 by_cases ht0:c=[]
 ·subst ht0
  simp only [if_true] at b
  go_enter Tryz.func56,Tryz.ntmps56
  go_wp2_with (at_builtin;refine ze rfl _ _ rfl B _ us rfl Z.out.own [91] rfl (by simp only [List.length_cons,List.length_nil];omega) (by omega) ?_;intro v2 w2 M z;have ak:Hid (zg B w2 v2 (us++[91])):=M;have Y:Hid (Below B w w2):=aA.out.grown z (by omega) (fun q hq=>Z.out.lt q hq);have aK:=z.size;obtain ⟨t0,t1,t2,-⟩:=zt ((z.block _ (by omega) aB.out).trans aq.out);clear M z)
  have X:=cc w2 Y.out;clear cc;refine X.mono ?_;clear X;rintro e V ⟨base,rfl,u,an⟩;have al:Hid (zg B V v2 (us++[91])):=ak.out.kept u (Nat.le_refl _);have aa:Hid (Below B w V):=Y.out.trans (u.mono (by omega))
  have aL:=u.size;have cw:=aF.out B V O os h vo vc (HH.out.on aa.out) A _ (us++[91]) v2 an.out ap.out af.out al.out.own (by simp only [List.length_append,List.length_cons,List.length_nil];omega)
  have ad:=au;clear u;go_wp2_with fail
  refine cw.mono ?_;clear cw ad;rintro e w4 ⟨v4,rfl,U,F⟩;have y:Hid (zg B w4 v4 (us++[91]++zf (zy os d) A)):=U;have K:Hid (Below B w w4):=aa.out.trans F;have aH:=F.size;have aM:=ar.out;clear U F
  by_cases h8:8<n
  ·have am:(8:Int)<(n:Int):=by omega
   have HR:Hid (us++R=us++[91]++zf (zy os d) A++[44,32,46,46,46]++[93]):=by show _=_;rw [b.out,if_pos h8];simp
   go_wp2_with (first | (at_builtin;refine ze rfl _ _ rfl B _ (us++[91]++zf (zy os d) A++[44,32,46,46,46]) rfl T.out.own [93] rfl (by simp only [List.length_append,List.length_cons,List.length_nil];omega) (by omega) ?_;intro v6 w6 E G) | (at_builtin;refine ze rfl _ _ rfl B _ (us++[91]++zf (zy os d) A) rfl y.out.own [44,32,46,46,46] rfl (by simp only [List.length_append,List.length_cons,List.length_nil];omega) (by omega) ?_;intro v5 w5 ab D;have T:Hid (zg B w5 v5 (us++[91]++zf (zy os d) A++[44,32,46,46,46])):=ab;have ao:Hid (Below B w w5):=K.out.grown D (by omega) (fun q hq=>y.out.lt q hq);have aG:=D.size;clear ab D))
   go_ret
   refine ⟨v6,rfl,?_,ao.out.grown G (by omega) (fun q hq=>T.out.lt q hq)⟩
   rw [HR.out];exact E
  ·have am:¬ (8:Int)<(n:Int):=by omega
   have HR:Hid (us++R=us++[91]++zf (zy os d) A++[93]):=by show _=_;rw [b.out,if_neg h8];simp
   go_wp2_with (at_builtin;refine ze rfl _ _ rfl B _ (us++[91]++zf (zy os d) A) rfl y.out.own [93] rfl (by simp only [List.length_append,List.length_cons,List.length_nil];omega) (by omega) ?_;intro v6 w6 E G)
   go_ret
   refine ⟨v6,rfl,?_,K.out.grown G (by omega) (fun q hq=>y.out.lt q hq)⟩
   rw [HR.out];exact E
 ·simp only [if_neg ht0] at b
  have aD:za c++⟨#[40]⟩=za (c++[40]):=by show za c++za [40]=_;apply ByteArray.ext;simp [za]
  have aT:(za c).size=c.length:=rfl;have aV:(za c++⟨#[40]⟩).size=c.length+1:=by rw [aD,zu,List.length_append];rfl
  have aS:(c==[])=false:=by rw [beq_eq_false_iff_ne];exact ht0
  go_enter Tryz.func56,Tryz.ntmps56
  go_wp2_with (at_builtin;refine ze rfl _ _ rfl B _ us rfl Z.out.own (c++[40]) rfl (by simp only [List.length_append,List.length_cons,List.length_nil];omega) (by omega) ?_;intro v2 w2 M z;have ak:Hid (zg B w2 v2 (us++(c++[40]))):=M;have Y:Hid (Below B w w2):=aA.out.grown z (by omega) (fun q hq=>Z.out.lt q hq);have aK:=z.size;obtain ⟨t0,t1,t2,-⟩:=zt ((z.block _ (by omega) aB.out).trans aq.out);clear M z)
  have X:=cc w2 Y.out;clear cc;refine X.mono ?_;clear X;rintro e V ⟨base,rfl,u,an⟩;have al:Hid (zg B V v2 (us++(c++[40]))):=ak.out.kept u (Nat.le_refl _);have aa:Hid (Below B w V):=Y.out.trans (u.mono (by omega))
  have aL:=u.size;have cw:=aF.out B V O os h vo vc (HH.out.on aa.out) A _ (us++(c++[40])) v2 an.out ap.out af.out al.out.own (by simp only [List.length_append,List.length_cons,List.length_nil];omega)
  have ad:=au;clear u;go_wp2_with fail
  refine cw.mono ?_;clear cw ad;rintro e w4 ⟨v4,rfl,U,F⟩;have y:Hid (zg B w4 v4 (us++(c++[40])++zf (zy os d) A)):=U;have K:Hid (Below B w w4):=aa.out.trans F;have aH:=F.size;have aM:=ar.out;clear U F
  by_cases h8:8<n
  ·have am:(8:Int)<(n:Int):=by omega
   have HR:Hid (us++R=us++(c++[40])++zf (zy os d) A++[44,32,46,46,46]++[41]):=by show _=_;rw [b.out,if_pos h8];simp
   go_wp2_with (first | (at_builtin;refine ze rfl _ _ rfl B _ (us++(c++[40])++zf (zy os d) A++[44,32,46,46,46]) rfl T.out.own [41] rfl (by simp only [List.length_append,List.length_cons,List.length_nil];omega) (by omega) ?_;intro v6 w6 E G) | (at_builtin;refine ze rfl _ _ rfl B _ (us++(c++[40])++zf (zy os d) A) rfl y.out.own [44,32,46,46,46] rfl (by simp only [List.length_append,List.length_cons,List.length_nil];omega) (by omega) ?_;intro v5 w5 ab D;have T:Hid (zg B w5 v5 (us++(c++[40])++zf (zy os d) A++[44,32,46,46,46])):=ab;have ao:Hid (Below B w w5):=K.out.grown D (by omega) (fun q hq=>y.out.lt q hq);have aG:=D.size;clear ab D))
   go_ret
   refine ⟨v6,rfl,?_,ao.out.grown G (by omega) (fun q hq=>T.out.lt q hq)⟩
   rw [HR.out];exact E
  ·have am:¬ (8:Int)<(n:Int):=by omega
   have HR:Hid (us++R=us++(c++[40])++zf (zy os d) A++[41]):=by show _=_;rw [b.out,if_neg h8];simp
   go_wp2_with (at_builtin;refine ze rfl _ _ rfl B _ (us++(c++[40])++zf (zy os d) A) rfl y.out.own [41] rfl (by simp only [List.length_append,List.length_cons,List.length_nil];omega) (by omega) ?_;intro v6 w6 E G)
   go_ret
   refine ⟨v6,rfl,?_,K.out.grown G (by omega) (fun q hq=>y.out.lt q hq)⟩
   rw [HR.out];exact E
end Go.Proofs.YtbjndgachcdbcaaGreatDoor
