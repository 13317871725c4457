import Derived.Test.YtbjndgachcdbcaaGreatDoorHWrite2
namespace Go.Proofs.YtbjndgachcdbcaaGreatDoor
open Go.RowKit Go.Shelf
set_option maxHeartbeats 16000000
set_option maxRecDepth 100000
theorem xO:∀(l:List Vl) (a:Nat),Zr (l.drop a)=(Zr l).drop (a*3)
 | [],a=>by simp [Zr]
 | v::l,0=>by simp
 | v::l,a+1=>by
  have e:Zr (v::l)=YR v++Zr l:=rfl;rw [List.drop_succ_cons,xO l a,e,show (a+1)*3=3+a*3 by omega,←List.drop_drop]
  rfl
theorem xP:∀(l:List Vl) (a:Nat),Zr (l.take a)=(Zr l).take (a*3)
 | [],a=>by simp [Zr]
 | v::l,0=>by simp [Zr]
 | v::l,a+1=>by
  have e:Zr (v::l)=YR v++Zr l:=rfl;have b:Zr ((v::l).take (a+1))=YR v++Zr (l.take a):=rfl;rw [b,e,xP l a,List.take_append,show (a+1)*3-(YR v).length=a*3 by simp [YR];omega,List.take_of_length_le (l:=YR v) (by simp [YR];omega)]
theorem Xt {S:Nat→Prop} {w:World} {most:Nat} {os:List Ob} {h:Nat} {vo vc:Value} (H:zA S w most os h vo vc) (j:Nat) (hj:j<os.length) {base:Option Addr} (hb:1≤(os[j]).2.length→∃g n x,vc=.slice (some ⟨g,0,none⟩) n x∧base=some ⟨g,fromO os j*3,none⟩) (m:Nat) (hm:m≤(os[j]).2.length) (hl:(os[j]).2.length≤maxLen) :
  zC S w (.slice base m (os[j]).2.length) ((os[j]).2.take m):=by
 obtain ⟨B,A⟩:=ZV os j hj;have b:((os[j]).2.take m).length=m:=by rw [List.length_take];omega
 refine ⟨base,_,by rw [b],by rw [b];exact hm,hl,?_⟩
 rcases Nat.eq_zero_or_pos m with o | o
 ·left;subst o;rfl
 ·obtain ⟨g,n,x,e,rfl⟩:=hb (by omega)
  have c:=(H.cells.lt g (by rw [e];rfl)).2
  refine .inr ⟨g,fromO os j*3,rfl,H.sc g (by rw [e];rfl),c,fun q u hq=>?_⟩
  have y:=H.cells.cells (g:=g) (by rw [e];rfl) (fromO os j*3+q) u (by
   rw [←A,List.take_take,xP,xO,List.getElem?_take] at hq
   split at hq
   ·rw [List.getElem?_drop] at hq;exact hq
   ·cases hq)
  have z:(⟨g,0,none⟩:Addr).add (fromO os j*3+q)=⟨g,fromO os j*3+q,none⟩:=by
   unfold Addr.add
   split
   ·rename_i o;congr 1;omega
   ·congr 1;simp
  rwa [z] at y
theorem v7 (d:Nat) (hd:d≤2) (hW:Yb d):XX (d+1):=by
 intro B w aa os h vo vc H j hj b bv ag hl;have hB:=H.le;have aP:=xh d;have ar:z8 (d+1)=10*z8 d+3000000:=rfl;rw [ar] at hl;have aO:b.length+10*z8 d≤99997000000:=by omega
 clear hl ar;have Y:=H.hp.ok _ (List.getElem_mem hj);have aE:=H.hp.use;have aD:=H.hp.may;obtain ⟨hcut,-⟩:=ZV os j hj;have aw:(os[j]).2.length≤maxLen:=by unfold maxLen;omega
 have aI:(os[j]).1.length≤1048576:=Y.2.1;have aG:Hid (zf B w bv b):=ag;have HH:Hid (xM B w aa os h vo vc):=H
 have cc:∀W,Below B w W→Calls Tryz.prog 70 #[.pointer (some ⟨h,0,none⟩),Z9 os j hj] W fun e w3=>∃base,e=.returned (.slice base (os[j]).2.length (os[j]).2.length)∧Below W.heap.size W w3∧Hid (zC (fun k=>k<B) w3 (.slice base (min (os[j]).2.length 8) (os[j]).2.length) ((os[j]).2.take 8)):=fun W hW=>by
  refine (xK j hj W (HH.out.on hW).hp).mono ?_;rintro e w3 ⟨base,rfl,x,aj⟩;refine ⟨base,rfl,x,?_⟩
  have:=Xt ((HH.out.on hW).hp.below x) j hj aj (min (os[j]).2.length 8) (by omega) aw
  show zC _ _ _ _
  have e9:(os[j]).2.take (min (os[j]).2.length 8)=(os[j]).2.take 8:=by
   rcases Nat.le_total (os[j]).2.length 8 with h8 | h8
   ·rw [Nat.min_eq_left h8,List.take_of_length_le (Nat.le_refl _),List.take_of_length_le h8]
   ·rw [Nat.min_eq_right h8]
  rwa [e9] at this
 have ap:Hid (∀v∈(os[j]).2.take 8,zb v os.length=true∧zw v):=fun v hv=>by
  have ay:=List.mem_of_mem_take hv;have h1:=Y.1
  unfold uw at h1
  rw [Bool.and_eq_true,List.all_eq_true] at h1
  have:=h1.1 v ay
  unfold vU at this
  rw [Bool.and_eq_true] at this;exact ⟨this.2,Y.2.2 v ay⟩
 have ae:Hid (((os[j]).2.take 8).length≤8):=by show _≤_;rw [List.length_take];omega
 have ai:Hid ((zg (zH os d) ((os[j]).2.take 8)).length≤8*(z8 d+2)):=by
  have h1:=yA (f:=zH os d) (N:=z8 d) ((os[j]).2.take 8) fun v hv=>yp (fun o ho=>(H.hp.ok o ho).2) d v (Y.2.2 v (List.mem_of_mem_take hv))
  have h3:((os[j]).2.take 8).length*(z8 d+2)≤8*(z8 d+2):=Nat.mul_le_mul_right _ ae.out;show _≤_
  omega
 have u:Hid (ye os (d+1) os[j]=(if (os[j]).1=[] then [91] else (os[j]).1++[40])++zg (zH os d) ((os[j]).2.take 8)++(if 8<(os[j]).2.length then [44,32,46,46,46] else [])++(if (os[j]).1=[] then [93] else [41])):=rfl
 obtain ⟨R,hR⟩:∃R,R=ye os (d+1) os[j]:=⟨_,rfl⟩;rw [←hR] at u ⊢;obtain ⟨c,af⟩:∃c,c=(os[j]).1:=⟨_,rfl⟩;obtain ⟨n,hn⟩:∃n,n=(os[j]).2.length:=⟨_,rfl⟩;obtain ⟨A,ad⟩:∃A,A=(os[j]).2.take 8:=⟨_,rfl⟩;obtain ⟨fr,up,ax⟩:∃fr up:Int,Z9 os j hj=.agg #[.string (za c),.int .i64 fr,.int .i64 up]:=⟨_,_,by rw [af]⟩
 rw [ax] at cc ⊢;rw [←af,←hn,←ad] at u;rw [←ad] at ap ae ai;rw [←af] at aI;rw [←hn] at aw hcut;simp only [←hn,←ad] at cc;have av:Hid (Yb d):=hW;obtain ⟨w1,I⟩:∃w1,w1=w.alloc (.cells #[.string (za c),.int .i64 fr,.int .i64 up] 92):=⟨_,rfl⟩;have aT:w1.heap.size=w.heap.size+1:=by rw [I];simp
 have au:Hid (Below B w w1):=by show Below _ _ _;rw [I];exact (Below.refl _ _).alloc hB _
 have ao:w1.heap[w.heap.size]?=some (.cells #[.string (za c),.int .i64 fr,.int .i64 up] 92 (0,0)):=by rw [I];exact World.alloc_heap_new _ _
 have V:Hid (zf B w1 bv b):=by show zf _ _ _ _;rw [I];exact aG.out.alloc _
 have ak:Hid (w1.heap[w.heap.size]?=some (.cells #[.string (za c),.int .i64 fr,.int .i64 up] 92 (0,0))):=ao
 have aC:Hid (some w.heap.size≠bv.ownBlock):=fun e=>by
  obtain ⟨aS,aA⟩:=zs V.out.own e.symm;rw [ak.out] at aA
  simp at aA
 obtain ⟨p0,p1,p2,-⟩:=zv ao;have aN:=I.symm;have aR:((d:Int)+1==0)=false:=by rw [beq_eq_false_iff_ne];omega
 have aW:wrap64 (d:Int)=d:=by unfold wrap64;omega
 obtain ⟨m,hm⟩:∃m,m=min n 8:=⟨_,rfl⟩;have aM:min (n:Int) 8=(m:Int):=by omega
 have aU:m≤n:=by omega
 simp only [←hm] at cc
 have az:∀(W:World) (base:Option Addr),(Instr.slice 47 (.slice base n n) none (some (.int .i64 (m:Int))) none).run Tryz.prog W=.ok (.slice base m n) W:=fun W base=>by
  rw [run_slice_h (P:=Tryz.prog) (w:=W) 47 base n n Tryz.underlying47 .i64 _ (by omega) (by omega)]
  cases base <;> simp [sliced,go_sem,Addr.add]
 clear I ao ag H hW Y hcut aE aD af hn ad ax hR hm
 by_cases ht0:c=[]
 ·subst ht0
  simp only [if_true] at u
  go_enter Tryz.func56,Tryz.ntmps56
  go_wp2_with (at_builtin;refine ze rfl _ _ rfl B _ b rfl V.out.own [91] rfl (by simp only [List.length_cons,List.length_nil];omega) (by omega) ?_;intro v2 w2 O y;have an:Hid (zf B w2 v2 (b++[91])):=O;have ab:Hid (Below B w w2):=au.out.grown y (by omega) (fun q hq=>V.out.lt q hq);have aL:=y.size;obtain ⟨t0,t1,t2,-⟩:=zv ((y.block _ (by omega) aC.out).trans ak.out);clear O y)
  have X:=cc w2 ab.out;clear cc;refine X.mono ?_;clear X;rintro e w3 ⟨base,rfl,x,al⟩;have ah:Hid (zf B w3 v2 (b++[91])):=an.out.kept x (Nat.le_refl _);have Z:Hid (Below B w w3):=ab.out.trans (x.mono (by omega))
  have aF:=x.size;have cw:=av.out B w3 aa os h vo vc (HH.out.on Z.out) A _ (b++[91]) v2 al.out ap.out ae.out ah.out.own (by simp only [List.length_append,List.length_cons,List.length_nil];omega)
  have M:=az;clear x;go_wp2_with fail
  refine cw.mono ?_;clear cw M;rintro e w4 ⟨v4,rfl,J,E⟩;have z:Hid (zf B w4 v4 (b++[91]++zg (zH os d) A)):=J;have U:Hid (Below B w w4):=Z.out.trans E;have aK:=E.size;have aH:=ai.out;clear J E
  by_cases h8:8<n
  ·have am:(8:Int)<(n:Int):=by omega
   have HR:Hid (b++R=b++[91]++zg (zH os d) A++[44,32,46,46,46]++[93]):=by show _=_;rw [u.out,if_pos h8];simp
   go_wp2_with (first | (at_builtin;refine ze rfl _ _ rfl B _ (b++[91]++zg (zH os d) A++[44,32,46,46,46]) rfl T.out.own [93] rfl (by simp only [List.length_append,List.length_cons,List.length_nil];omega) (by omega) ?_;intro v6 w6 D G) | (at_builtin;refine ze rfl _ _ rfl B _ (b++[91]++zg (zH os d) A) rfl z.out.own [44,32,46,46,46] rfl (by simp only [List.length_append,List.length_cons,List.length_nil];omega) (by omega) ?_;intro v5 w5 K F;have T:Hid (zf B w5 v5 (b++[91]++zg (zH os d) A++[44,32,46,46,46])):=K;have aq:Hid (Below B w w5):=U.out.grown F (by omega) (fun q hq=>z.out.lt q hq);have aJ:=F.size;clear K F))
   go_ret
   refine ⟨v6,rfl,?_,aq.out.grown G (by omega) (fun q hq=>T.out.lt q hq)⟩
   rw [HR.out];exact D
  ·have am:¬ (8:Int)<(n:Int):=by omega
   have HR:Hid (b++R=b++[91]++zg (zH os d) A++[93]):=by show _=_;rw [u.out,if_neg h8];simp
   go_wp2_with (at_builtin;refine ze rfl _ _ rfl B _ (b++[91]++zg (zH os d) A) rfl z.out.own [93] rfl (by simp only [List.length_append,List.length_cons,List.length_nil];omega) (by omega) ?_;intro v6 w6 D G)
   go_ret
   refine ⟨v6,rfl,?_,U.out.grown G (by omega) (fun q hq=>z.out.lt q hq)⟩
   rw [HR.out];exact D
 ·simp only [if_neg ht0] at u
  have aB:za c++⟨#[40]⟩=za (c++[40]):=by show za c++za [40]=_;apply ByteArray.ext;simp [za]
  have aV:(za c).size=c.length:=rfl;have aQ:(za c++⟨#[40]⟩).size=c.length+1:=by rw [aB,zo,List.length_append];rfl
  have aX:(c==[])=false:=by rw [beq_eq_false_iff_ne];exact ht0
  go_enter Tryz.func56,Tryz.ntmps56
  go_wp2_with (at_builtin;refine ze rfl _ _ rfl B _ b rfl V.out.own (c++[40]) rfl (by simp only [List.length_append,List.length_cons,List.length_nil];omega) (by omega) ?_;intro v2 w2 O y;have an:Hid (zf B w2 v2 (b++(c++[40]))):=O;have ab:Hid (Below B w w2):=au.out.grown y (by omega) (fun q hq=>V.out.lt q hq);have aL:=y.size;obtain ⟨t0,t1,t2,-⟩:=zv ((y.block _ (by omega) aC.out).trans ak.out);clear O y)
  have X:=cc w2 ab.out;clear cc;refine X.mono ?_;clear X;rintro e w3 ⟨base,rfl,x,al⟩;have ah:Hid (zf B w3 v2 (b++(c++[40]))):=an.out.kept x (Nat.le_refl _);have Z:Hid (Below B w w3):=ab.out.trans (x.mono (by omega))
  have aF:=x.size;have cw:=av.out B w3 aa os h vo vc (HH.out.on Z.out) A _ (b++(c++[40])) v2 al.out ap.out ae.out ah.out.own (by simp only [List.length_append,List.length_cons,List.length_nil];omega)
  have M:=az;clear x;go_wp2_with fail
  refine cw.mono ?_;clear cw M;rintro e w4 ⟨v4,rfl,J,E⟩;have z:Hid (zf B w4 v4 (b++(c++[40])++zg (zH os d) A)):=J;have U:Hid (Below B w w4):=Z.out.trans E;have aK:=E.size;have aH:=ai.out;clear J E
  by_cases h8:8<n
  ·have am:(8:Int)<(n:Int):=by omega
   have HR:Hid (b++R=b++(c++[40])++zg (zH os d) A++[44,32,46,46,46]++[41]):=by show _=_;rw [u.out,if_pos h8];simp
   go_wp2_with (first | (at_builtin;refine ze rfl _ _ rfl B _ (b++(c++[40])++zg (zH os d) A++[44,32,46,46,46]) rfl T.out.own [41] rfl (by simp only [List.length_append,List.length_cons,List.length_nil];omega) (by omega) ?_;intro v6 w6 D G) | (at_builtin;refine ze rfl _ _ rfl B _ (b++(c++[40])++zg (zH os d) A) rfl z.out.own [44,32,46,46,46] rfl (by simp only [List.length_append,List.length_cons,List.length_nil];omega) (by omega) ?_;intro v5 w5 K F;have T:Hid (zf B w5 v5 (b++(c++[40])++zg (zH os d) A++[44,32,46,46,46])):=K;have aq:Hid (Below B w w5):=U.out.grown F (by omega) (fun q hq=>z.out.lt q hq);have aJ:=F.size;clear K F))
   go_ret
   refine ⟨v6,rfl,?_,aq.out.grown G (by omega) (fun q hq=>T.out.lt q hq)⟩
   rw [HR.out];exact D
  ·have am:¬ (8:Int)<(n:Int):=by omega
   have HR:Hid (b++R=b++(c++[40])++zg (zH os d) A++[41]):=by show _=_;rw [u.out,if_neg h8];simp
   go_wp2_with (at_builtin;refine ze rfl _ _ rfl B _ (b++(c++[40])++zg (zH os d) A) rfl z.out.own [41] rfl (by simp only [List.length_append,List.length_cons,List.length_nil];omega) (by omega) ?_;intro v6 w6 D G)
   go_ret
   refine ⟨v6,rfl,?_,U.out.grown G (by omega) (fun q hq=>z.out.lt q hq)⟩
   rw [HR.out];exact D
end Go.Proofs.YtbjndgachcdbcaaGreatDoor
