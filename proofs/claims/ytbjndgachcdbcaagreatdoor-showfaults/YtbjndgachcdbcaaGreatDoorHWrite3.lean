import Derived.Test.YtbjndgachcdbcaaGreatDoorHWrite2
namespace Go.Proofs.YtbjndgachcdbcaaGreatDoor
open Go.RowKit Go.Shelf
set_option maxHeartbeats 16000000
set_option maxRecDepth 100000
theorem xA:∀(l:List Vl) (a:Nat),Zp (l.drop a)=(Zp l).drop (a*3)
 | [],a=>by simp [Zp]
 | v::l,0=>by simp
 | v::l,a+1=>by
  have e:Zp (v::l)=YH v++Zp l:=rfl;rw [List.drop_succ_cons,xA l a,e,show (a+1)*3=3+a*3 by omega,←List.drop_drop]
  rfl
theorem xB:∀(l:List Vl) (a:Nat),Zp (l.take a)=(Zp l).take (a*3)
 | [],a=>by simp [Zp]
 | v::l,0=>by simp [Zp]
 | v::l,a+1=>by
  have e:Zp (v::l)=YH v++Zp l:=rfl;have b:Zp ((v::l).take (a+1))=YH v++Zp (l.take a):=rfl;rw [b,e,xB l a,List.take_append,show (a+1)*3-(YH v).length=a*3 by simp [YH];omega,List.take_of_length_le (l:=YH v) (by simp [YH];omega)]
theorem Xc {S:Nat→Prop} {w:World} {most:Nat} {os:List Ob} {h:Nat} {vo vc:Value} (H:zA S w most os h vo vc) (j:Nat) (hj:j<os.length) {base:Option Addr} (hb:1≤(os[j]).2.length→∃g n x,vc=.slice (some ⟨g,0,none⟩) n x∧base=some ⟨g,fromO os j*3,none⟩) (m:Nat) (hm:m≤(os[j]).2.length) (hl:(os[j]).2.length≤maxLen) :
  zC S w (.slice base m (os[j]).2.length) ((os[j]).2.take m):=by
 obtain ⟨B,z⟩:=ZU os j hj;have b:((os[j]).2.take m).length=m:=by rw [List.length_take];omega
 refine ⟨base,_,by rw [b],by rw [b];exact hm,hl,?_⟩
 rcases Nat.eq_zero_or_pos m with e | e
 ·left;subst e;rfl
 ·obtain ⟨g,n,x,o,rfl⟩:=hb (by omega)
  have c:=(H.cells.lt g (by rw [o];rfl)).2
  refine .inr ⟨g,fromO os j*3,rfl,H.sc g (by rw [o];rfl),c,fun q u hq=>?_⟩
  have y:=H.cells.cells (g:=g) (by rw [o];rfl) (fromO os j*3+q) u (by
   rw [←z,List.take_take,xB,xA,List.getElem?_take] at hq
   split at hq
   ·rw [List.getElem?_drop] at hq;exact hq
   ·cases hq)
  have A:(⟨g,0,none⟩:Addr).add (fromO os j*3+q)=⟨g,fromO os j*3+q,none⟩:=by
   unfold Addr.add
   split
   ·rename_i e;congr 1;omega
   ·congr 1;simp
  rwa [A] at y
theorem vz (d:Nat) (hd:d≤2) (hW:yV d):XD (d+1):=by
 intro B w ad os h vo vc H j hj b bv ah hl;have hB:=H.le;have aS:=Y4 d;have az:z7 (d+1)=10*z7 d+3000000:=rfl;rw [az] at hl;have aQ:b.length+10*z7 d≤99997000000:=by omega
 clear hl az;have V:=H.hp.ok _ (List.getElem_mem hj);have ax:=H.hp.use;have ay:=H.hp.may;obtain ⟨hcut,-⟩:=ZU os j hj;have av:(os[j]).2.length≤maxLen:=by unfold maxLen;omega
 have aK:(os[j]).1.length≤1048576:=V.2.1;have aL:Hid (zf B w bv b):=ah;have HH:Hid (xy B w ad os h vo vc):=H
 have cc:∀W,Below B w W→Calls Tryz.prog 70 #[.pointer (some ⟨h,0,none⟩),Z6 os j hj] W fun e M=>∃base,e=.returned (.slice base (os[j]).2.length (os[j]).2.length)∧Below W.heap.size W M∧Hid (zC (fun k=>k<B) M (.slice base (min (os[j]).2.length 8) (os[j]).2.length) ((os[j]).2.take 8)):=fun W hW=>by
  refine (xw j hj W (HH.out.on hW).hp).mono ?_;rintro e M ⟨base,rfl,x,ar⟩;refine ⟨base,rfl,x,?_⟩
  have:=Xc ((HH.out.on hW).hp.below x) j hj ar (min (os[j]).2.length 8) (by omega) av
  show zC _ _ _ _
  have e9:(os[j]).2.take (min (os[j]).2.length 8)=(os[j]).2.take 8:=by
   rcases Nat.le_total (os[j]).2.length 8 with h8 | h8
   ·rw [Nat.min_eq_left h8,List.take_of_length_le (Nat.le_refl _),List.take_of_length_le h8]
   ·rw [Nat.min_eq_right h8]
  rwa [e9] at this
 have an:Hid (∀v∈(os[j]).2.take 8,zb v os.length=true∧zv v):=fun v hv=>by
  have aF:=List.mem_of_mem_take hv;have h1:=V.1
  unfold VP at h1
  rw [Bool.and_eq_true,List.all_eq_true] at h1
  have:=h1.1 v aF
  unfold vt at this
  rw [Bool.and_eq_true] at this;exact ⟨this.2,V.2.2 v aF⟩
 have ae:Hid (((os[j]).2.take 8).length≤8):=by show _≤_;rw [List.length_take];omega
 have ao:Hid ((zg (zI os d) ((os[j]).2.take 8)).length≤8*(z7 d+2)):=by
  have h1:=yw (f:=zI os d) (N:=z7 d) ((os[j]).2.take 8) fun v hv=>ym (fun o ho=>(H.hp.ok o ho).2) d v (V.2.2 v (List.mem_of_mem_take hv))
  have h3:((os[j]).2.take 8).length*(z7 d+2)≤8*(z7 d+2):=Nat.mul_le_mul_right _ ae.out;show _≤_
  omega
 have u:Hid (yb os (d+1) os[j]=(if (os[j]).1=[] then [91] else (os[j]).1++[40])++zg (zI os d) ((os[j]).2.take 8)++(if 8<(os[j]).2.length then [44,32,46,46,46] else [])++(if (os[j]).1=[] then [93] else [41])):=rfl
 obtain ⟨R,hR⟩:∃R,R=yb os (d+1) os[j]:=⟨_,rfl⟩;rw [←hR] at u ⊢;obtain ⟨c,ag⟩:∃c,c=(os[j]).1:=⟨_,rfl⟩;obtain ⟨n,hn⟩:∃n,n=(os[j]).2.length:=⟨_,rfl⟩;obtain ⟨A,af⟩:∃A,A=(os[j]).2.take 8:=⟨_,rfl⟩;obtain ⟨fr,up,au⟩:∃fr up:Int,Z6 os j hj=.agg #[.string (za c),.int .i64 fr,.int .i64 up]:=⟨_,_,by rw [ag]⟩
 rw [au] at cc ⊢;rw [←ag,←hn,←af] at u;rw [←af] at an ae ao;rw [←ag] at aK;rw [←hn] at av hcut;simp only [←hn,←af] at cc;have aB:Hid (yV d):=hW;obtain ⟨w1,I⟩:∃w1,w1=w.alloc (.cells #[.string (za c),.int .i64 fr,.int .i64 up] 92):=⟨_,rfl⟩;have aV:w1.heap.size=w.heap.size+1:=by rw [I];simp
 have aC:Hid (Below B w w1):=by show Below _ _ _;rw [I];exact (Below.refl _ _).alloc hB _
 have aj:w1.heap[w.heap.size]?=some (.cells #[.string (za c),.int .i64 fr,.int .i64 up] 92 (0,0)):=by rw [I];exact World.alloc_heap_new _ _
 have X:Hid (zf B w1 bv b):=by show zf _ _ _ _;rw [I];exact aL.out.alloc _
 have al:Hid (w1.heap[w.heap.size]?=some (.cells #[.string (za c),.int .i64 fr,.int .i64 up] 92 (0,0))):=aj
 have aD:Hid (some w.heap.size≠bv.ownBlock):=fun e=>by
  obtain ⟨aR,aA⟩:=zr X.out.own e.symm;rw [al.out] at aA
  simp at aA
 obtain ⟨p0,p1,p2,-⟩:=zu aj;have aN:=I.symm;have aT:((d:Int)+1==0)=false:=by rw [beq_eq_false_iff_ne];omega
 have aX:wrap64 (d:Int)=d:=by unfold wrap64;omega
 obtain ⟨m,hm⟩:∃m,m=min n 8:=⟨_,rfl⟩;have aO:min (n:Int) 8=(m:Int):=by omega
 have aP:m≤n:=by omega
 simp only [←hm] at cc
 have aE:∀(W:World) (base:Option Addr),(Instr.slice 47 (.slice base n n) none (some (.int .i64 (m:Int))) none).run Tryz.prog W=.ok (.slice base m n) W:=fun W base=>by
  rw [run_slice_h (P:=Tryz.prog) (w:=W) 47 base n n Tryz.underlying47 .i64 _ (by omega) (by omega)]
  cases base <;> simp [sliced,go_sem,Addr.add]
 clear I aj ah H hW V hcut ax ay ag hn af au hR hm
 by_cases ht0:c=[]
 ·subst ht0
  simp only [if_true] at u
  go_enter Tryz.func56,Tryz.ntmps56
  go_wp2_with (at_builtin;refine ze rfl _ _ rfl B _ b rfl X.out.own [91] rfl (by simp only [List.length_cons,List.length_nil];omega) (by omega) ?_;intro v2 w2 J z;have ak:Hid (zf B w2 v2 (b++[91])):=J;have K:Hid (Below B w w2):=aC.out.grown z (by omega) (fun q hq=>X.out.lt q hq);have aI:=z.size;obtain ⟨t0,t1,t2,-⟩:=zu ((z.block _ (by omega) aD.out).trans al.out);clear J z)
  have O:=cc w2 K.out;clear cc;refine O.mono ?_;clear O;rintro e M ⟨base,rfl,x,ap⟩;have aq:Hid (zf B M v2 (b++[91])):=ak.out.kept x (Nat.le_refl _);have Z:Hid (Below B w M):=K.out.trans (x.mono (by omega))
  have aG:=x.size;have cw:=aB.out B M ad os h vo vc (HH.out.on Z.out) A _ (b++[91]) v2 ap.out an.out ae.out aq.out.own (by simp only [List.length_append,List.length_cons,List.length_nil];omega)
  have aa:=aE;clear x;go_wp2_with fail
  refine cw.mono ?_;clear cw aa;rintro e w4 ⟨v4,rfl,Y,G⟩;have y:Hid (zf B w4 v4 (b++[91]++zg (zI os d) A)):=Y;have U:Hid (Below B w w4):=Z.out.trans G;have aM:=G.size;have aJ:=ao.out;clear Y G
  by_cases h8:8<n
  ·have ai:(8:Int)<(n:Int):=by omega
   have HR:Hid (b++R=b++[91]++zg (zI os d) A++[44,32,46,46,46]++[93]):=by show _=_;rw [u.out,if_pos h8];simp
   go_wp2_with (first | (at_builtin;refine ze rfl _ _ rfl B _ (b++[91]++zg (zI os d) A++[44,32,46,46,46]) rfl ab.out.own [93] rfl (by simp only [List.length_append,List.length_cons,List.length_nil];omega) (by omega) ?_;intro v6 w6 D E) | (at_builtin;refine ze rfl _ _ rfl B _ (b++[91]++zg (zI os d) A) rfl y.out.own [44,32,46,46,46] rfl (by simp only [List.length_append,List.length_cons,List.length_nil];omega) (by omega) ?_;intro v5 w5 T F;have ab:Hid (zf B w5 v5 (b++[91]++zg (zI os d) A++[44,32,46,46,46])):=T;have am:Hid (Below B w w5):=U.out.grown F (by omega) (fun q hq=>y.out.lt q hq);have aH:=F.size;clear T F))
   go_ret
   refine ⟨v6,rfl,?_,am.out.grown E (by omega) (fun q hq=>ab.out.lt q hq)⟩
   rw [HR.out];exact D
  ·have ai:¬ (8:Int)<(n:Int):=by omega
   have HR:Hid (b++R=b++[91]++zg (zI os d) A++[93]):=by show _=_;rw [u.out,if_neg h8];simp
   go_wp2_with (at_builtin;refine ze rfl _ _ rfl B _ (b++[91]++zg (zI os d) A) rfl y.out.own [93] rfl (by simp only [List.length_append,List.length_cons,List.length_nil];omega) (by omega) ?_;intro v6 w6 D E)
   go_ret
   refine ⟨v6,rfl,?_,U.out.grown E (by omega) (fun q hq=>y.out.lt q hq)⟩
   rw [HR.out];exact D
 ·simp only [if_neg ht0] at u
  have aw:za c++⟨#[40]⟩=za (c++[40]):=by show za c++za [40]=_;apply ByteArray.ext;simp [za]
  have aW:(za c).size=c.length:=rfl;have aU:(za c++⟨#[40]⟩).size=c.length+1:=by rw [aw,zo,List.length_append];rfl
  have aY:(c==[])=false:=by rw [beq_eq_false_iff_ne];exact ht0
  go_enter Tryz.func56,Tryz.ntmps56
  go_wp2_with (at_builtin;refine ze rfl _ _ rfl B _ b rfl X.out.own (c++[40]) rfl (by simp only [List.length_append,List.length_cons,List.length_nil];omega) (by omega) ?_;intro v2 w2 J z;have ak:Hid (zf B w2 v2 (b++(c++[40]))):=J;have K:Hid (Below B w w2):=aC.out.grown z (by omega) (fun q hq=>X.out.lt q hq);have aI:=z.size;obtain ⟨t0,t1,t2,-⟩:=zu ((z.block _ (by omega) aD.out).trans al.out);clear J z)
  have O:=cc w2 K.out;clear cc;refine O.mono ?_;clear O;rintro e M ⟨base,rfl,x,ap⟩;have aq:Hid (zf B M v2 (b++(c++[40]))):=ak.out.kept x (Nat.le_refl _);have Z:Hid (Below B w M):=K.out.trans (x.mono (by omega))
  have aG:=x.size;have cw:=aB.out B M ad os h vo vc (HH.out.on Z.out) A _ (b++(c++[40])) v2 ap.out an.out ae.out aq.out.own (by simp only [List.length_append,List.length_cons,List.length_nil];omega)
  have aa:=aE;clear x;go_wp2_with fail
  refine cw.mono ?_;clear cw aa;rintro e w4 ⟨v4,rfl,Y,G⟩;have y:Hid (zf B w4 v4 (b++(c++[40])++zg (zI os d) A)):=Y;have U:Hid (Below B w w4):=Z.out.trans G;have aM:=G.size;have aJ:=ao.out;clear Y G
  by_cases h8:8<n
  ·have ai:(8:Int)<(n:Int):=by omega
   have HR:Hid (b++R=b++(c++[40])++zg (zI os d) A++[44,32,46,46,46]++[41]):=by show _=_;rw [u.out,if_pos h8];simp
   go_wp2_with (first | (at_builtin;refine ze rfl _ _ rfl B _ (b++(c++[40])++zg (zI os d) A++[44,32,46,46,46]) rfl ab.out.own [41] rfl (by simp only [List.length_append,List.length_cons,List.length_nil];omega) (by omega) ?_;intro v6 w6 D E) | (at_builtin;refine ze rfl _ _ rfl B _ (b++(c++[40])++zg (zI os d) A) rfl y.out.own [44,32,46,46,46] rfl (by simp only [List.length_append,List.length_cons,List.length_nil];omega) (by omega) ?_;intro v5 w5 T F;have ab:Hid (zf B w5 v5 (b++(c++[40])++zg (zI os d) A++[44,32,46,46,46])):=T;have am:Hid (Below B w w5):=U.out.grown F (by omega) (fun q hq=>y.out.lt q hq);have aH:=F.size;clear T F))
   go_ret
   refine ⟨v6,rfl,?_,am.out.grown E (by omega) (fun q hq=>ab.out.lt q hq)⟩
   rw [HR.out];exact D
  ·have ai:¬ (8:Int)<(n:Int):=by omega
   have HR:Hid (b++R=b++(c++[40])++zg (zI os d) A++[41]):=by show _=_;rw [u.out,if_neg h8];simp
   go_wp2_with (at_builtin;refine ze rfl _ _ rfl B _ (b++(c++[40])++zg (zI os d) A) rfl y.out.own [41] rfl (by simp only [List.length_append,List.length_cons,List.length_nil];omega) (by omega) ?_;intro v6 w6 D E)
   go_ret
   refine ⟨v6,rfl,?_,U.out.grown E (by omega) (fun q hq=>y.out.lt q hq)⟩
   rw [HR.out];exact D
end Go.Proofs.YtbjndgachcdbcaaGreatDoor
