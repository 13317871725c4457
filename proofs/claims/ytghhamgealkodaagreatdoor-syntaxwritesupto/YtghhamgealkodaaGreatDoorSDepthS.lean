import Derived.Test.YtghhamgealkodaaGreatDoorMC22
import Derived.Test.YtghhamgealkodaaGreatDoorSProg
import Derived.Test.YtghhamgealkodaaGreatDoorMC27
namespace Go.Proofs.YtghhamgealkodaaGreatDoor
open Go.RowKit Go.Shelf
set_option maxRecDepth 100000
mutual
def depthS:St→Nat
 | .mk _ _ es b e _=>1+max (depthL es) (max (depthSs b) (depthSs e))
def depthSs:List St→Nat
 | []=>0
 | x::xs=>max (depthS x) (depthSs xs)
end
theorem depthSs_append (a b:List St):depthSs (a++b)=max (depthSs a) (depthSs b):=by
 induction a with
 | nil=>simp [depthSs]
 | cons x xs ih=>simp [depthSs,ih,Nat.max_assoc]
theorem depthSs_mem {l:List St} {x:St} (h:x∈l):depthS x≤depthSs l:=by
 induction l with
 | nil=>cases h
 | cons y ys ih =>
  simp only [depthSs]
  rcases List.mem_cons.1 h with rfl | h
  ·omega
  ·have:=ih h;omega
theorem flatN {sz:Nat} {us:List (List Value)} (hfive:∀c∈us,c.length=sz) {i j:Nat} {c:List Value} (hc:us[i]?=some c) (hj:j<sz):us.flatten[i*sz+j]?=c[j]?:=by
 induction us generalizing i with
 | nil=>simp at hc
 | cons d ds ih =>
  have hd:=hfive d (by simp)
  cases i with
  | zero =>
   simp only [List.getElem?_cons_zero,Option.some.injEq] at hc
   subst hc
   rw [List.flatten_cons,List.getElem?_append_left (by omega)];simp
  | succ i =>
   have e:(i+1)*sz=i*sz+sz:=by rw [Nat.add_mul];simp
   rw [List.flatten_cons,List.getElem?_append_right (by omega)]
   rw [show (i+1)*sz+j-d.length=i*sz+j by omega]
   exact ih (fun c hc=>hfive c (by simp [hc])) (by simpa using hc)
set_option maxHeartbeats 4000000 in
theorem greatestS_any (S:Nat→Prop) (w:World) (l:List St) (v:Value) (h:StsIn S w l v) (hd:depthSs l≤4611686018427387904)
  (hone:∀x∈l,∀c w',Below w.heap.size w w'→StIn S w' x c→Calls Tryz.prog 66 #[c] w' fun e w''=>e=.returned (.int .i64 (depthS x))∧Below w.heap.size w w'') :
  Calls Tryz.prog 65 #[v,.func (.func 66) #[] #[]] w fun e w'=>e=.returned (.int .i64 (depthSs l))∧Below w.heap.size w w':=by
 obtain ⟨d0,n,cap,rfl,hn⟩:∃d0 n cap,v=.slice d0 n cap∧n=l.length:=by
  obtain ⟨g,cap,us,⟨rfl,rfl⟩ | ⟨rfl,_⟩,_⟩:=h
  ·exact ⟨_,_,_,rfl,rfl⟩
  ·exact ⟨_,_,_,rfl,rfl⟩
 have hcells:∀i x,l[i]?=some x→∃g a b e0 e1 e2 f0 f1 f2 k0 k1 k2 k,d0=some ⟨g,0,none⟩∧g<w.heap.size∧i<n∧n≤cap∧cap≤maxLen∧StIn S w x (.agg #[.int .i64 a,.string b,.slice e0 e1 e2,.slice f0 f1 f2,.slice k0 k1 k2,.int .i64 k]) ∧
   w.cell? ⟨g,i*6,none⟩=some (.int .i64 a)∧w.cell? ⟨g,i*6+1,none⟩=some (.string b)∧w.cell? ⟨g,i*6+2,none⟩=some (.slice e0 e1 e2)∧w.cell? ⟨g,i*6+3,none⟩=some (.slice f0 f1 f2)∧w.cell? ⟨g,i*6+4,none⟩=some (.slice k0 k1 k2)∧w.cell? ⟨g,i*6+5,none⟩=some (.int .i64 k):=by
  intro i x hx
  obtain ⟨g,cap',us,⟨rfl,_⟩ | ⟨hv,hne,hlen,hS,hg,hc,hm,hcell,hsix⟩,hk⟩:=h
  ·simp at hx
  ·cases hv
   have hi:i<l.length:=(List.getElem?_eq_some_iff.1 hx).1
   obtain ⟨c,hc'⟩:∃c,us[i]?=some c:=⟨us[i]'(by omega),List.getElem?_eq_getElem (by omega)⟩
   have hxx:=hk i x c hx hc'
   obtain ⟨a,b,e0,e1,e2,f0,f1,f2,k0,k1,k2,k,hag⟩:=hxx.agg
   have hcl:c=[.int .i64 a,.string b,.slice e0 e1 e2,.slice f0 f1 f2,.slice k0 k1 k2,.int .i64 k]:=by
    have:=congrArg (fun v=>match v with | .agg a=>a.toList | _=>[]) hag
    simpa using this
   subst hcl
   refine ⟨g,a,b,e0,e1,e2,f0,f1,f2,k0,k1,k2,k,rfl,hg,by omega,by omega,hm,hxx,?_,?_,?_,?_,?_,?_⟩
   ·exact hcell _ _ (by have:=flatN hsix hc' (j:=0) (by omega);simpa using this)
   ·exact hcell _ _ (by have:=flatN hsix hc' (j:=1) (by omega);simpa using this)
   ·exact hcell _ _ (by have:=flatN hsix hc' (j:=2) (by omega);simpa using this)
   ·exact hcell _ _ (by have:=flatN hsix hc' (j:=3) (by omega);simpa using this)
   ·exact hcell _ _ (by have:=flatN hsix hc' (j:=4) (by omega);simpa using this)
   ·exact hcell _ _ (by have:=flatN hsix hc' (j:=5) (by omega);simpa using this)
 have HC:Hid (∀i x,l[i]?=some x→∃g a b e0 e1 e2 f0 f1 f2 k0 k1 k2 k,d0=some ⟨g,0,none⟩∧g<w.heap.size∧i<n∧n≤cap∧cap≤maxLen∧StIn S w x (.agg #[.int .i64 a,.string b,.slice e0 e1 e2,.slice f0 f1 f2,.slice k0 k1 k2,.int .i64 k]) ∧
   w.cell? ⟨g,i*6,none⟩=some (.int .i64 a)∧w.cell? ⟨g,i*6+1,none⟩=some (.string b)∧w.cell? ⟨g,i*6+2,none⟩=some (.slice e0 e1 e2)∧w.cell? ⟨g,i*6+3,none⟩=some (.slice f0 f1 f2)∧w.cell? ⟨g,i*6+4,none⟩=some (.slice k0 k1 k2)∧w.cell? ⟨g,i*6+5,none⟩=some (.int .i64 k)):=hcells
 have HONE:Hid (∀x∈l,∀c w',Below w.heap.size w w'→StIn S w' x c→Calls Tryz.prog 66 #[c] w' fun e w''=>e=.returned (.int .i64 (depthS x))∧Below w.heap.size w w''):=hone
 have hlen:n≤9223372036854775807:=by
  rcases Nat.eq_zero_or_pos n with h0 | h0
  ·omega
  ·obtain ⟨_,_,_,_,_,_,_,_,_,_,_,_,_,_,_,_,h1,h2,_⟩:=hcells 0 (l[0]'(by omega)) (List.getElem?_eq_getElem (by omega))
   unfold maxLen at h2
   omega
 have HN:Hid (n=l.length):=hn
 clear h hone hcells hn
 go_enter Tryz.func65,Tryz.ntmps65
 go_wp2_with fail
 go_loopw [5,10] (fun m i wr=>∃k:Nat,k≤n∧i=.int .i64 k∧m=.int .i64 (depthSs (l.take k))∧Below w.heap.size w wr) (fun _ i _=>n-(intOf i).toNat)
 case atStart=>exact ⟨0,Nat.zero_le _,rfl,rfl,Below.refl _ _⟩
 case round =>
  obtain ⟨k,hk,rfl,rfl,hbw⟩:=hrel
  by_cases hlt:k<n
  ·obtain ⟨x,hx⟩:∃x,l[k]?=some x:=⟨l[k]'(by rw [←HN.out];exact hlt),List.getElem?_eq_getElem (by rw [←HN.out];exact hlt)⟩
   obtain ⟨g,a,b,e0,e1,e2,f0,f1,f2,k0,k1,k2,j,rfl,hg,-,hnc,hcm,hxx,m0,m1,m2,m3,m4,m5⟩:=HC.out k x hx
   have n0:=(hbw.cell (p:=⟨g,k*6,none⟩) hg).trans m0
   have n1:=(hbw.cell (p:=⟨g,k*6+1,none⟩) hg).trans m1
   have n2:=(hbw.cell (p:=⟨g,k*6+2,none⟩) hg).trans m2
   have n3:=(hbw.cell (p:=⟨g,k*6+3,none⟩) hg).trans m3
   have n4:=(hbw.cell (p:=⟨g,k*6+4,none⟩) hg).trans m4
   have n5:=(hbw.cell (p:=⟨g,k*6+5,none⟩) hg).trans m5
   clear m0 m1 m2 m3 m4 m5
   have hlt':(k:Int)<(n:Int):=by omega
   have hb4:Below w.heap.size w (wr.alloc (.cells #[.int .i64 a,.string b,.slice e0 e1 e2,.slice f0 f1 f2,.slice k0 k1 k2,.int .i64 j] 117)):=hbw.alloc hbw.size _
   have hx4:=StIn.kept hxx hb4.size fun k' _ hlt=>hb4.block k' hlt
   have c4:=HONE.out x (List.mem_of_getElem? hx) _ _ hb4 hx4
   have HTK:Hid (depthSs (l.take (k+1))=max (depthSs (l.take k)) (depthS x)):=show _=_ by
    rw [List.take_add_one,hx,depthSs_append];simp [depthSs]
   have hmx:depthSs (l.take (k+1))≤depthSs l:=by
    have:=depthSs_append (l.take (k+1)) (l.drop (k+1))
    rw [List.take_append_drop] at this
    omega
   have hd1:depthS x≤4611686018427387904:=by have:=depthSs_mem (List.mem_of_getElem? hx);omega
   have hd2:depthSs (l.take k)≤4611686018427387904:=by have:=HTK.out;omega
   clear hb4 hx4 hxx hbw HC HONE
   generalize depthSs (l.take k)=M at *
   generalize hD:depthS x=D at *
   go_wp2_with fail
   refine c4.mono ?_
   clear c4
   rintro e w5 ⟨rfl,hb5⟩
   have HB5:Hid (Below w.heap.size w w5):=hb5
   clear hb5
   go_wp2
   refine ⟨⟨k+1,by omega,by go_num,?_,HB5.out⟩,by simp [intOf];omega⟩
   rw [HTK.out];congr 1;omega
  ·have hkn:k=n:=by omega
   have hlt':¬(k:Int)<(n:Int):=by omega
   have htk:l.take k=l:=List.take_of_length_le (by have:=HN.out;omega)
   have HB5:Hid (Below w.heap.size w wr):=hbw
   clear hbw HC HONE
   rw [htk]
   clear htk
   go_wp2
   refine bodyPost_ret (v:=.int .i64 (depthSs l)) (by simp [results,Tryz.results65,go_sem]) rfl ⟨rfl,HB5.out⟩
theorem StIn.rowsOf {S:Nat→Prop} {w:World} {x:St} {a:Int} {b:ByteArray} {ve vb vl:Value} {c:Int} (h:StIn S w x (.agg #[.int .i64 a,.string b,ve,vb,vl,.int .i64 c])):∃k s es body els line,x=.mk k s es body els line∧a=(k:Int)∧b=strB s∧c=(line:Int)∧RowIn S w es ve∧StsIn S w body vb∧StsIn S w els vl:=by
 cases h with
 | mk k s es body els line _ _ _ gb cb gl cl ub ul he hb hbk hl hlk=>exact ⟨k,s,es,body,els,line,rfl,rfl,rfl,rfl,he,⟨gb,cb,ub,hb,hbk⟩,⟨gl,cl,ul,hl,hlk⟩⟩
theorem below_via {w w2 w':World} (hb2:Below w.heap.size w w2) (h2:Below w2.heap.size w2 w'):Below w.heap.size w w':=hb2.trans (h2.mono hb2.size)
set_option maxHeartbeats 4000000 in
theorem stmtDepth_one (S:Nat→Prop) (w1:World) (x:St) (v:Value) (hx:StIn S w1 x v) (hd:depthS x≤4611686018427387904)
  (hg:∀l v' w2,(∀y∈l,depthS y<depthS x)→depthSs l<depthS x→StsIn S w2 l v'→Calls Tryz.prog 65 #[v',.func (.func 66) #[] #[]] w2 fun e w'=>e=.returned (.int .i64 (depthSs l))∧Below w2.heap.size w2 w') :
  Calls Tryz.prog 66 #[v] w1 fun e w'=>e=.returned (.int .i64 (depthS x))∧Below w1.heap.size w1 w':=by
 obtain ⟨a,b,e0,e1,e2,b0,b1,b2,l0,l1,l2,c,rfl⟩:=hx.agg
 obtain ⟨k,s,es,body,els,line,rfl,rfl,rfl,rfl,hes,hbo,hel⟩:=hx.rowsOf
 have hD:depthS (.mk k s es body els line)=1+max (depthL es) (max (depthSs body) (depthSs els)):=by simp [depthS]
 obtain ⟨sB,hsB⟩:∃sB,sB=strB s:=⟨_,rfl⟩
 rw [←hsB]
 obtain ⟨w2,hw2⟩:∃w2,w2=w1.alloc (.cells #[.int .i64 (k:Int),.string sB,.slice e0 e1 e2,.slice b0 b1 b2,.slice l0 l1 l2,.int .i64 (line:Int)] 117):=⟨_,rfl⟩
 have hb12:Below w1.heap.size w1 w2:=by rw [hw2];exact (Below.refl _ w1).alloc (Nat.le_refl _) _
 have p2:w2.heap[w1.heap.size]?=some (.cells #[.int .i64 (k:Int),.string sB,.slice e0 e1 e2,.slice b0 b1 b2,.slice l0 l1 l2,.int .i64 (line:Int)] 117 (0,0)):=by rw [hw2];exact World.alloc_heap_new _ _
 have hN:w1.heap.size<w2.heap.size:=(Array.getElem?_eq_some_iff.1 p2).1
 obtain ⟨-,-,q2,q3,q4,-,-⟩:=cells6 p2
 have CE:Hid (∀W,Below w2.heap.size w2 W→Calls Tryz.prog 78 #[.slice e0 e1 e2,.func (.func 38) #[] #[]] W fun e w'=>e=.returned (.int .i64 (depthL es))∧Hid (Below w2.heap.size w2 w')):=fun W hW=>by
  have hb1W:Below w1.heap.size w1 W:=below_via hb12 hW
  refine (greatest_any S W es _ (hes.kept hb1W.size fun k _ hlt=>hb1W.block k hlt) (by omega) fun y hy c w' hb' hy'=>exprDepth_any S (depthE y) W y c w' (Nat.le_refl _) (by have:=depthL_mem hy;omega) hb' hy').mono fun e w' h=>⟨h.1,below_via hW h.2⟩
 have CG:∀(l:List St) (v':Value),StsIn S w1 l v'→(∀y∈l,depthS y<depthS (.mk k s es body els line))→depthSs l<depthS (.mk k s es body els line)→∀W,Below w2.heap.size w2 W→Calls Tryz.prog 65 #[v',.func (.func 66) #[] #[]] W fun e w'=>e=.returned (.int .i64 (depthSs l))∧Hid (Below w2.heap.size w2 w'):=fun l v' hl h1 h2 W hW=>by
  have hb1W:Below w1.heap.size w1 W:=below_via hb12 hW
  exact (hg l v' W h1 h2 (hl.kept hb1W.size fun k _ hlt=>hb1W.block k hlt)).mono fun e w' h=>⟨h.1,below_via hW h.2⟩
 have CB:Hid (∀W,Below w2.heap.size w2 W→Calls Tryz.prog 65 #[.slice b0 b1 b2,.func (.func 66) #[] #[]] W fun e w'=>e=.returned (.int .i64 (depthSs body))∧Hid (Below w2.heap.size w2 w')):=CG body _ hbo (fun y hy=>by have:=depthSs_mem hy;omega) (by omega)
 have CL:Hid (∀W,Below w2.heap.size w2 W→Calls Tryz.prog 65 #[.slice l0 l1 l2,.func (.func 66) #[] #[]] W fun e w'=>e=.returned (.int .i64 (depthSs els))∧Hid (Below w2.heap.size w2 w')):=CG els _ hel (fun y hy=>by have:=depthSs_mem hy;omega) (by omega)
 rw [hD] at hd ⊢
 generalize depthL es=M1 at *
 generalize depthSs body=M2 at *
 generalize depthSs els=M3 at *
 have HB12:Hid (Below w1.heap.size w1 w2):=hb12
 have hm1:M1≤4611686018427387904:=by omega
 have hm2:M2≤4611686018427387904:=by omega
 have hm3:M3≤4611686018427387904:=by omega
 have hw2':=hw2.symm
 clear CG hg hx hes hbo hel hb12 p2 hw2 hD hd hsB
 go_enter Tryz.func66,Tryz.ntmps66
 go_wp2_with fail
 have z2:∀c:ClsP (fun W=>Below w2.heap.size w2 W),c.1.cell? ⟨w1.heap.size,2,none⟩=some (.slice e0 e1 e2):=fun c=>(c.2.cell (p:=⟨w1.heap.size,2,none⟩) hN).trans q2
 have z3:∀c:ClsP (fun W=>Below w2.heap.size w2 W),c.1.cell? ⟨w1.heap.size,3,none⟩=some (.slice b0 b1 b2):=fun c=>(c.2.cell (p:=⟨w1.heap.size,3,none⟩) hN).trans q3
 have z4:∀c:ClsP (fun W=>Below w2.heap.size w2 W),c.1.cell? ⟨w1.heap.size,4,none⟩=some (.slice l0 l1 l2):=fun c=>(c.2.cell (p:=⟨w1.heap.size,4,none⟩) hN).trans q4
 have HD2:Hid (Below w2.heap.size w2 w2.drew):=(Below.refl _ _).drew
 refine mix_begin (n:=12) (S:=fun w'=>∃c:ClsP (fun W=>Below w2.heap.size w2 W),w'=c.1) (by kernel_rfl) rfl rfl ?_
 refine mix_seg (fuel:=6) (fuel':=12) (idx:=[0,1,3,4,6,7]) (by decide +kernel) rfl rfl rfl (fun _ _ _ _ _ h=>h) ⟨⟨w2.drew,HD2.out⟩,rfl⟩ ?_
 show wpQuiet _ _ _ _ [_,_,_,_,_,_] _
 iterate 6 (go_big_quiet_step (exact rfl))
 refine wpQuiet_nil ?_
 refine mix_loud (fuel:=5) (fuel':=6) (i:=2) rfl (by decide +kernel) rfl rfl (by rfl) ?_
 intro K hK
 go_simp
 refine (CE.out w2.drew HD2.out).mono ?_
 rintro e w3 ⟨rfl,HB3⟩
 (try go_simp)
 refine hK.out _ _ ⟨⟨w3,HB3.out⟩,rfl⟩ ?_
 clear hK K
 refine mix_loud (fuel:=4) (fuel':=5) (i:=5) rfl (by decide +kernel) rfl rfl (by rfl) ?_
 intro K hK
 go_simp
 refine (CB.out w3 HB3.out).mono ?_
 rintro e w4 ⟨rfl,HB4⟩
 (try go_simp)
 refine hK.out _ _ ⟨⟨w4,HB4.out⟩,rfl⟩ ?_
 clear hK K
 refine mix_loud (fuel:=3) (fuel':=4) (i:=8) rfl (by decide +kernel) rfl rfl (by rfl) ?_
 intro K hK
 go_simp
 refine (CL.out w4 HB4.out).mono ?_
 rintro e w5 ⟨rfl,HB5⟩
 (try go_simp)
 refine hK.out _ _ ⟨⟨w5,HB5.out⟩,rfl⟩ ?_
 clear hK K
 refine mix_loud (fuel:=2) (fuel':=3) (i:=9) rfl (by decide +kernel) rfl rfl (by rfl) ?_
 intro K hK
 go_simp
 refine hK.out _ _ ⟨⟨w5,HB5.out⟩,rfl⟩ ?_
 clear hK K
 simp only [Act.put,List.setIfInBounds_toArray,List.set_cons_zero,List.set_cons_succ]
 refine mix_seg (fuel:=0) (fuel':=2) (idx:=[10,11]) (by decide +kernel) rfl rfl rfl (fun _ _ _ _ _ h=>h) ⟨⟨w5,HB5.out⟩,rfl⟩ ?_
 show wpQuiet _ _ _ _ [_,_] _
 iterate 2 (go_big_quiet_step (exact rfl))
 refine wpQuiet_nil ?_
 refine mix_done (by decide +kernel) ?_
 have hV:(1+if (if M1<M2 then (M2:Int) else M1)<(M3:Int) then (M3:Int) else if M1<M2 then (M2:Int) else M1)=((1+max M1 (max M2 M3):Nat):Int):=by
  by_cases h1:M1<M2
  ·simp only [if_pos h1]
   split <;> omega
  ·simp only [if_neg h1]
   split <;> omega
 rw [hV]
 obtain ⟨V,hV2⟩:∃V,V=1+max M1 (max M2 M3):=⟨_,rfl⟩
 rw [←hV2]
 have HV2:Hid (V=1+max M1 (max M2 M3)):=hV2
 have HBF:Hid (Below w1.heap.size w1 w5):=below_via HB12.out HB5.out
 clear hV hV2 z2 z3 z4 q2 q3 q4 hw2'
 go_wp2
 all_goals exact bodyPost_ret (v:=.int .i64 (V:Int)) (by simp [results,Tryz.results66,go_sem]) rfl ⟨by rw [show (V:Int)=1+((max M1 (max M2 M3):Nat):Int) by have:=HV2.out;omega],HBF.out⟩
theorem stmtDepth_any (S:Nat→Prop):∀(d:Nat) (x:St) (v:Value) (w1:World),depthS x≤d→d≤4611686018427387904→StIn S w1 x v →
  Calls Tryz.prog 66 #[v] w1 fun e w'=>e=.returned (.int .i64 (depthS x))∧Below w1.heap.size w1 w':=by
 intro d
 induction d with
 | zero=>intro x v w1 h;cases x;simp [depthS] at h
 | succ d ih =>
  intro x v w1 hx hd hE
  refine stmtDepth_one S w1 x v hE (by omega) fun l v' w2 hl hs hrow=>?_
  exact greatestS_any S w2 l v' hrow (by omega) fun y hy c w' hb' hy'=>(ih y c w' (by have:=hl y hy;omega) (by omega) hy').mono fun e w'' h=>⟨h.1,below_via hb' h.2⟩
theorem greatestS_all (S:Nat→Prop) (w:World) (l:List St) (v:Value) (h:StsIn S w l v) (hd:depthSs l≤4611686018427387904) :
  Calls Tryz.prog 65 #[v,.func (.func 66) #[] #[]] w fun e w'=>e=.returned (.int .i64 (depthSs l))∧Below w.heap.size w w' :=
 greatestS_any S w l v h hd fun y hy c w' hb' hy'=>(stmtDepth_any S (depthS y) y c w' (Nat.le_refl _) (by have:=depthSs_mem hy;omega) hy').mono fun e w'' h=>⟨h.1,below_via hb' h.2⟩
def depthFs:List Fc→Nat
 | []=>0
 | x::xs=>max (depthSs x.body) (depthFs xs)
theorem depthFs_append (a b:List Fc):depthFs (a++b)=max (depthFs a) (depthFs b):=by
 induction a with
 | nil=>simp [depthFs]
 | cons x xs ih=>simp [depthFs,ih,Nat.max_assoc]
theorem depthFs_mem {l:List Fc} {x:Fc} (h:x∈l):depthSs x.body≤depthFs l:=by
 induction l with
 | nil=>cases h
 | cons y ys ih =>
  simp only [depthFs]
  rcases List.mem_cons.1 h with rfl | h
  ·omega
  ·have:=ih h;omega
set_option maxHeartbeats 4000000 in
theorem programDepth_any (S:Nat→Prop) (w:World) (p:Pg) (v:Value) (h:PgIn S w p v) (hd:depthFs p.funs≤4611686018427387904) :
  Calls Tryz.prog 27 #[v] w fun e w'=>e=.returned (.int .i64 (depthFs p.funs))∧Below w.heap.size w w':=by
 obtain ⟨rs,l⟩:=p
 simp only at hd ⊢
 obtain ⟨vr,vf,rfl,hr0,h⟩:=h
 simp only at h hr0
 obtain ⟨rb,rc,rfl⟩:=hr0.slice
 obtain ⟨d0,n,cap,rfl,hn⟩:∃d0 n cap,vf=.slice d0 n cap∧n=l.length:=by
  obtain ⟨b,c,rfl⟩:=h.slice
  exact ⟨_,_,_,rfl,rfl⟩
 obtain ⟨rn,hrn⟩:∃rn,rn=rs.length:=⟨_,rfl⟩
 rw [←hrn]
 have hcells:∀i x,l[i]?=some x→∃g a e0 e1 e2 b f0 f1 f2 k,d0=some ⟨g,0,none⟩∧g<w.heap.size∧i<n∧n≤cap∧cap≤maxLen∧StsIn S w x.body (.slice f0 f1 f2) ∧
   w.cell? ⟨g,i*5,none⟩=some (.string a)∧w.cell? ⟨g,i*5+1,none⟩=some (.slice e0 e1 e2)∧w.cell? ⟨g,i*5+2,none⟩=some (.string b)∧w.cell? ⟨g,i*5+3,none⟩=some (.slice f0 f1 f2)∧w.cell? ⟨g,i*5+4,none⟩=some (.int .i64 k):=by
  intro i x hx
  rcases h with ⟨rfl,_⟩ | ⟨g,cap',us,hv,hne,hlen,hS,hg,hc,hm,hcell,hfive,hk⟩
  ·simp at hx
  ·cases hv
   have hi:i<l.length:=(List.getElem?_eq_some_iff.1 hx).1
   obtain ⟨c,hc'⟩:∃c,us[i]?=some c:=⟨us[i]'(by omega),List.getElem?_eq_getElem (by omega)⟩
   obtain ⟨vp,vb,rfl,hxp,hxb⟩:=hk i x c hx hc'
   obtain ⟨e0,e1,rfl⟩:=hxp.slice
   obtain ⟨f0,f1,f2,rfl⟩:=hxb.slice
   refine ⟨g,strB x.name,e0,x.params.length,e1,strB x.result,f0,f1,f2,(x.line:Int),rfl,hg,by omega,by omega,hm,hxb,?_,?_,?_,?_,?_⟩
   ·exact hcell _ _ (by have:=flatN hfive hc' (j:=0) (by omega);simpa using this)
   ·exact hcell _ _ (by have:=flatN hfive hc' (j:=1) (by omega);simpa using this)
   ·exact hcell _ _ (by have:=flatN hfive hc' (j:=2) (by omega);simpa using this)
   ·exact hcell _ _ (by have:=flatN hfive hc' (j:=3) (by omega);simpa using this)
   ·exact hcell _ _ (by have:=flatN hfive hc' (j:=4) (by omega);simpa using this)
 have HC:Hid (∀i x,l[i]?=some x→∃g a e0 e1 e2 b f0 f1 f2 k,d0=some ⟨g,0,none⟩∧g<w.heap.size∧i<n∧n≤cap∧cap≤maxLen∧StsIn S w x.body (.slice f0 f1 f2) ∧
   w.cell? ⟨g,i*5,none⟩=some (.string a)∧w.cell? ⟨g,i*5+1,none⟩=some (.slice e0 e1 e2)∧w.cell? ⟨g,i*5+2,none⟩=some (.string b)∧w.cell? ⟨g,i*5+3,none⟩=some (.slice f0 f1 f2)∧w.cell? ⟨g,i*5+4,none⟩=some (.int .i64 k)):=hcells
 have hlen:n≤9223372036854775807:=by
  rcases Nat.eq_zero_or_pos n with h0 | h0
  ·omega
  ·obtain ⟨_,_,_,_,_,_,_,_,_,_,_,_,_,h1,h2,_⟩:=hcells 0 (l[0]'(by omega)) (List.getElem?_eq_getElem (by omega))
   unfold maxLen at h2
   omega
 have HN:Hid (n=l.length):=hn
 obtain ⟨w1,hw1⟩:∃w1,w1=w.alloc (pgO (.slice rb rn rc) (.slice d0 n cap)):=⟨_,rfl⟩
 have HB1:Hid (Below w.heap.size w w1):=show Below _ _ _ by rw [hw1];exact (Below.refl _ w).alloc (Nat.le_refl _) _
 have hw1':=hw1.symm
 have p1:w1.heap[w.heap.size]?=some (pgO (.slice rb rn rc) (.slice d0 n cap)):=by rw [hw1];exact World.alloc_heap_new _ _
 obtain ⟨-,y1,-⟩:=cells2 p1
 clear h hcells hn hr0 hrn hw1 p1
 go_enter Tryz.func27,Tryz.ntmps27
 go_wp2_with fail
 go_loopw [3,9] (fun m i wr=>∃k:Nat,k≤n∧i=.int .i64 k∧m=.int .i64 (depthFs (l.take k))∧Below w.heap.size w wr) (fun _ i _=>n-(intOf i).toNat)
 case atStart=>exact ⟨0,Nat.zero_le _,rfl,rfl,HB1.out⟩
 case round =>
  clear hw1' y1 HB1
  obtain ⟨k,hk,rfl,rfl,hbw⟩:=hrel
  by_cases hlt:k<n
  ·obtain ⟨x,hx⟩:∃x,l[k]?=some x:=⟨l[k]'(by rw [←HN.out];exact hlt),List.getElem?_eq_getElem (by rw [←HN.out];exact hlt)⟩
   obtain ⟨g,a,e0,e1,e2,b,f0,f1,f2,j,rfl,hg,-,hnc,hcm,hxx,m0,m1,m2,m3,m4⟩:=HC.out k x hx
   have n0:=(hbw.cell (p:=⟨g,k*5,none⟩) hg).trans m0
   have n1:=(hbw.cell (p:=⟨g,k*5+1,none⟩) hg).trans m1
   have n2:=(hbw.cell (p:=⟨g,k*5+2,none⟩) hg).trans m2
   have n3:=(hbw.cell (p:=⟨g,k*5+3,none⟩) hg).trans m3
   have n4:=(hbw.cell (p:=⟨g,k*5+4,none⟩) hg).trans m4
   clear m0 m1 m2 m3 m4
   have hlt':(k:Int)<(n:Int):=by omega
   have hb4:Below w.heap.size w (wr.alloc (.cells #[.string a,.slice e0 e1 e2,.string b,.slice f0 f1 f2,.int .i64 j] 78)):=hbw.alloc hbw.size _
   have hx4:=hxx.kept hb4.size fun k' _ hlt=>hb4.block k' hlt
   have HTK:Hid (depthFs (l.take (k+1))=max (depthFs (l.take k)) (depthSs x.body)):=show _=_ by
    rw [List.take_add_one,hx,depthFs_append];simp [depthFs]
   have hmx:depthFs (l.take (k+1))≤depthFs l:=by
    have:=depthFs_append (l.take (k+1)) (l.drop (k+1))
    rw [List.take_append_drop] at this
    omega
   have hd1:depthSs x.body≤4611686018427387904:=by have:=depthFs_mem (List.mem_of_getElem? hx);omega
   have hd2:depthFs (l.take k)≤4611686018427387904:=by have:=HTK.out;omega
   have c4:=greatestS_all S _ x.body _ hx4 hd1
   have HB4:Hid (Below w.heap.size w (wr.alloc (.cells #[.string a,.slice e0 e1 e2,.string b,.slice f0 f1 f2,.int .i64 j] 78))):=hb4
   clear hb4 hx4 hxx hbw HC
   generalize depthFs (l.take k)=M at *
   generalize hD:depthSs x.body=D at *
   go_wp2_with fail
   refine c4.mono ?_
   clear c4
   rintro e w5 ⟨rfl,hb5⟩
   have HB5:Hid (Below w.heap.size w w5):=below_via HB4.out hb5
   clear hb5
   go_wp2
   refine ⟨⟨k+1,by omega,by go_num,?_,HB5.out⟩,by simp [intOf];omega⟩
   rw [HTK.out];congr 1;omega
  ·have hkn:k=n:=by omega
   have hlt':¬(k:Int)<(n:Int):=by omega
   have htk:l.take k=l:=List.take_of_length_le (by have:=HN.out;omega)
   have HB5:Hid (Below w.heap.size w wr):=hbw
   clear hbw HC
   rw [htk]
   clear htk
   go_wp2
   refine bodyPost_ret (v:=.int .i64 (depthFs l)) (by simp [results,Tryz.results27,go_sem]) rfl ⟨rfl,HB5.out⟩
end Go.Proofs.YtghhamgealkodaaGreatDoor
