import Derived.Test.YtghhamgealkodaaGreatDoorMC17
import Derived.Test.YtghhamgealkodaaGreatDoorMC18
namespace Go.Proofs.YtghhamgealkodaaGreatDoor
open Go.RowKit Go.Shelf
set_option maxRecDepth 100000
mutual
def depthE:Ex→Nat
 | .mk _ _ _ kids _=>1+depthL kids
def depthL:List Ex→Nat
 | []=>0
 | x::xs=>max (depthE x) (depthL xs)
end
theorem depthL_append (a b:List Ex):depthL (a++b)=max (depthL a) (depthL b):=by
 induction a with
 | nil=>simp [depthL]
 | cons x xs ih=>simp [depthL,ih,Nat.max_assoc]
theorem depthL_mem {l:List Ex} {x:Ex} (h:x∈l):depthE x≤depthL l:=by
 induction l with
 | nil=>cases h
 | cons y ys ih =>
  simp only [depthL]
  rcases List.mem_cons.1 h with rfl | h
  ·omega
  ·have:=ih h;omega
theorem flat5 {us:List (List Value)} (hfive:∀c∈us,c.length=5) {i j:Nat} {c:List Value} (hc:us[i]?=some c) (hj:j<5):us.flatten[i*5+j]?=c[j]?:=by
 induction us generalizing i with
 | nil=>simp at hc
 | cons d ds ih =>
  have hd:=hfive d (by simp)
  cases i with
  | zero =>
   simp only [List.getElem?_cons_zero,Option.some.injEq] at hc
   subst hc
   rw [List.flatten_cons,List.getElem?_append_left (by omega)];simp
  | succ i =>
   rw [List.flatten_cons,List.getElem?_append_right (by omega)]
   rw [show (i+1)*5+j-d.length=i*5+j by omega]
   exact ih (fun c hc=>hfive c (by simp [hc])) (by simpa using hc)
set_option maxHeartbeats 4000000 in
theorem greatest_any (S:Nat→Prop) (w:World) (l:List Ex) (v:Value) (h:RowIn S w l v) (hd:depthL l≤4611686018427387904)
  (hone:∀x∈l,∀c w',Below w.heap.size w w'→ExIn S w' x c→Calls Tryz.prog 38 #[c] w' fun e w''=>e=.returned (.int .i64 (depthE x))∧Below w.heap.size w w'') :
  Calls Tryz.prog 78 #[v,.func (.func 38) #[] #[]] w fun e w'=>e=.returned (.int .i64 (depthL l))∧Below w.heap.size w w':=by
 obtain ⟨d0,n,cap,rfl,hn⟩:∃d0 n cap,v=.slice d0 n cap∧n=l.length:=by
  rcases h with ⟨rfl,rfl⟩ | ⟨g,cap,us,rfl,_⟩
  ·exact ⟨_,_,_,rfl,rfl⟩
  ·exact ⟨_,_,_,rfl,rfl⟩
 have hcells:∀i x,l[i]?=some x→∃g a b c e0 e1 e2 k,d0=some ⟨g,0,none⟩∧g<w.heap.size∧i<n∧n≤cap∧cap≤maxLen∧ExIn S w x (.agg #[.int .i64 a,.string b,.int .i64 c,.slice e0 e1 e2,.int .i64 k]) ∧
   w.cell? ⟨g,i*5,none⟩=some (.int .i64 a)∧w.cell? ⟨g,i*5+1,none⟩=some (.string b)∧w.cell? ⟨g,i*5+2,none⟩=some (.int .i64 c)∧w.cell? ⟨g,i*5+3,none⟩=some (.slice e0 e1 e2)∧w.cell? ⟨g,i*5+4,none⟩=some (.int .i64 k):=by
  intro i x hx
  rcases h with ⟨rfl,_⟩ | ⟨g,cap',us,hv,hne,hlen,hS,hg,hc,hm,hcell,hfive,hk⟩
  ·simp at hx
  ·cases hv
   have hi:i<l.length:=(List.getElem?_eq_some_iff.1 hx).1
   obtain ⟨c,hc'⟩:∃c,us[i]?=some c:=⟨us[i]'(by omega),List.getElem?_eq_getElem (by omega)⟩
   have hxx:=hk i x c hx hc'
   obtain ⟨a,b,cc,e0,e1,e2,k,hag⟩:=hxx.agg
   have hcl:c=[.int .i64 a,.string b,.int .i64 cc,.slice e0 e1 e2,.int .i64 k]:=by
    have:=congrArg (fun v=>match v with | .agg a=>a.toList | _=>[]) hag
    simpa using this
   subst hcl
   refine ⟨g,a,b,cc,e0,e1,e2,k,rfl,hg,by omega,by omega,hm,hxx,?_,?_,?_,?_,?_⟩
   ·exact hcell _ _ (by have:=flat5 hfive hc' (j:=0) (by omega);simpa using this)
   ·exact hcell _ _ (by have:=flat5 hfive hc' (j:=1) (by omega);simpa using this)
   ·exact hcell _ _ (by have:=flat5 hfive hc' (j:=2) (by omega);simpa using this)
   ·exact hcell _ _ (by have:=flat5 hfive hc' (j:=3) (by omega);simpa using this)
   ·exact hcell _ _ (by have:=flat5 hfive hc' (j:=4) (by omega);simpa using this)
 have HC:Hid (∀i x,l[i]?=some x→∃g a b c e0 e1 e2 k,d0=some ⟨g,0,none⟩∧g<w.heap.size∧i<n∧n≤cap∧cap≤maxLen∧ExIn S w x (.agg #[.int .i64 a,.string b,.int .i64 c,.slice e0 e1 e2,.int .i64 k]) ∧
   w.cell? ⟨g,i*5,none⟩=some (.int .i64 a)∧w.cell? ⟨g,i*5+1,none⟩=some (.string b)∧w.cell? ⟨g,i*5+2,none⟩=some (.int .i64 c)∧w.cell? ⟨g,i*5+3,none⟩=some (.slice e0 e1 e2)∧w.cell? ⟨g,i*5+4,none⟩=some (.int .i64 k)):=hcells
 have HONE:Hid (∀x∈l,∀c w',Below w.heap.size w w'→ExIn S w' x c→Calls Tryz.prog 38 #[c] w' fun e w''=>e=.returned (.int .i64 (depthE x))∧Below w.heap.size w w''):=hone
 have hlen:n≤9223372036854775807:=by
  rcases Nat.eq_zero_or_pos n with h0 | h0
  ·omega
  ·obtain ⟨_,_,_,_,_,_,_,_,_,_,_,h1,h2,_⟩:=hcells 0 (l[0]'(by omega)) (List.getElem?_eq_getElem (by omega))
   unfold maxLen at h2
   omega
 have HN:Hid (n=l.length):=hn
 clear h hone hcells hn
 go_enter Tryz.func78,Tryz.ntmps78
 go_wp2_with fail
 go_loopw [5,10] (fun m i wr=>∃k:Nat,k≤n∧i=.int .i64 k∧m=.int .i64 (depthL (l.take k))∧Below w.heap.size w wr) (fun _ i _=>n-(intOf i).toNat)
 case atStart=>exact ⟨0,Nat.zero_le _,rfl,rfl,Below.refl _ _⟩
 case round =>
  obtain ⟨k,hk,rfl,rfl,hbw⟩:=hrel
  by_cases hlt:k<n
  ·obtain ⟨x,hx⟩:∃x,l[k]?=some x:=⟨l[k]'(by rw [←HN.out];exact hlt),List.getElem?_eq_getElem (by rw [←HN.out];exact hlt)⟩
   obtain ⟨g,a,b,c,e0,e1,e2,j,rfl,hg,-,hnc,hcm,hxx,m0,m1,m2,m3,m4⟩:=HC.out k x hx
   have n0:=(hbw.cell (p:=⟨g,k*5,none⟩) hg).trans m0
   have n1:=(hbw.cell (p:=⟨g,k*5+1,none⟩) hg).trans m1
   have n2:=(hbw.cell (p:=⟨g,k*5+2,none⟩) hg).trans m2
   have n3:=(hbw.cell (p:=⟨g,k*5+3,none⟩) hg).trans m3
   have n4:=(hbw.cell (p:=⟨g,k*5+4,none⟩) hg).trans m4
   clear m0 m1 m2 m3 m4
   have hlt':(k:Int)<(n:Int):=by omega
   have hb4:Below w.heap.size w (wr.alloc (.cells #[.int .i64 a,.string b,.int .i64 c,.slice e0 e1 e2,.int .i64 j] 40)):=hbw.alloc hbw.size _
   have hx4:=ExIn.kept hxx hb4.size fun k' _ hlt=>hb4.block k' hlt
   have c4:=HONE.out x (List.mem_of_getElem? hx) _ _ hb4 hx4
   have HTK:Hid (depthL (l.take (k+1))=max (depthL (l.take k)) (depthE x)):=show _=_ by
    rw [List.take_add_one,hx,depthL_append];simp [depthL]
   have hmx:depthL (l.take (k+1))≤depthL l:=by
    have:=depthL_append (l.take (k+1)) (l.drop (k+1))
    rw [List.take_append_drop] at this
    omega
   have hd1:depthE x≤4611686018427387904:=by have:=depthL_mem (List.mem_of_getElem? hx);omega
   have hd2:depthL (l.take k)≤4611686018427387904:=by have:=HTK.out;omega
   clear hb4 hx4 hxx hbw HC HONE
   generalize depthL (l.take k)=M at *
   generalize hD:depthE x=D at *
   go_wp2_with fail
   refine c4.mono ?_
   clear c4
   rintro e w5 ⟨rfl,hb5⟩
   have HB5:Hid (Below w.heap.size w w5):=hb5
   clear hb5
   go_wp2
   refine ⟨⟨k+1,by omega,by go_num,?_,HB5.out⟩,by simp [intOf];omega⟩
   rw [HTK.out];congr 1;omega
  ·have hkn:k=n:=by omega
   have hlt':¬(k:Int)<(n:Int):=by omega
   have htk:l.take k=l:=List.take_of_length_le (by have:=HN.out;omega)
   have HB5:Hid (Below w.heap.size w wr):=hbw
   clear hbw HC HONE
   rw [htk]
   clear htk
   go_wp2
   refine bodyPost_ret (v:=.int .i64 (depthL l)) (by simp [results,Tryz.results78,go_sem]) rfl ⟨rfl,HB5.out⟩
theorem ExIn.rowOf {S:Nat→Prop} {w:World} {x:Ex} {v:Value} (h:ExIn S w x v):∃(k:Nat) (s:List UInt8) (n:Int) (l:List Ex) (line:Nat) (d:Value),x=.mk k s n l line∧v=.agg #[.int .i64 k,.string (strB s),.int .i64 n,d,.int .i64 line]∧RowIn S w l d:=by
 cases h with
 | leaf k s n line=>exact ⟨k,s,n,[],line,_,rfl,rfl,.inl ⟨rfl,rfl⟩⟩
 | node k s n kids line g cap us hne hlen hB hg hc hm hcell hfive hk=>exact ⟨k,s,n,kids,line,_,rfl,rfl,.inr ⟨g,cap,us,rfl,hne,hlen,hB,hg,hc,hm,hcell,hfive,hk⟩⟩
set_option maxHeartbeats 4000000 in
theorem exprDepth_one (S:Nat→Prop) (w w1:World) (x:Ex) (v:Value) (hb:Below w.heap.size w w1) (hx:ExIn S w1 x v) (hd:depthE x≤4611686018427387904)
  (hg:∀l v' w2,(∀y∈l,depthE y<depthE x)→depthL l+1=depthE x→Below w.heap.size w w2→RowIn S w2 l v'→Calls Tryz.prog 78 #[v',.func (.func 38) #[] #[]] w2 fun e w'=>e=.returned (.int .i64 (depthL l))∧Below w.heap.size w w') :
  Calls Tryz.prog 38 #[v] w1 fun e w'=>e=.returned (.int .i64 (depthE x))∧Below w.heap.size w w':=by
 obtain ⟨a,b,c,d0,d1,d2,k,rfl⟩:=hx.agg
 obtain ⟨l,hl,hrow⟩:∃l,depthE x=1+depthL l∧RowIn S w1 l (.slice d0 d1 d2):=by
  obtain ⟨k',s',n',l,line',d,rfl,hv,hrow⟩:=hx.rowOf
  have hv':=congrArg (fun v=>match v with | .agg a=>a.toList | _=>[]) hv
  simp only [List.cons.injEq] at hv'
  obtain ⟨_,_,_,rfl,_⟩:=hv'
  exact ⟨l,by simp [depthE],hrow⟩
 have hb2:Below w.heap.size w (w1.alloc (.cells #[.int .i64 a,.string b,.int .i64 c,.slice d0 d1 d2,.int .i64 k] 40)):=hb.alloc hb.size _
 have cg:=hg l _ _ (fun y hy=>by have:=depthL_mem hy;omega) (by omega) hb2 (hrow.kept (by simp) fun k _ hlt=>Below.heap_alloc _ _ _ hlt)
 rw [hl]
 clear hg hx hrow hb hb2
 have hm:depthL l≤4611686018427387904:=by omega
 clear hl hd
 generalize depthL l=M at *
 go_enter Tryz.func38,Tryz.ntmps38
 go_wp2_with fail
 refine cg.mono ?_
 clear cg
 rintro e w5 ⟨rfl,hb5⟩
 have HB5:Hid (Below w.heap.size w w5):=hb5
 clear hb5
 go_wp2
 refine bodyPost_ret (v:=.int .i64 (1+(M:Int))) (by simp [results,Tryz.results38,go_sem]) rfl ⟨by simp,HB5.out⟩
theorem exprDepth_any (S:Nat→Prop):∀(d:Nat) (w:World) (x:Ex) (v:Value) (w1:World),depthE x≤d→d≤4611686018427387904→Below w.heap.size w w1→ExIn S w1 x v →
  Calls Tryz.prog 38 #[v] w1 fun e w'=>e=.returned (.int .i64 (depthE x))∧Below w.heap.size w w':=by
 intro d
 induction d with
 | zero=>intro w x v w1 h;cases x;simp [depthE] at h
 | succ d ih =>
  intro w x v w1 hx hd hb hE
  refine exprDepth_one S w w1 x v hb hE (by omega) fun l v' w2 hl hs hb2 hrow=>?_
  refine (greatest_any S w2 l v' hrow (by omega) fun y hy c w' hb' hy'=>ih w2 y c w' (by have:=hl y hy;omega) (by omega) hb' hy').mono fun e w' h=>⟨h.1,?_⟩
  have h2:=h.2
  exact ⟨h2.os.trans hb2.os,h2.tape.trans hb2.tape,h2.output.trans hb2.output,Nat.le_trans hb2.size h2.size,fun k hk=>(h2.block k (Nat.lt_of_lt_of_le hk hb2.size)).trans (hb2.block k hk)⟩
def wholeR (res:PR Ex):Except Nat Ex :=
 match res with
 | .error a=>.error a
 | .ok (x,us)=>if (hdT us).k=0 then .ok x else .error (hdT us).at0
structure Kept2 (r B2:Nat) (w w':World):Prop where
 os:w'.os=w.os
 tape:w'.tape=w.tape
 output:w'.output=w.output
 size:w.heap.size≤w'.heap.size
 block:∀k,k<w.heap.size→k≠r→k≠B2→w'.heap[k]?=w.heap[k]?
def PostW (r B2:Nat) (w:World) (res:Except Nat Ex) (e:Ending) (w':World):Prop :=
 Kept2 r B2 w w'∧match res with
  | .error a=>e=gaveUp a
  | .ok x=>e=.returned (.tuple #[])∧∃(a:Int) (b:ByteArray) (c:Int) (d0:Option Addr) (d1 d2:Nat) (l:Int),w'.heap[B2]?=some (.cells #[.int .i64 a,.string b,.int .i64 c,.slice d0 d1 d2,.int .i64 l] 40 (0,0))∧ExAt w.heap.size w' x (.agg #[.int .i64 a,.string b,.int .i64 c,.slice d0 d1 d2,.int .i64 l])
set_option maxHeartbeats 4000000 in
theorem readDo (r g o cap B0 B1 B2 f ty0 ty1:Nat) (ts:List Tk) (w:World) (res:PR Ex) (h:RdAt r g o cap ts w) (hE:EndsT ts) (hl:LevT w) (hrl:r≠1) (hp:pBetween f 1 ts=some res)
  (b0:w.heap[B0]?=some (.cells #[.func (.func 37) #[] #[]] ty0 (0,0))) (b1:w.heap[B1]?=some (.cells #[.pointer (some ⟨r,0,none⟩)] ty1 (0,0))) (b2:w.heap[B2]?=some exZ) (h1:B1≠r) (h2:B2≠r) (h3:B2≠g) (h4:B1≠B2) :
  Calls Tryz.prog 76 #[.pointer (some ⟨B0,0,none⟩),.pointer (some ⟨B1,0,none⟩),.pointer (some ⟨B2,0,none⟩)] w (PostW r B2 w (wholeR res)):=by
 generalize hres:wholeR res=R
 obtain ⟨t0,ts0,rfl⟩:=hE.cons
 have ce:=(readsE r g hrl f).expr hrl w o cap _ res hp hE h hl
 have c0:w.cell? ⟨B0,0,none⟩=some (.func (.func 37) #[] #[]):=by simp only [World.cell?,b0];rfl
 have c1:w.cell? ⟨B1,0,none⟩=some (.pointer (some ⟨r,0,none⟩)):=by simp only [World.cell?,b1];rfl
 have hB2:B2<w.heap.size:=(Array.getElem?_eq_some_iff.1 b2).1
 have hB1:B1<w.heap.size:=(Array.getElem?_eq_some_iff.1 b1).1
 go_enter Tryz.func76,Tryz.ntmps76
 go_wp2_with fail
 refine ce.mono ?_
 clear ce
 rintro e w1 ⟨hk1,hpost⟩
 rcases res with a | ⟨x,us⟩
 ·obtain rfl:=hpost
  obtain rfl:R=.error a:=by rw [←hres];rfl
  exact ⟨rfl,⟨hk1.os,hk1.tape,hk1.output,hk1.size,fun k hk hr _=>hk1.block k hk hr⟩,rfl⟩
 ·obtain ⟨v,o1,cap1,rfl,hx,hrd⟩:=hpost
  obtain ⟨a,b,c,d0,d1,d2,l,rfl⟩:=hx.agg
  have hE1:=(parse_ends f).1 _ _ _ _ hp hE
  obtain ⟨t1,ts1,rfl⟩:=hE1.cons
  have p1:=(hk1.block _ hB1 h1).trans b1
  have p2:=(hk1.block _ hB2 h2).trans b2
  obtain ⟨q0,q1,q2,q3,q4,qf⟩:=cells5 p2
  obtain ⟨w2,hw2⟩:∃w2,w2=set5 w1 B2 (.int .i64 a) (.string b) (.int .i64 c) (.slice d0 d1 d2) (.int .i64 l):=⟨_,rfl⟩
  have hkeep:∀k,k≠B2→w2.heap[k]?=w1.heap[k]?:=fun k hk=>by rw [hw2];exact set5_keep _ _ _ _ _ _ _ hk
  have hrd2:RdAt r g o1 cap1 (t1::ts1) w2:=hrd.keep (hkeep r (fun e=>h2 e.symm)) (hkeep g (fun e=>h3 e.symm))
  have hs2:w1.heap.size≤w2.heap.size:=by rw [hw2];simp
  have hx2:ExAt w.heap.size w2 x (.agg #[.int .i64 a,.string b,.int .i64 c,.slice d0 d1 d2,.int .i64 l]):=ExAt.kept hx hs2 fun k hB _=>hkeep k (by omega)
  have pB:w2.heap[B2]?=some (.cells #[.int .i64 a,.string b,.int .i64 c,.slice d0 d1 d2,.int .i64 l] 40 (0,0)):=by rw [hw2];exact set5_block p2 _ _ _ _ _
  have d1':w2.cell? ⟨B1,0,none⟩=some (.pointer (some ⟨r,0,none⟩)):=by
   have p3:=(hkeep B1 h4).trans p1
   simp only [World.cell?,p3];rfl
  have HK2:Hid (Kept2 r B2 w w2):=⟨by rw [hw2];exact hk1.os,by rw [hw2];exact hk1.tape,by rw [hw2];exact hk1.output,Nat.le_trans hk1.size hs2,fun k hk hr hb=>(hkeep k hb).trans (hk1.block k hk hr)⟩
  have ce:=rdEnd r g o1 cap1 t1 ts1 w2 hrd2
  have HX2:Hid (ExAt w.heap.size w2 x (.agg #[.int .i64 a,.string b,.int .i64 c,.slice d0 d1 d2,.int .i64 l])):=hx2
  have HPB:Hid (w2.heap[B2]?=some (.cells #[.int .i64 a,.string b,.int .i64 c,.slice d0 d1 d2,.int .i64 l] 40 (0,0))):=pB
  have hw2':=hw2.symm
  have hsz:=hk1.size
  have hB2':B2<w2.heap.size:=(Array.getElem?_eq_some_iff.1 pB).1
  clear hx2 pB hrd2 hkeep hx hrd p1 p2 hk1 hw2
  by_cases hk:t1.k=0
  ·simp only [if_pos hk] at ce
   obtain rfl:R=.ok x:=by rw [←hres];unfold wholeR;simp only [hdT_cons,if_pos hk]
   go_wp2_with fail
   refine ce.mono ?_
   clear ce
   rintro e w3 ⟨hk3,rfl⟩
   have hP:PostW r B2 w (.ok x) (.returned (.tuple #[])) w3:=by
    refine ⟨⟨hk3.os.trans HK2.out.os,hk3.tape.trans HK2.out.tape,hk3.output.trans HK2.out.output,Nat.le_trans HK2.out.size hk3.size,fun k hk hr hb=>(hk3.block k (Nat.lt_of_lt_of_le hk HK2.out.size) hr).trans (HK2.out.block k hk hr hb)⟩,rfl,a,b,c,d0,d1,d2,l,(hk3.block _ hB2' h2).trans HPB.out,?_⟩
    exact ExAt.kept HX2.out hk3.size fun k hB hlt=>hk3.block k hlt (by have:=h.lt.1;omega)
   have HP:Hid (PostW r B2 w (.ok x) (.returned (.tuple #[])) w3):=hP
   clear hP hk3 HK2 HX2 HPB
   go_wp2
   exact bodyPost_ret (v:=.tuple #[]) (by simp [results,Tryz.results76,go_sem]) rfl HP.out
  ·simp only [if_neg hk] at ce
   obtain rfl:R=.error t1.at0:=by rw [←hres];unfold wholeR;simp only [hdT_cons,if_neg hk]
   go_wp2_with fail
   refine ce.mono ?_
   clear ce
   rintro e w3 ⟨hk3,rfl⟩
   exact ⟨rfl,⟨hk3.os.trans HK2.out.os,hk3.tape.trans HK2.out.tape,hk3.output.trans HK2.out.output,Nat.le_trans HK2.out.size hk3.size,fun k hk hr hb=>(hk3.block k (Nat.lt_of_lt_of_le hk HK2.out.size) hr).trans (HK2.out.block k hk hr hb)⟩,rfl⟩
end Go.Proofs.YtghhamgealkodaaGreatDoor
