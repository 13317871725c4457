import Derived.Test.YtpejpbbdgblbeaaGreatDoorMC16
import Derived.Test.YtpejpbbdgblbeaaGreatDoorMC17
import Derived.Test.YtpejpbbdgblbeaaGreatDoorSProg
import Derived.Test.YtpejpbbdgblbeaaGreatDoorMC24
namespace Go.Proofs.YtpejpbbdgblbeaaGreatDoor
open Go.RowKit Go.Shelf
set_option maxHeartbeats 16000000
set_option maxRecDepth 100000
mutual
def z6:Ex→Nat
 | .mk _ _ _ kids _=>1+depthL kids
def depthL:List Ex→Nat
 | []=>0
 | x::xs=>max (z6 x) (depthL xs)
end
theorem xI (a b:List Ex):depthL (a++b)=max (depthL a) (depthL b):=by
 induction a with
 | nil=>simp [depthL]
 | cons x xs ih=>simp [depthL,ih,Nat.max_assoc]
theorem V0 {l:List Ex} {x:Ex} (h:x∈l):z6 x≤depthL l:=by
 induction l with
 | nil=>cases h
 | cons y ys ih =>
  simp only [depthL];rcases List.mem_cons.1 h with rfl | h
  ·omega
  ·have:=ih h;omega
theorem zbK {us:List (List Value)} (hfive:∀c∈us,c.length=5) {i j:Nat} {c:List Value} (hc:us[i]?=some c) (hj:j<5):us.flatten[i*5+j]?=c[j]?:=by
 induction us generalizing i with
 | nil=>simp at hc
 | cons d ds ih =>
  have hd:=hfive d (by simp)
  cases i with
  | zero =>
   simp only [List.getElem?_cons_zero,Option.some.injEq] at hc;subst hc;rw [List.flatten_cons,List.getElem?_append_left (by omega)];simp
  | succ i =>
   rw [List.flatten_cons,List.getElem?_append_right (by omega)]
   rw [show (i+1)*5+j-d.length=i*5+j by omega]
   exact ih (fun c hc=>hfive c (by simp [hc])) (by simpa using hc)
theorem uz (S:Nat→Prop) (w:World) (l:List Ex) (v:Value) (h:zv S w l v) (hd:depthL l≤4611686018427387904)
  (hone:∀x∈l,∀c w',Below w.heap.size w w'→zY S w' x c→Calls Tryz.prog 45 #[c] w' fun e w''=>e=.returned (.int .i64 (z6 x))∧Below w.heap.size w w'') :
  Calls Tryz.prog 87 #[v,.func (.func 45) #[] #[]] w fun e w'=>e=.returned (.int .i64 (depthL l))∧Below w.heap.size w w':=by
 obtain ⟨d0,n,cap,rfl,hn⟩:∃d0 n cap,v=.slice d0 n cap∧n=l.length:=by
  rcases h with ⟨rfl,rfl⟩ | ⟨g,cap,us,rfl,_⟩
  ·exact ⟨_,_,_,rfl,rfl⟩
  ·exact ⟨_,_,_,rfl,rfl⟩
 have hcells:∀i x,l[i]?=some x→∃g a b c e0 e1 e2 k,d0=some ⟨g,0,none⟩∧g<w.heap.size∧i<n∧n≤cap∧cap≤maxLen∧zY S w x (.agg #[.int .i64 a,.string b,.int .i64 c,.slice e0 e1 e2,.int .i64 k]) ∧
   w.cell? ⟨g,i*5,none⟩=some (.int .i64 a)∧w.cell? ⟨g,i*5+1,none⟩=some (.string b)∧w.cell? ⟨g,i*5+2,none⟩=some (.int .i64 c)∧w.cell? ⟨g,i*5+3,none⟩=some (.slice e0 e1 e2)∧w.cell? ⟨g,i*5+4,none⟩=some (.int .i64 k):=by
  intro i x hx;rcases h with ⟨rfl,_⟩ | ⟨g,cap',us,hv,hne,hlen,hS,hg,hc,hm,hcell,hfive,hk⟩
  ·simp at hx
  ·cases hv
   have hi:i<l.length:=(List.getElem?_eq_some_iff.1 hx).1;obtain ⟨c,hc'⟩:∃c,us[i]?=some c:=⟨us[i]'(by omega),List.getElem?_eq_getElem (by omega)⟩
   have hxx:=hk i x c hx hc';obtain ⟨a,b,cc,e0,e1,e2,k,hag⟩:=hxx.agg
   have hcl:c=[.int .i64 a,.string b,.int .i64 cc,.slice e0 e1 e2,.int .i64 k]:=by
    have:=congrArg (fun v=>match v with | .agg a=>a.toList | _=>[]) hag
    simpa using this
   subst hcl;refine ⟨g,a,b,cc,e0,e1,e2,k,rfl,hg,by omega,by omega,hm,hxx,?_,?_,?_,?_,?_⟩
   ·exact hcell _ _ (by have:=zbK hfive hc' (j:=0) (by omega);simpa using this)
   ·exact hcell _ _ (by have:=zbK hfive hc' (j:=1) (by omega);simpa using this)
   ·exact hcell _ _ (by have:=zbK hfive hc' (j:=2) (by omega);simpa using this)
   ·exact hcell _ _ (by have:=zbK hfive hc' (j:=3) (by omega);simpa using this)
   ·exact hcell _ _ (by have:=zbK hfive hc' (j:=4) (by omega);simpa using this)
 have HC:Hid (∀i x,l[i]?=some x→∃g a b c e0 e1 e2 k,d0=some ⟨g,0,none⟩∧g<w.heap.size∧i<n∧n≤cap∧cap≤maxLen∧zY S w x (.agg #[.int .i64 a,.string b,.int .i64 c,.slice e0 e1 e2,.int .i64 k]) ∧
   w.cell? ⟨g,i*5,none⟩=some (.int .i64 a)∧w.cell? ⟨g,i*5+1,none⟩=some (.string b)∧w.cell? ⟨g,i*5+2,none⟩=some (.int .i64 c)∧w.cell? ⟨g,i*5+3,none⟩=some (.slice e0 e1 e2)∧w.cell? ⟨g,i*5+4,none⟩=some (.int .i64 k)):=hcells
 have HONE:Hid (∀x∈l,∀c w',Below w.heap.size w w'→zY S w' x c→Calls Tryz.prog 45 #[c] w' fun e w''=>e=.returned (.int .i64 (z6 x))∧Below w.heap.size w w''):=hone
 have hlen:n≤9223372036854775807:=by
  rcases Nat.eq_zero_or_pos n with h0 | h0
  ·omega
  ·obtain ⟨_,_,_,_,_,_,_,_,_,_,_,h1,h2,_⟩:=hcells 0 (l[0]'(by omega)) (List.getElem?_eq_getElem (by omega))
   unfold maxLen at h2
   omega
 have HN:Hid (n=l.length):=hn;clear h hone hcells hn
 go_enter Tryz.func87,Tryz.ntmps87
 go_wp2_with fail
 go_loopw [5,10] (fun m i wr=>∃k:Nat,k≤n∧i=.int .i64 k∧m=.int .i64 (depthL (l.take k))∧Below w.heap.size w wr) (fun _ i _=>n-(intOf i).toNat)
 case atStart=>exact ⟨0,Nat.zero_le _,rfl,rfl,Below.refl _ _⟩
 case round =>
  obtain ⟨k,hk,rfl,rfl,hbw⟩:=hrel
  by_cases hlt:k<n
  ·obtain ⟨x,hx⟩:∃x,l[k]?=some x:=⟨l[k]'(by rw [←HN.out];exact hlt),List.getElem?_eq_getElem (by rw [←HN.out];exact hlt)⟩
   obtain ⟨g,a,b,c,e0,e1,e2,j,rfl,hg,-,hnc,hcm,hxx,m0,m1,m2,m3,m4⟩:=HC.out k x hx;have n0:=(hbw.cell (p:=⟨g,k*5,none⟩) hg).trans m0;have n1:=(hbw.cell (p:=⟨g,k*5+1,none⟩) hg).trans m1;have n2:=(hbw.cell (p:=⟨g,k*5+2,none⟩) hg).trans m2;have n3:=(hbw.cell (p:=⟨g,k*5+3,none⟩) hg).trans m3;have n4:=(hbw.cell (p:=⟨g,k*5+4,none⟩) hg).trans m4;clear m0 m1 m2 m3 m4;have hlt':(k:Int)<(n:Int):=by omega
   have hb4:Below w.heap.size w (wr.alloc (.cells #[.int .i64 a,.string b,.int .i64 c,.slice e0 e1 e2,.int .i64 j] 45)):=hbw.alloc hbw.size _;have hx4:=zY.kept hxx hb4.size fun k' _ hlt=>hb4.block k' hlt
   have c4:=HONE.out x (List.mem_of_getElem? hx) _ _ hb4 hx4
   have HTK:Hid (depthL (l.take (k+1))=max (depthL (l.take k)) (z6 x)):=show _=_ by
    rw [List.take_add_one,hx,xI];simp [depthL]
   have hmx:depthL (l.take (k+1))≤depthL l:=by
    have:=xI (l.take (k+1)) (l.drop (k+1))
    rw [List.take_append_drop] at this;omega
   have hd1:z6 x≤4611686018427387904:=by have:=V0 (List.mem_of_getElem? hx);omega
   have hd2:depthL (l.take k)≤4611686018427387904:=by have:=HTK.out;omega
   clear hb4 hx4 hxx hbw HC HONE;generalize depthL (l.take k)=M at *;generalize hD:z6 x=D at *;go_wp2_with fail
   refine c4.mono ?_;clear c4;rintro e w5 ⟨rfl,hb5⟩;have HB5:Hid (Below w.heap.size w w5):=hb5;clear hb5;go_wp2
   refine ⟨⟨k+1,by omega,by go_num,?_,HB5.out⟩,by simp [intOf];omega⟩
   rw [HTK.out];congr 1;omega
  ·have hkn:k=n:=by omega
   have hlt':¬(k:Int)<(n:Int):=by omega
   have htk:l.take k=l:=List.take_of_length_le (by have:=HN.out;omega)
   have HB5:Hid (Below w.heap.size w wr):=hbw;clear hbw HC HONE;rw [htk];clear htk;go_wp2
   refine bodyPost_ret (v:=.int .i64 (depthL l)) (by simp [results,Tryz.results87,go_sem]) rfl ⟨rfl,HB5.out⟩
theorem zY.rowOf {S:Nat→Prop} {w:World} {x:Ex} {v:Value} (h:zY S w x v):∃(k:Nat) (s:List UInt8) (n:Int) (l:List Ex) (line:Nat) (d:Value),x=.mk k s n l line∧v=.agg #[.int .i64 k,.string (za s),.int .i64 n,d,.int .i64 line]∧zv S w l d:=by
 cases h with
 | leaf k s n line=>exact ⟨k,s,n,[],line,_,rfl,rfl,.inl ⟨rfl,rfl⟩⟩
 | node k s n kids line g cap us hne hlen hB hg hc hm hcell hfive hk=>exact ⟨k,s,n,kids,line,_,rfl,rfl,.inr ⟨g,cap,us,rfl,hne,hlen,hB,hg,hc,hm,hcell,hfive,hk⟩⟩
theorem Qm (S:Nat→Prop) (w w1:World) (x:Ex) (v:Value) (hb:Below w.heap.size w w1) (hx:zY S w1 x v) (hd:z6 x≤4611686018427387904)
  (hg:∀l v' w2,(∀y∈l,z6 y<z6 x)→depthL l+1=z6 x→Below w.heap.size w w2→zv S w2 l v'→Calls Tryz.prog 87 #[v',.func (.func 45) #[] #[]] w2 fun e w'=>e=.returned (.int .i64 (depthL l))∧Below w.heap.size w w') :
  Calls Tryz.prog 45 #[v] w1 fun e w'=>e=.returned (.int .i64 (z6 x))∧Below w.heap.size w w':=by
 obtain ⟨a,b,c,d0,d1,d2,k,rfl⟩:=hx.agg
 obtain ⟨l,hl,hrow⟩:∃l,z6 x=1+depthL l∧zv S w1 l (.slice d0 d1 d2):=by
  obtain ⟨k',s',n',l,line',d,rfl,hv,hrow⟩:=hx.rowOf;have hv':=congrArg (fun v=>match v with | .agg a=>a.toList | _=>[]) hv
  simp only [List.cons.injEq] at hv';obtain ⟨_,_,_,rfl,_⟩:=hv';exact ⟨l,by simp [z6],hrow⟩
 have hb2:Below w.heap.size w (w1.alloc (.cells #[.int .i64 a,.string b,.int .i64 c,.slice d0 d1 d2,.int .i64 k] 45)):=hb.alloc hb.size _;have cg:=hg l _ _ (fun y hy=>by have:=V0 hy;omega) (by omega) hb2 (hrow.kept (by simp) fun k _ hlt=>Below.heap_alloc _ _ _ hlt)
 rw [hl];clear hg hx hrow hb hb2;have hm:depthL l≤4611686018427387904:=by omega
 clear hl hd;generalize depthL l=M at *
 go_enter Tryz.func45,Tryz.ntmps45
 go_wp2_with fail
 refine cg.mono ?_;clear cg;rintro e w5 ⟨rfl,hb5⟩;have HB5:Hid (Below w.heap.size w w5):=hb5;clear hb5;go_wp2
 refine bodyPost_ret (v:=.int .i64 (1+(M:Int))) (by simp [results,Tryz.results45,go_sem]) rfl ⟨by simp,HB5.out⟩
theorem VD (S:Nat→Prop):∀(d:Nat) (w:World) (x:Ex) (v:Value) (w1:World),z6 x≤d→d≤4611686018427387904→Below w.heap.size w w1→zY S w1 x v →
  Calls Tryz.prog 45 #[v] w1 fun e w'=>e=.returned (.int .i64 (z6 x))∧Below w.heap.size w w':=by
 intro d
 induction d with
 | zero=>intro w x v w1 h;cases x;simp [z6] at h
 | succ d ih =>
  intro w x v w1 hx hd hb hE;refine Qm S w w1 x v hb hE (by omega) fun l v' w2 hl hs hb2 hrow=>?_
  refine (uz S w2 l v' hrow (by omega) fun y hy c w' hb' hy'=>ih w2 y c w' (by have:=hl y hy;omega) (by omega) hb' hy').mono fun e w' h=>⟨h.1,?_⟩
  have h2:=h.2;exact ⟨h2.os.trans hb2.os,h2.tape.trans hb2.tape,h2.output.trans hb2.output,Nat.le_trans hb2.size h2.size,fun k hk=>(h2.block k (Nat.lt_of_lt_of_le hk hb2.size)).trans (hb2.block k hk)⟩
def Y6 (res:PR Ex):Except Nat Ex :=
 match res with
 | .error a=>.error a
 | .ok (x,us)=>if (zx us).k=0 then .ok x else .error (zx us).at0
structure xW (r B2:Nat) (w w':World):Prop where
 os:w'.os=w.os
 tape:w'.tape=w.tape
 output:w'.output=w.output
 size:w.heap.size≤w'.heap.size
 block:∀k,k<w.heap.size→k≠r→k≠B2→w'.heap[k]?=w.heap[k]?
def QZ (r B2:Nat) (w:World) (res:Except Nat Ex) (e:Ending) (w':World):Prop :=
 xW r B2 w w'∧match res with
  | .error a=>e=Z2 a
  | .ok x=>e=.returned (.tuple #[])∧∃(a:Int) (b:ByteArray) (c:Int) (d0:Option Addr) (d1 d2:Nat) (l:Int),w'.heap[B2]?=some (.cells #[.int .i64 a,.string b,.int .i64 c,.slice d0 d1 d2,.int .i64 l] 45 (0,0))∧ZO w.heap.size w' x (.agg #[.int .i64 a,.string b,.int .i64 c,.slice d0 d1 d2,.int .i64 l])
theorem zhW (r g o cap B0 B1 B2 f ty0 ty1:Nat) (ts:List Tk) (w:World) (res:PR Ex) (h:zh r g o cap ts w) (hE:zj ts) (hl:ZS w) (hrl:r≠1) (hp:zk f 1 ts=some res)
  (b0:w.heap[B0]?=some (.cells #[.func (.func 44) #[] #[]] ty0 (0,0))) (b1:w.heap[B1]?=some (.cells #[.pointer (some ⟨r,0,none⟩)] ty1 (0,0))) (b2:w.heap[B2]?=some ZA) (h1:B1≠r) (h2:B2≠r) (h3:B2≠g) (h4:B1≠B2) :
  Calls Tryz.prog 85 #[.pointer (some ⟨B0,0,none⟩),.pointer (some ⟨B1,0,none⟩),.pointer (some ⟨B2,0,none⟩)] w (QZ r B2 w (Y6 res)):=by
 generalize hres:Y6 res=R;obtain ⟨t0,ts0,rfl⟩:=hE.cons;have ce:=(zfT r g hrl f).expr hrl w o cap _ res hp hE h hl;have c0:w.cell? ⟨B0,0,none⟩=some (.func (.func 44) #[] #[]):=by simp only [World.cell?,b0];rfl
 have c1:w.cell? ⟨B1,0,none⟩=some (.pointer (some ⟨r,0,none⟩)):=by simp only [World.cell?,b1];rfl
 have hB2:B2<w.heap.size:=(Array.getElem?_eq_some_iff.1 b2).1;have hB1:B1<w.heap.size:=(Array.getElem?_eq_some_iff.1 b1).1
 go_enter Tryz.func85,Tryz.ntmps85
 go_wp2_with fail
 refine ce.mono ?_;clear ce;rintro e w1 ⟨hk1,hpost⟩;rcases res with a | ⟨x,us⟩
 ·obtain rfl:=hpost
  obtain rfl:R=.error a:=by rw [←hres];rfl
  exact ⟨rfl,⟨hk1.os,hk1.tape,hk1.output,hk1.size,fun k hk hr _=>hk1.block k hk hr⟩,rfl⟩
 ·obtain ⟨v,o1,cap1,rfl,hx,hrd⟩:=hpost
  obtain ⟨a,b,c,d0,d1,d2,l,rfl⟩:=hx.agg;have hE1:=(ZF f).1 _ _ _ _ hp hE;obtain ⟨t1,ts1,rfl⟩:=hE1.cons;have p1:=(hk1.block _ hB1 h1).trans b1;have p2:=(hk1.block _ hB2 h2).trans b2;obtain ⟨q0,q1,q2,q3,q4,qf⟩:=zo p2;obtain ⟨w2,hw2⟩:∃w2,w2=set5 w1 B2 (.int .i64 a) (.string b) (.int .i64 c) (.slice d0 d1 d2) (.int .i64 l):=⟨_,rfl⟩;have hkeep:∀k,k≠B2→w2.heap[k]?=w1.heap[k]?:=fun k hk=>by rw [hw2];exact zw _ _ _ _ _ _ _ hk
  have hrd2:zh r g o1 cap1 (t1::ts1) w2:=hrd.keep (hkeep r (fun e=>h2 e.symm)) (hkeep g (fun e=>h3 e.symm))
  have hs2:w1.heap.size≤w2.heap.size:=by rw [hw2];simp
  have hx2:ZO w.heap.size w2 x (.agg #[.int .i64 a,.string b,.int .i64 c,.slice d0 d1 d2,.int .i64 l]):=ZO.kept hx hs2 fun k hB _=>hkeep k (by omega)
  have pB:w2.heap[B2]?=some (.cells #[.int .i64 a,.string b,.int .i64 c,.slice d0 d1 d2,.int .i64 l] 45 (0,0)):=by rw [hw2];exact YZ p2 _ _ _ _ _
  have d1':w2.cell? ⟨B1,0,none⟩=some (.pointer (some ⟨r,0,none⟩)):=by
   have p3:=(hkeep B1 h4).trans p1;simp only [World.cell?,p3];rfl
  have HK2:Hid (xW r B2 w w2):=⟨by rw [hw2];exact hk1.os,by rw [hw2];exact hk1.tape,by rw [hw2];exact hk1.output,Nat.le_trans hk1.size hs2,fun k hk hr hb=>(hkeep k hb).trans (hk1.block k hk hr)⟩
  have ce:=zhf r g o1 cap1 t1 ts1 w2 hrd2;have HX2:Hid (ZO w.heap.size w2 x (.agg #[.int .i64 a,.string b,.int .i64 c,.slice d0 d1 d2,.int .i64 l])):=hx2;have HPB:Hid (w2.heap[B2]?=some (.cells #[.int .i64 a,.string b,.int .i64 c,.slice d0 d1 d2,.int .i64 l] 45 (0,0))):=pB;have hw2':=hw2.symm;have hsz:=hk1.size;have hB2':B2<w2.heap.size:=(Array.getElem?_eq_some_iff.1 pB).1;clear hx2 pB hrd2 hkeep hx hrd p1 p2 hk1 hw2
  by_cases hk:t1.k=0
  ·simp only [if_pos hk] at ce
   obtain rfl:R=.ok x:=by rw [←hres];unfold Y6;simp only [zI,if_pos hk]
   go_wp2_with fail
   refine ce.mono ?_;clear ce;rintro e w3 ⟨hk3,rfl⟩
   have hP:QZ r B2 w (.ok x) (.returned (.tuple #[])) w3:=by
    refine ⟨⟨hk3.os.trans HK2.out.os,hk3.tape.trans HK2.out.tape,hk3.output.trans HK2.out.output,Nat.le_trans HK2.out.size hk3.size,fun k hk hr hb=>(hk3.block k (Nat.lt_of_lt_of_le hk HK2.out.size) hr).trans (HK2.out.block k hk hr hb)⟩,rfl,a,b,c,d0,d1,d2,l,(hk3.block _ hB2' h2).trans HPB.out,?_⟩
    exact ZO.kept HX2.out hk3.size fun k hB hlt=>hk3.block k hlt (by have:=h.lt.1;omega)
   have HP:Hid (QZ r B2 w (.ok x) (.returned (.tuple #[])) w3):=hP;clear hP hk3 HK2 HX2 HPB;go_wp2
   exact bodyPost_ret (v:=.tuple #[]) (by simp [results,Tryz.results85,go_sem]) rfl HP.out
  ·simp only [if_neg hk] at ce
   obtain rfl:R=.error t1.at0:=by rw [←hres];unfold Y6;simp only [zI,if_neg hk]
   go_wp2_with fail
   refine ce.mono ?_;clear ce;rintro e w3 ⟨hk3,rfl⟩;exact ⟨rfl,⟨hk3.os.trans HK2.out.os,hk3.tape.trans HK2.out.tape,hk3.output.trans HK2.out.output,Nat.le_trans HK2.out.size hk3.size,fun k hk hr hb=>(hk3.block k (Nat.lt_of_lt_of_le hk HK2.out.size) hr).trans (HK2.out.block k hk hr hb)⟩,rfl⟩
mutual
def ZW:St→Nat
 | .mk _ _ es b e _=>1+max (depthL es) (max (depthSs b) (depthSs e))
def depthSs:List St→Nat
 | []=>0
 | x::xs=>max (ZW x) (depthSs xs)
end
theorem Xr (a b:List St):depthSs (a++b)=max (depthSs a) (depthSs b):=by
 induction a with
 | nil=>simp [depthSs]
 | cons x xs ih=>simp [depthSs,ih,Nat.max_assoc]
theorem XF {l:List St} {x:St} (h:x∈l):ZW x≤depthSs l:=by
 induction l with
 | nil=>cases h
 | cons y ys ih =>
  simp only [depthSs];rcases List.mem_cons.1 h with rfl | h
  ·omega
  ·have:=ih h;omega
theorem vZ {sz:Nat} {us:List (List Value)} (hfive:∀c∈us,c.length=sz) {i j:Nat} {c:List Value} (hc:us[i]?=some c) (hj:j<sz):us.flatten[i*sz+j]?=c[j]?:=by
 induction us generalizing i with
 | nil=>simp at hc
 | cons d ds ih =>
  have hd:=hfive d (by simp)
  cases i with
  | zero =>
   simp only [List.getElem?_cons_zero,Option.some.injEq] at hc;subst hc;rw [List.flatten_cons,List.getElem?_append_left (by omega)];simp
  | succ i =>
   have e:(i+1)*sz=i*sz+sz:=by rw [Nat.add_mul];simp
   rw [List.flatten_cons,List.getElem?_append_right (by omega)]
   rw [show (i+1)*sz+j-d.length=i*sz+j by omega]
   exact ih (fun c hc=>hfive c (by simp [hc])) (by simpa using hc)
theorem VE (S:Nat→Prop) (w:World) (l:List St) (v:Value) (h:zD S w l v) (hd:depthSs l≤4611686018427387904)
  (hone:∀x∈l,∀c w',Below w.heap.size w w'→yS S w' x c→Calls Tryz.prog 57 #[c] w' fun e w''=>e=.returned (.int .i64 (ZW x))∧Below w.heap.size w w'') :
  Calls Tryz.prog 56 #[v,.func (.func 57) #[] #[]] w fun e w'=>e=.returned (.int .i64 (depthSs l))∧Below w.heap.size w w':=by
 obtain ⟨d0,n,cap,rfl,hn⟩:∃d0 n cap,v=.slice d0 n cap∧n=l.length:=by
  obtain ⟨g,cap,us,⟨rfl,rfl⟩ | ⟨rfl,_⟩,_⟩:=h
  ·exact ⟨_,_,_,rfl,rfl⟩
  ·exact ⟨_,_,_,rfl,rfl⟩
 have hcells:∀i x,l[i]?=some x→∃g a b e0 e1 e2 f0 f1 f2 k0 k1 k2 k,d0=some ⟨g,0,none⟩∧g<w.heap.size∧i<n∧n≤cap∧cap≤maxLen∧yS S w x (.agg #[.int .i64 a,.string b,.slice e0 e1 e2,.slice f0 f1 f2,.slice k0 k1 k2,.int .i64 k]) ∧
   w.cell? ⟨g,i*6,none⟩=some (.int .i64 a)∧w.cell? ⟨g,i*6+1,none⟩=some (.string b)∧w.cell? ⟨g,i*6+2,none⟩=some (.slice e0 e1 e2)∧w.cell? ⟨g,i*6+3,none⟩=some (.slice f0 f1 f2)∧w.cell? ⟨g,i*6+4,none⟩=some (.slice k0 k1 k2)∧w.cell? ⟨g,i*6+5,none⟩=some (.int .i64 k):=by
  intro i x hx;obtain ⟨g,cap',us,⟨rfl,_⟩ | ⟨hv,hne,hlen,hS,hg,hc,hm,hcell,hsix⟩,hk⟩:=h
  ·simp at hx
  ·cases hv
   have hi:i<l.length:=(List.getElem?_eq_some_iff.1 hx).1;obtain ⟨c,hc'⟩:∃c,us[i]?=some c:=⟨us[i]'(by omega),List.getElem?_eq_getElem (by omega)⟩
   have hxx:=hk i x c hx hc';obtain ⟨a,b,e0,e1,e2,f0,f1,f2,k0,k1,k2,k,hag⟩:=hxx.agg
   have hcl:c=[.int .i64 a,.string b,.slice e0 e1 e2,.slice f0 f1 f2,.slice k0 k1 k2,.int .i64 k]:=by
    have:=congrArg (fun v=>match v with | .agg a=>a.toList | _=>[]) hag
    simpa using this
   subst hcl;refine ⟨g,a,b,e0,e1,e2,f0,f1,f2,k0,k1,k2,k,rfl,hg,by omega,by omega,hm,hxx,?_,?_,?_,?_,?_,?_⟩
   ·exact hcell _ _ (by have:=vZ hsix hc' (j:=0) (by omega);simpa using this)
   ·exact hcell _ _ (by have:=vZ hsix hc' (j:=1) (by omega);simpa using this)
   ·exact hcell _ _ (by have:=vZ hsix hc' (j:=2) (by omega);simpa using this)
   ·exact hcell _ _ (by have:=vZ hsix hc' (j:=3) (by omega);simpa using this)
   ·exact hcell _ _ (by have:=vZ hsix hc' (j:=4) (by omega);simpa using this)
   ·exact hcell _ _ (by have:=vZ hsix hc' (j:=5) (by omega);simpa using this)
 have HC:Hid (∀i x,l[i]?=some x→∃g a b e0 e1 e2 f0 f1 f2 k0 k1 k2 k,d0=some ⟨g,0,none⟩∧g<w.heap.size∧i<n∧n≤cap∧cap≤maxLen∧yS S w x (.agg #[.int .i64 a,.string b,.slice e0 e1 e2,.slice f0 f1 f2,.slice k0 k1 k2,.int .i64 k]) ∧
   w.cell? ⟨g,i*6,none⟩=some (.int .i64 a)∧w.cell? ⟨g,i*6+1,none⟩=some (.string b)∧w.cell? ⟨g,i*6+2,none⟩=some (.slice e0 e1 e2)∧w.cell? ⟨g,i*6+3,none⟩=some (.slice f0 f1 f2)∧w.cell? ⟨g,i*6+4,none⟩=some (.slice k0 k1 k2)∧w.cell? ⟨g,i*6+5,none⟩=some (.int .i64 k)):=hcells
 have HONE:Hid (∀x∈l,∀c w',Below w.heap.size w w'→yS S w' x c→Calls Tryz.prog 57 #[c] w' fun e w''=>e=.returned (.int .i64 (ZW x))∧Below w.heap.size w w''):=hone
 have hlen:n≤9223372036854775807:=by
  rcases Nat.eq_zero_or_pos n with h0 | h0
  ·omega
  ·obtain ⟨_,_,_,_,_,_,_,_,_,_,_,_,_,_,_,_,h1,h2,_⟩:=hcells 0 (l[0]'(by omega)) (List.getElem?_eq_getElem (by omega))
   unfold maxLen at h2
   omega
 have HN:Hid (n=l.length):=hn;clear h hone hcells hn
 go_enter Tryz.func56,Tryz.ntmps56
 go_wp2_with fail
 go_loopw [5,10] (fun m i wr=>∃k:Nat,k≤n∧i=.int .i64 k∧m=.int .i64 (depthSs (l.take k))∧Below w.heap.size w wr) (fun _ i _=>n-(intOf i).toNat)
 case atStart=>exact ⟨0,Nat.zero_le _,rfl,rfl,Below.refl _ _⟩
 case round =>
  obtain ⟨k,hk,rfl,rfl,hbw⟩:=hrel
  by_cases hlt:k<n
  ·obtain ⟨x,hx⟩:∃x,l[k]?=some x:=⟨l[k]'(by rw [←HN.out];exact hlt),List.getElem?_eq_getElem (by rw [←HN.out];exact hlt)⟩
   obtain ⟨g,a,b,e0,e1,e2,f0,f1,f2,k0,k1,k2,j,rfl,hg,-,hnc,hcm,hxx,m0,m1,m2,m3,m4,m5⟩:=HC.out k x hx;have n0:=(hbw.cell (p:=⟨g,k*6,none⟩) hg).trans m0;have n1:=(hbw.cell (p:=⟨g,k*6+1,none⟩) hg).trans m1;have n2:=(hbw.cell (p:=⟨g,k*6+2,none⟩) hg).trans m2;have n3:=(hbw.cell (p:=⟨g,k*6+3,none⟩) hg).trans m3;have n4:=(hbw.cell (p:=⟨g,k*6+4,none⟩) hg).trans m4;have n5:=(hbw.cell (p:=⟨g,k*6+5,none⟩) hg).trans m5;clear m0 m1 m2 m3 m4 m5;have hlt':(k:Int)<(n:Int):=by omega
   have hb4:Below w.heap.size w (wr.alloc (.cells #[.int .i64 a,.string b,.slice e0 e1 e2,.slice f0 f1 f2,.slice k0 k1 k2,.int .i64 j] 108)):=hbw.alloc hbw.size _;have hx4:=yS.kept hxx hb4.size fun k' _ hlt=>hb4.block k' hlt
   have c4:=HONE.out x (List.mem_of_getElem? hx) _ _ hb4 hx4
   have HTK:Hid (depthSs (l.take (k+1))=max (depthSs (l.take k)) (ZW x)):=show _=_ by
    rw [List.take_add_one,hx,Xr];simp [depthSs]
   have hmx:depthSs (l.take (k+1))≤depthSs l:=by
    have:=Xr (l.take (k+1)) (l.drop (k+1))
    rw [List.take_append_drop] at this;omega
   have hd1:ZW x≤4611686018427387904:=by have:=XF (List.mem_of_getElem? hx);omega
   have hd2:depthSs (l.take k)≤4611686018427387904:=by have:=HTK.out;omega
   clear hb4 hx4 hxx hbw HC HONE;generalize depthSs (l.take k)=M at *;generalize hD:ZW x=D at *;go_wp2_with fail
   refine c4.mono ?_;clear c4;rintro e w5 ⟨rfl,hb5⟩;have HB5:Hid (Below w.heap.size w w5):=hb5;clear hb5;go_wp2
   refine ⟨⟨k+1,by omega,by go_num,?_,HB5.out⟩,by simp [intOf];omega⟩
   rw [HTK.out];congr 1;omega
  ·have hkn:k=n:=by omega
   have hlt':¬(k:Int)<(n:Int):=by omega
   have htk:l.take k=l:=List.take_of_length_le (by have:=HN.out;omega)
   have HB5:Hid (Below w.heap.size w wr):=hbw;clear hbw HC HONE;rw [htk];clear htk;go_wp2
   refine bodyPost_ret (v:=.int .i64 (depthSs l)) (by simp [results,Tryz.results56,go_sem]) rfl ⟨rfl,HB5.out⟩
theorem yS.rowsOf {S:Nat→Prop} {w:World} {x:St} {a:Int} {b:ByteArray} {ve vb vl:Value} {c:Int} (h:yS S w x (.agg #[.int .i64 a,.string b,ve,vb,vl,.int .i64 c])):∃k s es body els line,x=.mk k s es body els line∧a=(k:Int)∧b=za s∧c=(line:Int)∧zv S w es ve∧zD S w body vb∧zD S w els vl:=by
 cases h with
 | mk k s es body els line _ _ _ gb cb gl cl ub ul he hb hbk hl hlk=>exact ⟨k,s,es,body,els,line,rfl,rfl,rfl,rfl,he,⟨gb,cb,ub,hb,hbk⟩,⟨gl,cl,ul,hl,hlk⟩⟩
theorem xd {w w2 w':World} (hb2:Below w.heap.size w w2) (h2:Below w2.heap.size w2 w'):Below w.heap.size w w':=hb2.trans (h2.mono hb2.size)
theorem Qn (S:Nat→Prop) (w1:World) (x:St) (v:Value) (hx:yS S w1 x v) (hd:ZW x≤4611686018427387904)
  (hg:∀l v' w2,(∀y∈l,ZW y<ZW x)→depthSs l<ZW x→zD S w2 l v'→Calls Tryz.prog 56 #[v',.func (.func 57) #[] #[]] w2 fun e w'=>e=.returned (.int .i64 (depthSs l))∧Below w2.heap.size w2 w') :
  Calls Tryz.prog 57 #[v] w1 fun e w'=>e=.returned (.int .i64 (ZW x))∧Below w1.heap.size w1 w':=by
 obtain ⟨a,b,e0,e1,e2,b0,b1,b2,l0,l1,l2,c,rfl⟩:=hx.agg;obtain ⟨k,s,es,body,els,line,rfl,rfl,rfl,rfl,hes,hbo,hel⟩:=hx.rowsOf;have hD:ZW (.mk k s es body els line)=1+max (depthL es) (max (depthSs body) (depthSs els)):=by simp [ZW]
 obtain ⟨sB,hsB⟩:∃sB,sB=za s:=⟨_,rfl⟩;rw [←hsB];obtain ⟨w2,hw2⟩:∃w2,w2=w1.alloc (.cells #[.int .i64 (k:Int),.string sB,.slice e0 e1 e2,.slice b0 b1 b2,.slice l0 l1 l2,.int .i64 (line:Int)] 108):=⟨_,rfl⟩;have hb12:Below w1.heap.size w1 w2:=by rw [hw2];exact (Below.refl _ w1).alloc (Nat.le_refl _) _
 have p2:w2.heap[w1.heap.size]?=some (.cells #[.int .i64 (k:Int),.string sB,.slice e0 e1 e2,.slice b0 b1 b2,.slice l0 l1 l2,.int .i64 (line:Int)] 108 (0,0)):=by rw [hw2];exact World.alloc_heap_new _ _
 have hN:w1.heap.size<w2.heap.size:=(Array.getElem?_eq_some_iff.1 p2).1;obtain ⟨-,-,q2,q3,q4,-,-⟩:=zp p2
 have CE:Hid (∀W,Below w2.heap.size w2 W→Calls Tryz.prog 87 #[.slice e0 e1 e2,.func (.func 45) #[] #[]] W fun e w'=>e=.returned (.int .i64 (depthL es))∧Hid (Below w2.heap.size w2 w')):=fun W hW=>by
  have hb1W:Below w1.heap.size w1 W:=xd hb12 hW;refine (uz S W es _ (hes.kept hb1W.size fun k _ hlt=>hb1W.block k hlt) (by omega) fun y hy c w' hb' hy'=>VD S (z6 y) W y c w' (Nat.le_refl _) (by have:=V0 hy;omega) hb' hy').mono fun e w' h=>⟨h.1,xd hW h.2⟩
 have CG:∀(l:List St) (v':Value),zD S w1 l v'→(∀y∈l,ZW y<ZW (.mk k s es body els line))→depthSs l<ZW (.mk k s es body els line)→∀W,Below w2.heap.size w2 W→Calls Tryz.prog 56 #[v',.func (.func 57) #[] #[]] W fun e w'=>e=.returned (.int .i64 (depthSs l))∧Hid (Below w2.heap.size w2 w'):=fun l v' hl h1 h2 W hW=>by
  have hb1W:Below w1.heap.size w1 W:=xd hb12 hW;exact (hg l v' W h1 h2 (hl.kept hb1W.size fun k _ hlt=>hb1W.block k hlt)).mono fun e w' h=>⟨h.1,xd hW h.2⟩
 have CB:Hid (∀W,Below w2.heap.size w2 W→Calls Tryz.prog 56 #[.slice b0 b1 b2,.func (.func 57) #[] #[]] W fun e w'=>e=.returned (.int .i64 (depthSs body))∧Hid (Below w2.heap.size w2 w')):=CG body _ hbo (fun y hy=>by have:=XF hy;omega) (by omega)
 have CL:Hid (∀W,Below w2.heap.size w2 W→Calls Tryz.prog 56 #[.slice l0 l1 l2,.func (.func 57) #[] #[]] W fun e w'=>e=.returned (.int .i64 (depthSs els))∧Hid (Below w2.heap.size w2 w')):=CG els _ hel (fun y hy=>by have:=XF hy;omega) (by omega)
 rw [hD] at hd ⊢;generalize depthL es=M1 at *;generalize depthSs body=M2 at *;generalize depthSs els=M3 at *;have HB12:Hid (Below w1.heap.size w1 w2):=hb12;have hm1:M1≤4611686018427387904:=by omega
 have hm2:M2≤4611686018427387904:=by omega
 have hm3:M3≤4611686018427387904:=by omega
 have hw2':=hw2.symm;clear CG hg hx hes hbo hel hb12 p2 hw2 hD hd hsB
 go_enter Tryz.func57,Tryz.ntmps57
 go_wp2_with fail
 have z2:∀c:y8 (fun W=>Below w2.heap.size w2 W),c.1.cell? ⟨w1.heap.size,2,none⟩=some (.slice e0 e1 e2):=fun c=>(c.2.cell (p:=⟨w1.heap.size,2,none⟩) hN).trans q2
 have z3:∀c:y8 (fun W=>Below w2.heap.size w2 W),c.1.cell? ⟨w1.heap.size,3,none⟩=some (.slice b0 b1 b2):=fun c=>(c.2.cell (p:=⟨w1.heap.size,3,none⟩) hN).trans q3
 have z4:∀c:y8 (fun W=>Below w2.heap.size w2 W),c.1.cell? ⟨w1.heap.size,4,none⟩=some (.slice l0 l1 l2):=fun c=>(c.2.cell (p:=⟨w1.heap.size,4,none⟩) hN).trans q4
 have HD2:Hid (Below w2.heap.size w2 w2.drew):=(Below.refl _ _).drew;refine YK (n:=12) (S:=fun w'=>∃c:y8 (fun W=>Below w2.heap.size w2 W),w'=c.1) (by kernel_rfl) rfl rfl ?_
 refine Zz (fuel:=6) (fuel':=12) (idx:=[0,1,3,4,6,7]) (by decide +kernel) rfl rfl rfl (fun _ _ _ _ _ h=>h) ⟨⟨w2.drew,HD2.out⟩,rfl⟩ ?_
 show wpQuiet _ _ _ _ [_,_,_,_,_,_] _
 iterate 6 (go_big_quiet_step (exact rfl))
 refine wpQuiet_nil ?_;refine zG (fuel:=5) (fuel':=6) (i:=2) rfl (by decide +kernel) rfl rfl (by rfl) ?_
 intro K hK;go_simp;refine (CE.out w2.drew HD2.out).mono ?_;rintro e w3 ⟨rfl,HB3⟩
 (try go_simp)
 refine hK.out _ _ ⟨⟨w3,HB3.out⟩,rfl⟩ ?_;clear hK K;refine zG (fuel:=4) (fuel':=5) (i:=5) rfl (by decide +kernel) rfl rfl (by rfl) ?_
 intro K hK;go_simp;refine (CB.out w3 HB3.out).mono ?_;rintro e w4 ⟨rfl,HB4⟩
 (try go_simp)
 refine hK.out _ _ ⟨⟨w4,HB4.out⟩,rfl⟩ ?_;clear hK K;refine zG (fuel:=3) (fuel':=4) (i:=8) rfl (by decide +kernel) rfl rfl (by rfl) ?_
 intro K hK;go_simp;refine (CL.out w4 HB4.out).mono ?_;rintro e w5 ⟨rfl,HB5⟩
 (try go_simp)
 refine hK.out _ _ ⟨⟨w5,HB5.out⟩,rfl⟩ ?_;clear hK K;refine zG (fuel:=2) (fuel':=3) (i:=9) rfl (by decide +kernel) rfl rfl (by rfl) ?_
 intro K hK;go_simp;refine hK.out _ _ ⟨⟨w5,HB5.out⟩,rfl⟩ ?_;clear hK K;simp only [Act.put,List.setIfInBounds_toArray,List.set_cons_zero,List.set_cons_succ];refine Zz (fuel:=0) (fuel':=2) (idx:=[10,11]) (by decide +kernel) rfl rfl rfl (fun _ _ _ _ _ h=>h) ⟨⟨w5,HB5.out⟩,rfl⟩ ?_
 show wpQuiet _ _ _ _ [_,_] _
 iterate 2 (go_big_quiet_step (exact rfl))
 refine wpQuiet_nil ?_;refine ym (by decide +kernel) ?_
 have hV:(1+if (if M1<M2 then (M2:Int) else M1)<(M3:Int) then (M3:Int) else if M1<M2 then (M2:Int) else M1)=((1+max M1 (max M2 M3):Nat):Int):=by
  by_cases h1:M1<M2
  ·simp only [if_pos h1]
   split <;> omega
  ·simp only [if_neg h1]
   split <;> omega
 rw [hV];obtain ⟨V,hV2⟩:∃V,V=1+max M1 (max M2 M3):=⟨_,rfl⟩;rw [←hV2];have HV2:Hid (V=1+max M1 (max M2 M3)):=hV2;have HBF:Hid (Below w1.heap.size w1 w5):=xd HB12.out HB5.out;clear hV hV2 z2 z3 z4 q2 q3 q4 hw2';go_wp2
 all_goals exact bodyPost_ret (v:=.int .i64 (V:Int)) (by simp [results,Tryz.results57,go_sem]) rfl ⟨by rw [show (V:Int)=1+((max M1 (max M2 M3):Nat):Int) by have:=HV2.out;omega],HBF.out⟩
theorem Qo (S:Nat→Prop):∀(d:Nat) (x:St) (v:Value) (w1:World),ZW x≤d→d≤4611686018427387904→yS S w1 x v →
  Calls Tryz.prog 57 #[v] w1 fun e w'=>e=.returned (.int .i64 (ZW x))∧Below w1.heap.size w1 w':=by
 intro d
 induction d with
 | zero=>intro x v w1 h;cases x;simp [ZW] at h
 | succ d ih =>
  intro x v w1 hx hd hE;refine Qn S w1 x v hE (by omega) fun l v' w2 hl hs hrow=>?_
  exact VE S w2 l v' hrow (by omega) fun y hy c w' hb' hy'=>(ih y c w' (by have:=hl y hy;omega) (by omega) hy').mono fun e w'' h=>⟨h.1,xd hb' h.2⟩
theorem Qp (S:Nat→Prop) (w:World) (l:List St) (v:Value) (h:zD S w l v) (hd:depthSs l≤4611686018427387904) :
  Calls Tryz.prog 56 #[v,.func (.func 57) #[] #[]] w fun e w'=>e=.returned (.int .i64 (depthSs l))∧Below w.heap.size w w' :=
 VE S w l v h hd fun y hy c w' hb' hy'=>(Qo S (ZW y) y c w' (Nat.le_refl _) (by have:=XF hy;omega) hy').mono fun e w'' h=>⟨h.1,xd hb' h.2⟩
def depthFs:List Fc→Nat
 | []=>0
 | x::xs=>max (depthSs x.body) (depthFs xs)
theorem Xs (a b:List Fc):depthFs (a++b)=max (depthFs a) (depthFs b):=by
 induction a with
 | nil=>simp [depthFs]
 | cons x xs ih=>simp [depthFs,ih,Nat.max_assoc]
theorem v6 {l:List Fc} {x:Fc} (h:x∈l):depthSs x.body≤depthFs l:=by
 induction l with
 | nil=>cases h
 | cons y ys ih =>
  simp only [depthFs];rcases List.mem_cons.1 h with rfl | h
  ·omega
  ·have:=ih h;omega
theorem Ub (S:Nat→Prop) (w:World) (p:Pg) (v:Value) (h:xy S w p v) (hd:depthFs p.funs≤4611686018427387904) :
  Calls Tryz.prog 23 #[v] w fun e w'=>e=.returned (.int .i64 (depthFs p.funs))∧Below w.heap.size w w':=by
 obtain ⟨rs,l⟩:=p;simp only at hd ⊢;obtain ⟨vr,vf,rfl,hr0,h⟩:=h;simp only at h hr0;obtain ⟨rb,rc,rfl⟩:=hr0.slice
 obtain ⟨d0,n,cap,rfl,hn⟩:∃d0 n cap,vf=.slice d0 n cap∧n=l.length:=by
  obtain ⟨b,c,rfl⟩:=h.slice;exact ⟨_,_,_,rfl,rfl⟩
 obtain ⟨rn,hrn⟩:∃rn,rn=rs.length:=⟨_,rfl⟩;rw [←hrn]
 have hcells:∀i x,l[i]?=some x→∃g a e0 e1 e2 b f0 f1 f2 k,d0=some ⟨g,0,none⟩∧g<w.heap.size∧i<n∧n≤cap∧cap≤maxLen∧zD S w x.body (.slice f0 f1 f2) ∧
   w.cell? ⟨g,i*5,none⟩=some (.string a)∧w.cell? ⟨g,i*5+1,none⟩=some (.slice e0 e1 e2)∧w.cell? ⟨g,i*5+2,none⟩=some (.string b)∧w.cell? ⟨g,i*5+3,none⟩=some (.slice f0 f1 f2)∧w.cell? ⟨g,i*5+4,none⟩=some (.int .i64 k):=by
  intro i x hx;rcases h with ⟨rfl,_⟩ | ⟨g,cap',us,hv,hne,hlen,hS,hg,hc,hm,hcell,hfive,hk⟩
  ·simp at hx
  ·cases hv
   have hi:i<l.length:=(List.getElem?_eq_some_iff.1 hx).1;obtain ⟨c,hc'⟩:∃c,us[i]?=some c:=⟨us[i]'(by omega),List.getElem?_eq_getElem (by omega)⟩
   obtain ⟨vp,vb,rfl,hxp,hxb⟩:=hk i x c hx hc';obtain ⟨e0,e1,rfl⟩:=hxp.slice;obtain ⟨f0,f1,f2,rfl⟩:=hxb.slice;refine ⟨g,za x.name,e0,x.params.length,e1,za x.result,f0,f1,f2,(x.line:Int),rfl,hg,by omega,by omega,hm,hxb,?_,?_,?_,?_,?_⟩
   ·exact hcell _ _ (by have:=vZ hfive hc' (j:=0) (by omega);simpa using this)
   ·exact hcell _ _ (by have:=vZ hfive hc' (j:=1) (by omega);simpa using this)
   ·exact hcell _ _ (by have:=vZ hfive hc' (j:=2) (by omega);simpa using this)
   ·exact hcell _ _ (by have:=vZ hfive hc' (j:=3) (by omega);simpa using this)
   ·exact hcell _ _ (by have:=vZ hfive hc' (j:=4) (by omega);simpa using this)
 have HC:Hid (∀i x,l[i]?=some x→∃g a e0 e1 e2 b f0 f1 f2 k,d0=some ⟨g,0,none⟩∧g<w.heap.size∧i<n∧n≤cap∧cap≤maxLen∧zD S w x.body (.slice f0 f1 f2) ∧
   w.cell? ⟨g,i*5,none⟩=some (.string a)∧w.cell? ⟨g,i*5+1,none⟩=some (.slice e0 e1 e2)∧w.cell? ⟨g,i*5+2,none⟩=some (.string b)∧w.cell? ⟨g,i*5+3,none⟩=some (.slice f0 f1 f2)∧w.cell? ⟨g,i*5+4,none⟩=some (.int .i64 k)):=hcells
 have hlen:n≤9223372036854775807:=by
  rcases Nat.eq_zero_or_pos n with h0 | h0
  ·omega
  ·obtain ⟨_,_,_,_,_,_,_,_,_,_,_,_,_,h1,h2,_⟩:=hcells 0 (l[0]'(by omega)) (List.getElem?_eq_getElem (by omega))
   unfold maxLen at h2
   omega
 have HN:Hid (n=l.length):=hn;obtain ⟨w1,hw1⟩:∃w1,w1=w.alloc (vF (.slice rb rn rc) (.slice d0 n cap)):=⟨_,rfl⟩;have HB1:Hid (Below w.heap.size w w1):=show Below _ _ _ by rw [hw1];exact (Below.refl _ w).alloc (Nat.le_refl _) _
 have hw1':=hw1.symm;have p1:w1.heap[w.heap.size]?=some (vF (.slice rb rn rc) (.slice d0 n cap)):=by rw [hw1];exact World.alloc_heap_new _ _
 obtain ⟨-,y1,-⟩:=zZ p1;clear h hcells hn hr0 hrn hw1 p1
 go_enter Tryz.func23,Tryz.ntmps23
 go_wp2_with fail
 go_loopw [3,9] (fun m i wr=>∃k:Nat,k≤n∧i=.int .i64 k∧m=.int .i64 (depthFs (l.take k))∧Below w.heap.size w wr) (fun _ i _=>n-(intOf i).toNat)
 case atStart=>exact ⟨0,Nat.zero_le _,rfl,rfl,HB1.out⟩
 case round =>
  clear hw1' y1 HB1;obtain ⟨k,hk,rfl,rfl,hbw⟩:=hrel
  by_cases hlt:k<n
  ·obtain ⟨x,hx⟩:∃x,l[k]?=some x:=⟨l[k]'(by rw [←HN.out];exact hlt),List.getElem?_eq_getElem (by rw [←HN.out];exact hlt)⟩
   obtain ⟨g,a,e0,e1,e2,b,f0,f1,f2,j,rfl,hg,-,hnc,hcm,hxx,m0,m1,m2,m3,m4⟩:=HC.out k x hx;have n0:=(hbw.cell (p:=⟨g,k*5,none⟩) hg).trans m0;have n1:=(hbw.cell (p:=⟨g,k*5+1,none⟩) hg).trans m1;have n2:=(hbw.cell (p:=⟨g,k*5+2,none⟩) hg).trans m2;have n3:=(hbw.cell (p:=⟨g,k*5+3,none⟩) hg).trans m3;have n4:=(hbw.cell (p:=⟨g,k*5+4,none⟩) hg).trans m4;clear m0 m1 m2 m3 m4;have hlt':(k:Int)<(n:Int):=by omega
   have hb4:Below w.heap.size w (wr.alloc (.cells #[.string a,.slice e0 e1 e2,.string b,.slice f0 f1 f2,.int .i64 j] 72)):=hbw.alloc hbw.size _;have hx4:=hxx.kept hb4.size fun k' _ hlt=>hb4.block k' hlt
   have HTK:Hid (depthFs (l.take (k+1))=max (depthFs (l.take k)) (depthSs x.body)):=show _=_ by
    rw [List.take_add_one,hx,Xs];simp [depthFs]
   have hmx:depthFs (l.take (k+1))≤depthFs l:=by
    have:=Xs (l.take (k+1)) (l.drop (k+1))
    rw [List.take_append_drop] at this;omega
   have hd1:depthSs x.body≤4611686018427387904:=by have:=v6 (List.mem_of_getElem? hx);omega
   have hd2:depthFs (l.take k)≤4611686018427387904:=by have:=HTK.out;omega
   have c4:=Qp S _ x.body _ hx4 hd1;have HB4:Hid (Below w.heap.size w (wr.alloc (.cells #[.string a,.slice e0 e1 e2,.string b,.slice f0 f1 f2,.int .i64 j] 72))):=hb4;clear hb4 hx4 hxx hbw HC;generalize depthFs (l.take k)=M at *;generalize hD:depthSs x.body=D at *;go_wp2_with fail
   refine c4.mono ?_;clear c4;rintro e w5 ⟨rfl,hb5⟩;have HB5:Hid (Below w.heap.size w w5):=xd HB4.out hb5;clear hb5;go_wp2
   refine ⟨⟨k+1,by omega,by go_num,?_,HB5.out⟩,by simp [intOf];omega⟩
   rw [HTK.out];congr 1;omega
  ·have hkn:k=n:=by omega
   have hlt':¬(k:Int)<(n:Int):=by omega
   have htk:l.take k=l:=List.take_of_length_le (by have:=HN.out;omega)
   have HB5:Hid (Below w.heap.size w wr):=hbw;clear hbw HC;rw [htk];clear htk;go_wp2
   refine bodyPost_ret (v:=.int .i64 (depthFs l)) (by simp [results,Tryz.results23,go_sem]) rfl ⟨rfl,HB5.out⟩
end Go.Proofs.YtpejpbbdgblbeaaGreatDoor
