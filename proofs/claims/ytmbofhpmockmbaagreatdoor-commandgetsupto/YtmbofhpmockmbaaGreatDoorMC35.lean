import Derived.Test.YtmbofhpmockmbaaGreatDoorMC26
import Derived.Test.YtmbofhpmockmbaaGreatDoorMC31
namespace Go.Proofs.YtmbofhpmockmbaaGreatDoor
open Go.RowKit Go.Shelf
set_option maxHeartbeats 16000000
set_option maxRecDepth 100000
mutual
def zo:Ex→Nat
 | .mk _ _ _ kids _=>1+depthL kids
def depthL:List Ex→Nat
 | []=>0
 | x::xs=>max (zo x) (depthL xs)
end
theorem ZU (a b:List Ex):depthL (a++b)=max (depthL a) (depthL b):=by
 induction a with
 | nil=>simp [depthL]
 | cons x xs ih=>simp [depthL,ih,Nat.max_assoc]
theorem xL {l:List Ex} {x:Ex} (h:x∈l):zo x≤depthL l:=by
 induction l with
 | nil=>cases h
 | cons y ys ih =>
  simp only [depthL];rcases List.mem_cons.1 h with rfl | h
  ·omega
  ·have:=ih h;omega
theorem vN {us:List (List Value)} (hfive:∀c∈us,c.length=5) {i j:Nat} {c:List Value} (hc:us[i]?=some c) (hj:j<5):us.flatten[i*5+j]?=c[j]?:=by
 induction us generalizing i with
 | nil=>simp at hc
 | cons d ds ih =>
  have o:=hfive d (by simp)
  cases i with
  | zero =>
   simp only [List.getElem?_cons_zero,Option.some.injEq] at hc;subst hc;rw [List.flatten_cons,List.getElem?_append_left (by omega)];simp
  | succ i =>
   rw [List.flatten_cons,List.getElem?_append_right (by omega)]
   rw [show (i+1)*5+j-d.length=i*5+j by omega]
   exact ih (fun c hc=>hfive c (by simp [hc])) (by simpa using hc)
theorem XU (S:Nat→Prop) (w:World) (l:List Ex) (v:Value) (h:zO S w l v) (hd:depthL l≤4611686018427387904)
  (hone:∀x∈l,∀c w',Below w.heap.size w w'→zC S w' x c→Calls Tryz.prog 75 #[c] w' fun e w''=>e=.returned (.int .i64 (zo x))∧Below w.heap.size w w'') :
  Calls Tryz.prog 99 #[v,.func (.func 75) #[] #[]] w fun e w'=>e=.returned (.int .i64 (depthL l))∧Below w.heap.size w w':=by
 obtain ⟨d0,n,E,rfl,hn⟩:∃d0 n E,v=.slice d0 n E∧n=l.length:=by
  rcases h with ⟨rfl,rfl⟩ | ⟨g,E,us,rfl,_⟩
  ·exact ⟨_,_,_,rfl,rfl⟩
  ·exact ⟨_,_,_,rfl,rfl⟩
 have A:∀i x,l[i]?=some x→∃g a b c L J K k,d0=some ⟨g,0,none⟩∧g<w.heap.size∧i<n∧n≤E∧E≤maxLen∧zC S w x (.agg #[.int .i64 a,.string b,.int .i64 c,.slice L J K,.int .i64 k]) ∧
   w.cell? ⟨g,i*5,none⟩=some (.int .i64 a)∧w.cell? ⟨g,i*5+1,none⟩=some (.string b)∧w.cell? ⟨g,i*5+2,none⟩=some (.int .i64 c)∧w.cell? ⟨g,i*5+3,none⟩=some (.slice L J K)∧w.cell? ⟨g,i*5+4,none⟩=some (.int .i64 k):=by
  intro i x Q;rcases h with ⟨rfl,_⟩ | ⟨g,ad,us,hv,ah,W,hS,T,hc,hm,y,o,hk⟩
  ·simp at Q
  ·cases hv
   have hi:i<l.length:=(List.getElem?_eq_some_iff.1 Q).1;obtain ⟨c,G⟩:∃c,us[i]?=some c:=⟨us[i]'(by omega),List.getElem?_eq_getElem (by omega)⟩
   have I:=hk i x c Q G;obtain ⟨a,b,cc,L,J,K,k,ab⟩:=I.agg
   have aa:c=[.int .i64 a,.string b,.int .i64 cc,.slice L J K,.int .i64 k]:=by
    have:=congrArg (fun v=>match v with | .agg a=>a.toList | _=>[]) ab
    simpa using this
   subst aa;refine ⟨g,a,b,cc,L,J,K,k,rfl,T,by omega,by omega,hm,I,?_,?_,?_,?_,?_⟩
   ·exact y _ _ (by have:=vN o G (j:=0) (by omega);simpa using this)
   ·exact y _ _ (by have:=vN o G (j:=1) (by omega);simpa using this)
   ·exact y _ _ (by have:=vN o G (j:=2) (by omega);simpa using this)
   ·exact y _ _ (by have:=vN o G (j:=3) (by omega);simpa using this)
   ·exact y _ _ (by have:=vN o G (j:=4) (by omega);simpa using this)
 have HC:Hid (∀i x,l[i]?=some x→∃g a b c L J K k,d0=some ⟨g,0,none⟩∧g<w.heap.size∧i<n∧n≤E∧E≤maxLen∧zC S w x (.agg #[.int .i64 a,.string b,.int .i64 c,.slice L J K,.int .i64 k]) ∧
   w.cell? ⟨g,i*5,none⟩=some (.int .i64 a)∧w.cell? ⟨g,i*5+1,none⟩=some (.string b)∧w.cell? ⟨g,i*5+2,none⟩=some (.int .i64 c)∧w.cell? ⟨g,i*5+3,none⟩=some (.slice L J K)∧w.cell? ⟨g,i*5+4,none⟩=some (.int .i64 k)):=A
 have H:Hid (∀x∈l,∀c w',Below w.heap.size w w'→zC S w' x c→Calls Tryz.prog 75 #[c] w' fun e w''=>e=.returned (.int .i64 (zo x))∧Below w.heap.size w w''):=hone
 have W:n≤9223372036854775807:=by
  rcases Nat.eq_zero_or_pos n with h0 | h0
  ·omega
  ·obtain ⟨_,_,_,_,_,_,_,_,_,_,_,h1,h2,_⟩:=A 0 (l[0]'(by omega)) (List.getElem?_eq_getElem (by omega))
   unfold maxLen at h2
   omega
 have HN:Hid (n=l.length):=hn;clear h hone A hn
 go_enter Tryz.func99,Tryz.ntmps99
 go_wp2_with fail
 go_loopw [5,10] (fun m i wr=>∃k:Nat,k≤n∧i=.int .i64 k∧m=.int .i64 (depthL (l.take k))∧Below w.heap.size w wr) (fun _ i _=>n-(intOf i).toNat)
 case atStart=>exact ⟨0,Nat.zero_le _,rfl,rfl,Below.refl _ _⟩
 case round =>
  obtain ⟨k,hk,rfl,rfl,z⟩:=hrel
  by_cases hlt:k<n
  ·obtain ⟨x,Q⟩:∃x,l[k]?=some x:=⟨l[k]'(by rw [←HN.out];exact hlt),List.getElem?_eq_getElem (by rw [←HN.out];exact hlt)⟩
   obtain ⟨g,a,b,c,L,J,K,j,rfl,T,-,ag,ai,I,m0,m1,m2,m3,m4⟩:=HC.out k x Q;have n0:=(z.cell (p:=⟨g,k*5,none⟩) T).trans m0;have n1:=(z.cell (p:=⟨g,k*5+1,none⟩) T).trans m1;have n2:=(z.cell (p:=⟨g,k*5+2,none⟩) T).trans m2;have n3:=(z.cell (p:=⟨g,k*5+3,none⟩) T).trans m3;have n4:=(z.cell (p:=⟨g,k*5+4,none⟩) T).trans m4;clear m0 m1 m2 m3 m4;have U:(k:Int)<(n:Int):=by omega
   have O:Below w.heap.size w (wr.alloc (.cells #[.int .i64 a,.string b,.int .i64 c,.slice L J K,.int .i64 j] 90)):=z.alloc z.size _;have Y:=zC.kept I O.size fun k' _ hlt=>O.block k' hlt
   have c4:=H.out x (List.mem_of_getElem? Q) _ _ O Y
   have X:Hid (depthL (l.take (k+1))=max (depthL (l.take k)) (zo x)):=show _=_ by
    rw [List.take_add_one,Q,ZU];simp [depthL]
   have ae:depthL (l.take (k+1))≤depthL l:=by
    have:=ZU (l.take (k+1)) (l.drop (k+1))
    rw [List.take_append_drop] at this;omega
   have ak:zo x≤4611686018427387904:=by have:=xL (List.mem_of_getElem? Q);omega
   have aj:depthL (l.take k)≤4611686018427387904:=by have:=X.out;omega
   clear O Y I z HC H;generalize depthL (l.take k)=M at *;generalize hD:zo x=D at *;go_wp2_with fail
   refine c4.mono ?_;clear c4;rintro e w5 ⟨rfl,Z⟩;have R:Hid (Below w.heap.size w w5):=Z;clear Z;go_wp2
   refine ⟨⟨k+1,by omega,by go_num,?_,R.out⟩,by simp [intOf];omega⟩
   rw [X.out];congr 1;omega
  ·have af:k=n:=by omega
   have U:¬(k:Int)<(n:Int):=by omega
   have V:l.take k=l:=List.take_of_length_le (by have:=HN.out;omega)
   have R:Hid (Below w.heap.size w wr):=z;clear z HC H;rw [V];clear V;go_wp2
   refine bodyPost_ret (v:=.int .i64 (depthL l)) (by simp [results,Tryz.results99,go_sem]) rfl ⟨rfl,R.out⟩
theorem zC.rowOf {S:Nat→Prop} {w:World} {x:Ex} {v:Value} (h:zC S w x v):∃(k:Nat) (s:List UInt8) (n:Int) (l:List Ex) (line:Nat) (d:Value),x=.mk k s n l line∧v=.agg #[.int .i64 k,.string (za s),.int .i64 n,d,.int .i64 line]∧zO S w l d:=by
 cases h with
 | leaf k s n line=>exact ⟨k,s,n,[],line,_,rfl,rfl,.inl ⟨rfl,rfl⟩⟩
 | node k s n kids line g cap us hne hlen hB hg hc hm hcell hfive hk=>exact ⟨k,s,n,kids,line,_,rfl,rfl,.inr ⟨g,cap,us,rfl,hne,hlen,hB,hg,hc,hm,hcell,hfive,hk⟩⟩
theorem Xc (S:Nat→Prop) (w w1:World) (x:Ex) (v:Value) (hb:Below w.heap.size w w1) (hx:zC S w1 x v) (hd:zo x≤4611686018427387904)
  (hg:∀l v' w2,(∀y∈l,zo y<zo x)→depthL l+1=zo x→Below w.heap.size w w2→zO S w2 l v'→Calls Tryz.prog 99 #[v',.func (.func 75) #[] #[]] w2 fun e w'=>e=.returned (.int .i64 (depthL l))∧Below w.heap.size w w') :
  Calls Tryz.prog 75 #[v] w1 fun e w'=>e=.returned (.int .i64 (zo x))∧Below w.heap.size w w':=by
 obtain ⟨a,b,c,L,K,H,k,rfl⟩:=hx.agg
 obtain ⟨l,J,o⟩:∃l,zo x=1+depthL l∧zO S w1 l (.slice L K H):=by
  obtain ⟨T,V,R,l,G,d,rfl,O,o⟩:=hx.rowOf;have A:=congrArg (fun v=>match v with | .agg a=>a.toList | _=>[]) O
  simp only [List.cons.injEq] at A;obtain ⟨_,_,_,rfl,_⟩:=A;exact ⟨l,by simp [zo],o⟩
 have z:Below w.heap.size w (w1.alloc (.cells #[.int .i64 a,.string b,.int .i64 c,.slice L K H,.int .i64 k] 90)):=hb.alloc hb.size _;have I:=hg l _ _ (fun y hy=>by have:=xL hy;omega) (by omega) z (o.kept (by simp) fun k _ hlt=>Below.heap_alloc _ _ _ hlt)
 rw [J];clear hg hx o hb z;have U:depthL l≤4611686018427387904:=by omega
 clear J hd;generalize depthL l=M at *
 go_enter Tryz.func75,Tryz.ntmps75
 go_wp2_with fail
 refine I.mono ?_;clear I;rintro e Q ⟨rfl,D⟩;have E:Hid (Below w.heap.size w Q):=D;clear D;go_wp2
 refine bodyPost_ret (v:=.int .i64 (1+(M:Int))) (by simp [results,Tryz.results75,go_sem]) rfl ⟨by simp,E.out⟩
theorem Xd (S:Nat→Prop):∀(d:Nat) (w:World) (x:Ex) (v:Value) (o:World),zo x≤d→d≤4611686018427387904→Below w.heap.size w o→zC S o x v →
  Calls Tryz.prog 75 #[v] o fun e w'=>e=.returned (.int .i64 (zo x))∧Below w.heap.size w w':=by
 intro d
 induction d with
 | zero=>intro w x v o h;cases x;simp [zo] at h
 | succ d ih =>
  intro w x v o G E D A;refine Xc S w o x v D A (by omega) fun l v' w2 hl hs hb2 hrow=>?_
  refine (XU S w2 l v' hrow (by omega) fun y hy c w' hb' hy'=>ih w2 y c w' (by have:=hl y hy;omega) (by omega) hb' hy').mono fun e w' h=>⟨h.1,?_⟩
  have z:=h.2;exact ⟨z.os.trans hb2.os,z.tape.trans hb2.tape,z.output.trans hb2.output,Nat.le_trans hb2.size z.size,fun k hk=>(z.block k (Nat.lt_of_lt_of_le hk hb2.size)).trans (hb2.block k hk)⟩
def Zw (res:PR Ex):Except Nat Ex :=
 match res with
 | .error a=>.error a
 | .ok (x,us)=>if (zT us).k=0 then .ok x else .error (zT us).at0
structure Y2 (r B2:Nat) (w w':World):Prop where
 os:w'.os=w.os
 tape:w'.tape=w.tape
 output:w'.output=w.output
 size:w.heap.size≤w'.heap.size
 block:∀k,k<w.heap.size→k≠r→k≠B2→w'.heap[k]?=w.heap[k]?
def XA (r B2:Nat) (w:World) (res:Except Nat Ex) (e:Ending) (w':World):Prop :=
 Y2 r B2 w w'∧match res with
  | .error a=>e=Zv a
  | .ok x=>e=.returned (.tuple #[])∧∃(a:Int) (b:ByteArray) (c:Int) (d0:Option Addr) (d1 d2:Nat) (l:Int),w'.heap[B2]?=some (.cells #[.int .i64 a,.string b,.int .i64 c,.slice d0 d1 d2,.int .i64 l] 90 (0,0))∧zX w.heap.size w' x (.agg #[.int .i64 a,.string b,.int .i64 c,.slice d0 d1 d2,.int .i64 l])
theorem qp (r g o cap B0 B1 B2 f ty0 ty1:Nat) (ts:List Tk) (w:World) (res:PR Ex) (h:zc r g o cap ts w) (hE:zk ts) (hl:yc w) (hrl:r≠5) (hp:zd f 1 ts=some res)
  (b0:w.heap[B0]?=some (.cells #[.func (.func 74) #[] #[]] ty0 (0,0))) (b1:w.heap[B1]?=some (.cells #[.pointer (some ⟨r,0,none⟩)] ty1 (0,0))) (b2:w.heap[B2]?=some zE) (h1:B1≠r) (h2:B2≠r) (h3:B2≠g) (h4:B1≠B2) :
  Calls Tryz.prog 96 #[.pointer (some ⟨B0,0,none⟩),.pointer (some ⟨B1,0,none⟩),.pointer (some ⟨B2,0,none⟩)] w (XA r B2 w (Zw res)):=by
 generalize hres:Zw res=R;obtain ⟨t0,ah,rfl⟩:=hE.cons;have H:=(qo r g hrl f).expr hrl w o cap _ res hp hE h hl;have c0:w.cell? ⟨B0,0,none⟩=some (.func (.func 74) #[] #[]):=by simp only [World.cell?,b0];rfl
 have c1:w.cell? ⟨B1,0,none⟩=some (.pointer (some ⟨r,0,none⟩)):=by simp only [World.cell?,b1];rfl
 have ad:B2<w.heap.size:=(Array.getElem?_eq_some_iff.1 b2).1;have aa:B1<w.heap.size:=(Array.getElem?_eq_some_iff.1 b1).1
 go_enter Tryz.func96,Tryz.ntmps96
 go_wp2_with fail
 refine H.mono ?_;clear H;rintro e Z ⟨z,G⟩;rcases res with a | ⟨x,us⟩
 ·obtain rfl:=G
  obtain rfl:R=.error a:=by rw [←hres];rfl
  exact ⟨rfl,⟨z.os,z.tape,z.output,z.size,fun k hk hr _=>z.block k hk hr⟩,rfl⟩
 ·obtain ⟨v,o1,I,rfl,hx,T⟩:=G
  obtain ⟨a,b,c,L,M,K,l,rfl⟩:=hx.agg;have ab:=(Zd f).1 _ _ _ _ hp hE;obtain ⟨Y,V,rfl⟩:=ab.cons;have p1:=(z.block _ aa h1).trans b1;have p2:=(z.block _ ad h2).trans b2;obtain ⟨q0,q1,q2,q3,q4,qf⟩:=zv p2;obtain ⟨w2,E⟩:∃w2,w2=set5 Z B2 (.int .i64 a) (.string b) (.int .i64 c) (.slice L M K) (.int .i64 l):=⟨_,rfl⟩;have D:∀k,k≠B2→w2.heap[k]?=Z.heap[k]?:=fun k hk=>by rw [E];exact zj _ _ _ _ _ _ _ hk
  have J:zc r g o1 I (Y::V) w2:=T.keep (D r (fun e=>h2 e.symm)) (D g (fun e=>h3 e.symm))
  have U:Z.heap.size≤w2.heap.size:=by rw [E];simp
  have O:zX w.heap.size w2 x (.agg #[.int .i64 a,.string b,.int .i64 c,.slice L M K,.int .i64 l]):=zX.kept hx U fun k hB _=>D k (by omega)
  have pB:w2.heap[B2]?=some (.cells #[.int .i64 a,.string b,.int .i64 c,.slice L M K,.int .i64 l] 90 (0,0)):=by rw [E];exact yK p2 _ _ _ _ _
  have af:w2.cell? ⟨B1,0,none⟩=some (.pointer (some ⟨r,0,none⟩)):=by
   have p3:=(D B1 h4).trans p1;simp only [World.cell?,p3];rfl
  have A:Hid (Y2 r B2 w w2):=⟨by rw [E];exact z.os,by rw [E];exact z.tape,by rw [E];exact z.output,Nat.le_trans z.size U,fun k hk hr hb=>(D k hb).trans (z.block k hk hr)⟩
  have H:=qD r g o1 I Y V w2 J;have Q:Hid (zX w.heap.size w2 x (.agg #[.int .i64 a,.string b,.int .i64 c,.slice L M K,.int .i64 l])):=O;have W:Hid (w2.heap[B2]?=some (.cells #[.int .i64 a,.string b,.int .i64 c,.slice L M K,.int .i64 l] 90 (0,0))):=pB;have ae:=E.symm;have ag:=z.size;have X:B2<w2.heap.size:=(Array.getElem?_eq_some_iff.1 pB).1;clear O pB J D hx T p1 p2 z E
  by_cases hk:Y.k=0
  ·simp only [if_pos hk] at H
   obtain rfl:R=.ok x:=by rw [←hres];unfold Zw;simp only [zH,if_pos hk]
   go_wp2_with fail
   refine H.mono ?_;clear H;rintro e w3 ⟨y,rfl⟩
   have hP:XA r B2 w (.ok x) (.returned (.tuple #[])) w3:=by
    refine ⟨⟨y.os.trans A.out.os,y.tape.trans A.out.tape,y.output.trans A.out.output,Nat.le_trans A.out.size y.size,fun k hk hr hb=>(y.block k (Nat.lt_of_lt_of_le hk A.out.size) hr).trans (A.out.block k hk hr hb)⟩,rfl,a,b,c,L,M,K,l,(y.block _ X h2).trans W.out,?_⟩
    exact zX.kept Q.out y.size fun k hB hlt=>y.block k hlt (by have:=h.lt.1;omega)
   have HP:Hid (XA r B2 w (.ok x) (.returned (.tuple #[])) w3):=hP;clear hP y A Q W;go_wp2
   exact bodyPost_ret (v:=.tuple #[]) (by simp [results,Tryz.results96,go_sem]) rfl HP.out
  ·simp only [if_neg hk] at H
   obtain rfl:R=.error Y.at0:=by rw [←hres];unfold Zw;simp only [zH,if_neg hk]
   go_wp2_with fail
   refine H.mono ?_;clear H;rintro e w3 ⟨y,rfl⟩;exact ⟨rfl,⟨y.os.trans A.out.os,y.tape.trans A.out.tape,y.output.trans A.out.output,Nat.le_trans A.out.size y.size,fun k hk hr hb=>(y.block k (Nat.lt_of_lt_of_le hk A.out.size) hr).trans (A.out.block k hk hr hb)⟩,rfl⟩
end Go.Proofs.YtmbofhpmockmbaaGreatDoor
