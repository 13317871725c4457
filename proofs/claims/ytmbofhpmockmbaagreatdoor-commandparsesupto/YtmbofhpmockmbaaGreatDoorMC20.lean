import Derived.Test.YtmbofhpmockmbaaGreatDoorMC14
import Derived.Test.YtmbofhpmockmbaaGreatDoorMC15
import Derived.Test.YtmbofhpmockmbaaGreatDoorMC13
namespace Go.Proofs.YtmbofhpmockmbaaGreatDoor
open Go.RowKit Go.Shelf
set_option maxHeartbeats 16000000
set_option maxRecDepth 100000
mutual
def depthE:Ex→Nat
 | .mk _ _ _ kids _=>1+depthL kids
def depthL:List Ex→Nat
 | []=>0
 | x::xs=>max (depthE x) (depthL xs)
end
theorem yt (a b:List Ex):depthL (a++b)=max (depthL a) (depthL b):=by
 induction a with
 | nil=>simp [depthL]
 | cons x xs ih=>simp [depthL,ih,Nat.max_assoc]
theorem XW {l:List Ex} {x:Ex} (h:x∈l):depthE x≤depthL l:=by
 induction l with
 | nil=>cases h
 | cons y ys ih =>
  simp only [depthL];rcases List.mem_cons.1 h with rfl | h
  ·omega
  ·have:=ih h;omega
theorem uG {us:List (List Value)} (hfive:∀c∈us,c.length=5) {i j:Nat} {c:List Value} (hc:us[i]?=some c) (hj:j<5):us.flatten[i*5+j]?=c[j]?:=by
 induction us generalizing i with
 | nil=>simp at hc
 | cons d ds ih =>
  have hd:=hfive d (by simp)
  cases i with
  | zero =>
   simp only [List.getElem?_cons_zero,Option.some.injEq] at hc;subst hc;rw [List.flatten_cons,List.getElem?_append_left (by omega)];simp
  | succ i =>
   rw [List.flatten_cons,List.getElem?_append_right (by omega)]
   rw [show (i+1)*5+j-d.length=i*5+j by omega]
   exact ih (fun c hc=>hfive c (by simp [hc])) (by simpa using hc)
theorem VS (S:Nat→Prop) (w:World) (l:List Ex) (v:Value) (h:zK S w l v) (hd:depthL l≤4611686018427387904)
  (hone:∀x∈l,∀c w',Below w.heap.size w w'→zJ S w' x c→Calls Tryz.prog 75 #[c] w' fun e w''=>e=.returned (.int .i64 (depthE x))∧Below w.heap.size w w'') :
  Calls Tryz.prog 99 #[v,.func (.func 75) #[] #[]] w fun e w'=>e=.returned (.int .i64 (depthL l))∧Below w.heap.size w w':=by
 obtain ⟨Z,n,E,rfl,hn⟩:∃Z n E,v=.slice Z n E∧n=l.length:=by
  rcases h with ⟨rfl,rfl⟩ | ⟨g,E,us,rfl,_⟩
  ·exact ⟨_,_,_,rfl,rfl⟩
  ·exact ⟨_,_,_,rfl,rfl⟩
 have A:∀i x,l[i]?=some x→∃g a b c J K L k,Z=some ⟨g,0,none⟩∧g<w.heap.size∧i<n∧n≤E∧E≤maxLen∧zJ S w x (.agg #[.int .i64 a,.string b,.int .i64 c,.slice J K L,.int .i64 k]) ∧
   w.cell? ⟨g,i*5,none⟩=some (.int .i64 a)∧w.cell? ⟨g,i*5+1,none⟩=some (.string b)∧w.cell? ⟨g,i*5+2,none⟩=some (.int .i64 c)∧w.cell? ⟨g,i*5+3,none⟩=some (.slice J K L)∧w.cell? ⟨g,i*5+4,none⟩=some (.int .i64 k):=by
  intro i x O;rcases h with ⟨rfl,_⟩ | ⟨g,ad,us,hv,ae,T,hS,Q,hc,hm,o,y,hk⟩
  ·simp at O
  ·cases hv
   have hi:i<l.length:=(List.getElem?_eq_some_iff.1 O).1;obtain ⟨c,G⟩:∃c,us[i]?=some c:=⟨us[i]'(by omega),List.getElem?_eq_getElem (by omega)⟩
   have H:=hk i x c O G;obtain ⟨a,b,cc,J,K,L,k,aa⟩:=H.agg
   have ab:c=[.int .i64 a,.string b,.int .i64 cc,.slice J K L,.int .i64 k]:=by
    have:=congrArg (fun v=>match v with | .agg a=>a.toList | _=>[]) aa
    simpa using this
   subst ab;refine ⟨g,a,b,cc,J,K,L,k,rfl,Q,by omega,by omega,hm,H,?_,?_,?_,?_,?_⟩
   ·exact o _ _ (by have:=uG y G (j:=0) (by omega);simpa using this)
   ·exact o _ _ (by have:=uG y G (j:=1) (by omega);simpa using this)
   ·exact o _ _ (by have:=uG y G (j:=2) (by omega);simpa using this)
   ·exact o _ _ (by have:=uG y G (j:=3) (by omega);simpa using this)
   ·exact o _ _ (by have:=uG y G (j:=4) (by omega);simpa using this)
 have HC:Hid (∀i x,l[i]?=some x→∃g a b c J K L k,Z=some ⟨g,0,none⟩∧g<w.heap.size∧i<n∧n≤E∧E≤maxLen∧zJ S w x (.agg #[.int .i64 a,.string b,.int .i64 c,.slice J K L,.int .i64 k]) ∧
   w.cell? ⟨g,i*5,none⟩=some (.int .i64 a)∧w.cell? ⟨g,i*5+1,none⟩=some (.string b)∧w.cell? ⟨g,i*5+2,none⟩=some (.int .i64 c)∧w.cell? ⟨g,i*5+3,none⟩=some (.slice J K L)∧w.cell? ⟨g,i*5+4,none⟩=some (.int .i64 k)):=A
 have I:Hid (∀x∈l,∀c w',Below w.heap.size w w'→zJ S w' x c→Calls Tryz.prog 75 #[c] w' fun e w''=>e=.returned (.int .i64 (depthE x))∧Below w.heap.size w w''):=hone
 have T:n≤9223372036854775807:=by
  rcases Nat.eq_zero_or_pos n with h0 | h0
  ·omega
  ·obtain ⟨_,_,_,_,_,_,_,_,_,_,_,h1,h2,_⟩:=A 0 (l[0]'(by omega)) (List.getElem?_eq_getElem (by omega))
   unfold maxLen at h2
   omega
 have HN:Hid (n=l.length):=hn;clear h hone A hn
 go_enter Tryz.func99,Tryz.ntmps99
 go_wp2_with fail
 go_loopw [5,10] (fun m i wr=>∃k:Nat,k≤n∧i=.int .i64 k∧m=.int .i64 (depthL (l.take k))∧Below w.heap.size w wr) (fun _ i _=>n-(intOf i).toNat)
 case atStart=>exact ⟨0,Nat.zero_le _,rfl,rfl,Below.refl _ _⟩
 case round =>
  obtain ⟨k,hk,rfl,rfl,z⟩:=hrel
  by_cases hlt:k<n
  ·obtain ⟨x,O⟩:∃x,l[k]?=some x:=⟨l[k]'(by rw [←HN.out];exact hlt),List.getElem?_eq_getElem (by rw [←HN.out];exact hlt)⟩
   obtain ⟨g,a,b,c,J,K,L,j,rfl,Q,-,af,ai,H,m0,m1,m2,m3,m4⟩:=HC.out k x O;have n0:=(z.cell (p:=⟨g,k*5,none⟩) Q).trans m0;have n1:=(z.cell (p:=⟨g,k*5+1,none⟩) Q).trans m1;have n2:=(z.cell (p:=⟨g,k*5+2,none⟩) Q).trans m2;have n3:=(z.cell (p:=⟨g,k*5+3,none⟩) Q).trans m3;have n4:=(z.cell (p:=⟨g,k*5+4,none⟩) Q).trans m4;clear m0 m1 m2 m3 m4;have W:(k:Int)<(n:Int):=by omega
   have N:Below w.heap.size w (wr.alloc (.cells #[.int .i64 a,.string b,.int .i64 c,.slice J K L,.int .i64 j] 90)):=z.alloc z.size _;have U:=zJ.kept H N.size fun k' _ hlt=>N.block k' hlt
   have c4:=I.out x (List.mem_of_getElem? O) _ _ N U
   have Y:Hid (depthL (l.take (k+1))=max (depthL (l.take k)) (depthE x)):=show _=_ by
    rw [List.take_add_one,O,yt];simp [depthL]
   have ak:depthL (l.take (k+1))≤depthL l:=by
    have:=yt (l.take (k+1)) (l.drop (k+1))
    rw [List.take_append_drop] at this;omega
   have ag:depthE x≤4611686018427387904:=by have:=XW (List.mem_of_getElem? O);omega
   have aj:depthL (l.take k)≤4611686018427387904:=by have:=Y.out;omega
   clear N U H z HC I;generalize depthL (l.take k)=M at *;generalize hD:depthE x=D at *;go_wp2_with fail
   refine c4.mono ?_;clear c4;rintro e w5 ⟨rfl,V⟩;have R:Hid (Below w.heap.size w w5):=V;clear V;go_wp2
   refine ⟨⟨k+1,by omega,by go_num,?_,R.out⟩,by simp [intOf];omega⟩
   rw [Y.out];congr 1;omega
  ·have ah:k=n:=by omega
   have W:¬(k:Int)<(n:Int):=by omega
   have X:l.take k=l:=List.take_of_length_le (by have:=HN.out;omega)
   have R:Hid (Below w.heap.size w wr):=z;clear z HC I;rw [X];clear X;go_wp2
   refine bodyPost_ret (v:=.int .i64 (depthL l)) (by simp [results,Tryz.results99,go_sem]) rfl ⟨rfl,R.out⟩
theorem zJ.rowOf {S:Nat→Prop} {w:World} {x:Ex} {v:Value} (h:zJ S w x v):∃(k:Nat) (s:List UInt8) (n:Int) (l:List Ex) (line:Nat) (d:Value),x=.mk k s n l line∧v=.agg #[.int .i64 k,.string (za s),.int .i64 n,d,.int .i64 line]∧zK S w l d:=by
 cases h with
 | leaf k s n line=>exact ⟨k,s,n,[],line,_,rfl,rfl,.inl ⟨rfl,rfl⟩⟩
 | node k s n kids line g cap us hne hlen hB hg hc hm hcell hfive hk=>exact ⟨k,s,n,kids,line,_,rfl,rfl,.inr ⟨g,cap,us,rfl,hne,hlen,hB,hg,hc,hm,hcell,hfive,hk⟩⟩
theorem vL (S:Nat→Prop) (w w1:World) (x:Ex) (v:Value) (hb:Below w.heap.size w w1) (hx:zJ S w1 x v) (hd:depthE x≤4611686018427387904)
  (hg:∀l v' w2,(∀y∈l,depthE y<depthE x)→depthL l+1=depthE x→Below w.heap.size w w2→zK S w2 l v'→Calls Tryz.prog 99 #[v',.func (.func 75) #[] #[]] w2 fun e w'=>e=.returned (.int .i64 (depthL l))∧Below w.heap.size w w') :
  Calls Tryz.prog 75 #[v] w1 fun e w'=>e=.returned (.int .i64 (depthE x))∧Below w.heap.size w w':=by
 obtain ⟨a,b,c,J,G,I,k,rfl⟩:=hx.agg
 obtain ⟨l,K,h⟩:∃l,depthE x=1+depthL l∧zK S w1 l (.slice J G I):=by
  obtain ⟨R,O,Q,l,D,d,rfl,N,h⟩:=hx.rowOf;have z:=congrArg (fun v=>match v with | .agg a=>a.toList | _=>[]) N
  simp only [List.cons.injEq] at z;obtain ⟨_,_,_,rfl,_⟩:=z;exact ⟨l,by simp [depthE],h⟩
 have A:Below w.heap.size w (w1.alloc (.cells #[.int .i64 a,.string b,.int .i64 c,.slice J G I,.int .i64 k] 90)):=hb.alloc hb.size _;have H:=hg l _ _ (fun y hy=>by have:=XW hy;omega) (by omega) A (h.kept (by simp) fun k _ hlt=>Below.heap_alloc _ _ _ hlt)
 rw [K];clear hg hx h hb A;have T:depthL l≤4611686018427387904:=by omega
 clear K hd;generalize depthL l=M at *
 go_enter Tryz.func75,Tryz.ntmps75
 go_wp2_with fail
 refine H.mono ?_;clear H;rintro e L ⟨rfl,o⟩;have E:Hid (Below w.heap.size w L):=o;clear o;go_wp2
 refine bodyPost_ret (v:=.int .i64 (1+(M:Int))) (by simp [results,Tryz.results75,go_sem]) rfl ⟨by simp,E.out⟩
theorem vM (S:Nat→Prop):∀(d:Nat) (w:World) (x:Ex) (v:Value) (o:World),depthE x≤d→d≤4611686018427387904→Below w.heap.size w o→zJ S o x v →
  Calls Tryz.prog 75 #[v] o fun e w'=>e=.returned (.int .i64 (depthE x))∧Below w.heap.size w w':=by
 intro d
 induction d with
 | zero=>intro w x v o h;cases x;simp [depthE] at h
 | succ d ih =>
  intro w x v o E hd A D;refine vL S w o x v A D (by omega) fun l v' w2 hl hs hb2 hrow=>?_
  refine (VS S w2 l v' hrow (by omega) fun y hy c w' hb' hy'=>ih w2 y c w' (by have:=hl y hy;omega) (by omega) hb' hy').mono fun e w' h=>⟨h.1,?_⟩
  have z:=h.2;exact ⟨z.os.trans hb2.os,z.tape.trans hb2.tape,z.output.trans hb2.output,Nat.le_trans hb2.size z.size,fun k hk=>(z.block k (Nat.lt_of_lt_of_le hk hb2.size)).trans (hb2.block k hk)⟩
def Zx (res:PR Ex):Except Nat Ex :=
 match res with
 | .error a=>.error a
 | .ok (x,us)=>if (zx us).k=0 then .ok x else .error (zx us).at0
structure Xk (r B2:Nat) (w w':World):Prop where
 os:w'.os=w.os
 tape:w'.tape=w.tape
 output:w'.output=w.output
 size:w.heap.size≤w'.heap.size
 block:∀k,k<w.heap.size→k≠r→k≠B2→w'.heap[k]?=w.heap[k]?
def Vr (r B2:Nat) (w:World) (res:Except Nat Ex) (e:Ending) (w':World):Prop :=
 Xk r B2 w w'∧match res with
  | .error a=>e=ZU a
  | .ok x=>e=.returned (.tuple #[])∧∃(a:Int) (b:ByteArray) (c:Int) (d0:Option Addr) (d1 d2:Nat) (l:Int),w'.heap[B2]?=some (.cells #[.int .i64 a,.string b,.int .i64 c,.slice d0 d1 d2,.int .i64 l] 90 (0,0))∧zO w.heap.size w' x (.agg #[.int .i64 a,.string b,.int .i64 c,.slice d0 d1 d2,.int .i64 l])
theorem zaU (r g o cap B0 B1 B2 f ty0 ty1:Nat) (ts:List Tk) (w:World) (res:PR Ex) (h:zk r g o cap ts w) (hE:zt ts) (hl:yL w) (hrl:r≠5) (hp:zh f 1 ts=some res)
  (b0:w.heap[B0]?=some (.cells #[.func (.func 74) #[] #[]] ty0 (0,0))) (b1:w.heap[B1]?=some (.cells #[.pointer (some ⟨r,0,none⟩)] ty1 (0,0))) (b2:w.heap[B2]?=some zL) (h1:B1≠r) (h2:B2≠r) (h3:B2≠g) (h4:B1≠B2) :
  Calls Tryz.prog 96 #[.pointer (some ⟨B0,0,none⟩),.pointer (some ⟨B1,0,none⟩),.pointer (some ⟨B2,0,none⟩)] w (Vr r B2 w (Zx res)):=by
 generalize hres:Zx res=R;obtain ⟨t0,ag,rfl⟩:=hE.cons;have H:=(zaT r g hrl f).expr hrl w o cap _ res hp hE h hl;have c0:w.cell? ⟨B0,0,none⟩=some (.func (.func 74) #[] #[]):=by simp only [World.cell?,b0];rfl
 have c1:w.cell? ⟨B1,0,none⟩=some (.pointer (some ⟨r,0,none⟩)):=by simp only [World.cell?,b1];rfl
 have ab:B2<w.heap.size:=(Array.getElem?_eq_some_iff.1 b2).1;have Z:B1<w.heap.size:=(Array.getElem?_eq_some_iff.1 b1).1
 go_enter Tryz.func96,Tryz.ntmps96
 go_wp2_with fail
 refine H.mono ?_;clear H;rintro e w1 ⟨z,G⟩;rcases res with a | ⟨x,us⟩
 ·obtain rfl:=G
  obtain rfl:R=.error a:=by rw [←hres];rfl
  exact ⟨rfl,⟨z.os,z.tape,z.output,z.size,fun k hk hr _=>z.block k hk hr⟩,rfl⟩
 ·obtain ⟨v,o1,J,rfl,hx,W⟩:=G
  obtain ⟨a,b,c,M,K,L,l,rfl⟩:=hx.agg;have aa:=(ZC f).1 _ _ _ _ hp hE;obtain ⟨X,T,rfl⟩:=aa.cons;have p1:=(z.block _ Z h1).trans b1;have Y:=(z.block _ ab h2).trans b2;obtain ⟨q0,q1,q2,q3,q4,qf⟩:=ze Y;obtain ⟨w2,E⟩:∃w2,w2=set5 w1 B2 (.int .i64 a) (.string b) (.int .i64 c) (.slice M K L) (.int .i64 l):=⟨_,rfl⟩;have A:∀k,k≠B2→w2.heap[k]?=w1.heap[k]?:=fun k hk=>by rw [E];exact zi _ _ _ _ _ _ _ hk
  have I:zk r g o1 J (X::T) w2:=W.keep (A r (fun e=>h2 e.symm)) (A g (fun e=>h3 e.symm))
  have N:w1.heap.size≤w2.heap.size:=by rw [E];simp
  have Q:zO w.heap.size w2 x (.agg #[.int .i64 a,.string b,.int .i64 c,.slice M K L,.int .i64 l]):=zO.kept hx N fun k hB _=>A k (by omega)
  have pB:w2.heap[B2]?=some (.cells #[.int .i64 a,.string b,.int .i64 c,.slice M K L,.int .i64 l] 90 (0,0)):=by rw [E];exact Z8 Y _ _ _ _ _
  have ae:w2.cell? ⟨B1,0,none⟩=some (.pointer (some ⟨r,0,none⟩)):=by
   have p3:=(A B1 h4).trans p1;simp only [World.cell?,p3];rfl
  have D:Hid (Xk r B2 w w2):=⟨by rw [E];exact z.os,by rw [E];exact z.tape,by rw [E];exact z.output,Nat.le_trans z.size N,fun k hk hr hb=>(A k hb).trans (z.block k hk hr)⟩
  have H:=za9 r g o1 J X T w2 I;have U:Hid (zO w.heap.size w2 x (.agg #[.int .i64 a,.string b,.int .i64 c,.slice M K L,.int .i64 l])):=Q;have O:Hid (w2.heap[B2]?=some (.cells #[.int .i64 a,.string b,.int .i64 c,.slice M K L,.int .i64 l] 90 (0,0))):=pB;have ad:=E.symm;have af:=z.size;have V:B2<w2.heap.size:=(Array.getElem?_eq_some_iff.1 pB).1;clear Q pB I A hx W p1 Y z E
  by_cases hk:X.k=0
  ·simp only [if_pos hk] at H
   obtain rfl:R=.ok x:=by rw [←hres];unfold Zx;simp only [z7,if_pos hk]
   go_wp2_with fail
   refine H.mono ?_;clear H;rintro e w3 ⟨y,rfl⟩
   have hP:Vr r B2 w (.ok x) (.returned (.tuple #[])) w3:=by
    refine ⟨⟨y.os.trans D.out.os,y.tape.trans D.out.tape,y.output.trans D.out.output,Nat.le_trans D.out.size y.size,fun k hk hr hb=>(y.block k (Nat.lt_of_lt_of_le hk D.out.size) hr).trans (D.out.block k hk hr hb)⟩,rfl,a,b,c,M,K,L,l,(y.block _ V h2).trans O.out,?_⟩
    exact zO.kept U.out y.size fun k hB hlt=>y.block k hlt (by have:=h.lt.1;omega)
   have HP:Hid (Vr r B2 w (.ok x) (.returned (.tuple #[])) w3):=hP;clear hP y D U O;go_wp2
   exact bodyPost_ret (v:=.tuple #[]) (by simp [results,Tryz.results96,go_sem]) rfl HP.out
  ·simp only [if_neg hk] at H
   obtain rfl:R=.error X.at0:=by rw [←hres];unfold Zx;simp only [z7,if_neg hk]
   go_wp2_with fail
   refine H.mono ?_;clear H;rintro e w3 ⟨y,rfl⟩;exact ⟨rfl,⟨y.os.trans D.out.os,y.tape.trans D.out.tape,y.output.trans D.out.output,Nat.le_trans D.out.size y.size,fun k hk hr hb=>(y.block k (Nat.lt_of_lt_of_le hk D.out.size) hr).trans (D.out.block k hk hr hb)⟩,rfl⟩
theorem yQ {s:List UInt8} {ts us:List Tk} {y:Unit} (h:Zj s ts=some (.ok (y,us))):us.length+1=ts.length:=by
 unfold Zj at h
 split at h
 ·rename_i e
  simp only [Option.some.injEq,Except.ok.injEq,Prod.mk.injEq] at h;rw [←h.2];exact yC e
 ·simp at h
theorem Vs {s:List UInt8} {ts us:List Tk} (h:yI ts=some (.ok (s,us))):us.length+1=ts.length:=by
 unfold yI at h
 split at h
 ·rename_i e
  simp only [Option.some.injEq,Except.ok.injEq,Prod.mk.injEq] at h;rw [←h.2];exact yB (by omega)
 ·simp at h
theorem zH {α:Type} {x y:α} {ts us:List Tk} (h:(some (.ok (x,ts)):Option (PR α))=some (.ok (y,us))):x=y∧ts=us:=by
 simpa using h
theorem Xl (f:Nat) :
  (∀least ts x us,zh f least ts=some (.ok (x,us))→depthE x+us.length≤ts.length)∧(∀least e ts x us T,Za f least e ts=some (.ok (x,us))→depthE e+ts.length≤T→depthE x+us.length≤T) ∧
  (∀ts x us,zY f ts=some (.ok (x,us))→depthE x+us.length≤ts.length)∧(∀e ts x us T,zr f e ts=some (.ok (x,us))→depthE e+ts.length≤T→depthE x+us.length≤T)∧(∀ts x us,zC f ts=some (.ok (x,us))→depthE x+us.length≤ts.length) ∧
  (∀pre ts l us T,ZS f pre ts=some (.ok (l,us))→depthL pre+ts.length≤T→depthL l+us.length≤T)∧(∀ts l us,zy f ts=some (.ok (l,us))→depthL l+us.length+1≤ts.length):=by
 induction f with
 | zero=>refine ⟨?_,?_,?_,?_,?_,?_,?_⟩ <;> intros <;> simp_all [zh,Za,zY,zr,zC,ZS,zy]
 | succ f ih =>
  obtain ⟨i1,O,R,K,U,L,Q⟩:=ih;refine ⟨fun least ts x us h=>?_,fun least e ts x us T h hT=>?_,fun ts x us h=>?_,fun e ts x us T h hT=>?_,fun ts x us h=>?_,fun pre ts l us T h hT=>?_,fun ts l us h=>?_⟩
  ·rw [zh] at h
   split at h
   ·exact R _ _ _ h
   ·obtain ⟨y,E,A,o⟩:=zg h
    exact O _ _ _ _ _ _ o (i1 _ _ _ _ A)
  ·rw [Za] at h
   split at h
   ·rename_i D
    obtain ⟨y,E,A,o⟩:=zg h;have a:=i1 _ _ _ _ A;have b:=yB (ts:=ts) (by omega)
    have d:1≤depthE y:=by cases y;simp [depthE]
    refine O _ _ _ _ _ _ o ?_;simp only [depthE,depthL];omega
   ·obtain ⟨rfl,rfl⟩:=zH h;exact hT
  ·rw [zY] at h
   split at h
   ·rename_i D
    obtain ⟨y,E,A,o⟩:=zg h;have a:=R _ _ _ A;have b:=yB (ts:=ts) (by omega)
    obtain ⟨rfl,rfl⟩:=zH o;simp only [depthE,depthL];omega
   ·obtain ⟨y,E,A,o⟩:=zg h
    exact K _ _ _ _ _ o (U _ _ _ A)
  ·rw [zr] at h
   split at h
   ·rename_i D
    obtain ⟨y,E,A,o⟩:=zg h;obtain ⟨z,H,I,G⟩:=zg o;have a:=i1 _ _ _ _ A;have b:=yC D;have c:=yQ I;have d:1≤depthE y:=by cases y;simp [depthE]
    refine K _ _ _ _ _ G ?_;simp only [depthE,depthL];omega
   ·split at h
    ·rename_i D
     obtain ⟨y,E,A,o⟩:=zg h;have b:=yC D;have c:=Vs A;refine K _ _ _ _ _ o ?_;simp only [depthE,depthL];omega
    ·obtain ⟨rfl,rfl⟩:=zH h;exact hT
  ·rw [zC] at h
   split at h
   ·rename_i D
    have b:=yB (ts:=ts) (by omega)
    obtain ⟨rfl,rfl⟩:=zH h;simp only [depthE,depthL];omega
   ·split at h
    ·rename_i D
     have b:=yB (ts:=ts) (by omega)
     obtain ⟨rfl,rfl⟩:=zH h;simp only [depthE,depthL];omega
    ·split at h
     ·rename_i D
      have b:=yB (ts:=ts) (by omega)
      split at h
      ·obtain ⟨y,E,A,o⟩:=zg h
       have a:=Q _ _ _ A;obtain ⟨rfl,rfl⟩:=zH o;simp only [depthE];omega
      ·obtain ⟨rfl,rfl⟩:=zH h
       simp only [depthE,depthL];omega
     ·split at h
      ·rename_i D
       have b:=yC D;obtain ⟨rfl,rfl⟩:=zH h;simp only [depthE,depthL];omega
      ·split at h
       ·rename_i D
        have b:=yC D;obtain ⟨rfl,rfl⟩:=zH h;simp only [depthE,depthL];omega
       ·split at h
        ·rename_i D
         have b:=yC D;obtain ⟨s,E,A,o⟩:=zg h;obtain ⟨y,H,I,G⟩:=zg o;have a:=Q _ _ _ I;have c:=Vs A;obtain ⟨rfl,rfl⟩:=zH G;simp only [depthE];omega
        ·split at h
         ·rename_i D
          have b:=yC D;obtain ⟨y,E,A,o⟩:=zg h;obtain ⟨z,H,I,G⟩:=zg o;have a:=L _ _ _ _ _ A (Nat.le_refl _);have c:=yQ I;obtain ⟨rfl,rfl⟩:=zH G;simp only [depthE,depthL] at a ⊢;omega
         ·obtain ⟨z,E,A,o⟩:=zg h
          obtain ⟨y,H,I,G⟩:=zg o;obtain ⟨V,J,N,M⟩:=zg G;have a:=i1 _ _ _ _ I;have b:=yQ A;have c:=yQ N;obtain ⟨rfl,rfl⟩:=zH M;omega
  ·rw [ZS] at h
   obtain ⟨y,E,A,o⟩:=zg h;have a:=i1 _ _ _ _ A
   split at o
   ·rename_i D
    have b:=yC D;refine L _ _ _ _ _ o ?_;rw [yt];simp only [depthL];omega
   ·obtain ⟨rfl,rfl⟩:=zH o
    rw [yt];simp only [depthL];omega
  ·rw [zy] at h
   obtain ⟨z,E,A,o⟩:=zg h;have b:=yQ A
   split at o
   ·rename_i D
    have c:=yC D;obtain ⟨rfl,rfl⟩:=zH o;simp only [depthL];omega
   ·obtain ⟨y,H,I,G⟩:=zg o
    obtain ⟨V,J,N,M⟩:=zg G;have a:=L _ _ _ _ _ I (Nat.le_refl _);have c:=yQ N;obtain ⟨rfl,rfl⟩:=zH M;simp only [depthL] at a;omega
theorem XX:∀(f:Nat) (m:List UInt8) (a:Nat) (r:List UInt8),(zz f m a r).k≠1
 | 0,_,_,_=>by simp [zz]
 | _+1,_,_,[]=>by simp [zz]
 | f+1,m,a,x::r=>by
  unfold zz
  split
  ·simp
  ·split
   ·simp
   ·split
    ·simp
    ·exact XX f _ _ _
theorem qR (l:List UInt8) (h:(zF l).k=1):(zF l).s.length≤20:=by
 unfold zF at h ⊢
 cases l with
 | nil=>simp at h
 | cons x r =>
  simp only at h ⊢
  split at h
  ·rename_i e
   rw [if_pos e]
   unfold Zo at h ⊢
   split at h
   ·simp at h
   ·rename_i y
    rw [if_neg y]
    split at h
    ·simp at h
    ·rename_i o
     rw [if_neg o];simp only;omega
  ·rename_i e
   rw [if_neg e]
   split at h
   ·unfold ym at h
    split at h <;> simp at h
   ·rename_i hd
    rw [if_neg hd]
    split at h
    ·exact absurd h (XX _ _ _ _)
    ·unfold ZQ at h
     split at h <;> simp at h
theorem UF (l:List UInt8) (line a:Nat):NmT (tkT l line a):=fun h=>by
 have:=qR _ (show (zF (l.drop (a+ZL (l.drop a)))).k=1 from h)
 have e:(tkT l line a).s=(zF (l.drop (a+ZL (l.drop a)))).s:=rfl;rw [e];omega
theorem UG (l:List UInt8):∀(f line a:Nat),a≤l.length→l.length<a+f→(scanS l f line a).2.2=0→zt (scanS l f line a).1:=by
 intro f
 induction f with
 | zero=>intro line a G H;omega
 | succ f ih =>
  intro line a G H h;rw [scanS] at h ⊢
  split at h
  ·rename_i y;exact absurd h y
  ·rename_i y
   rw [if_neg y];have D:(zv l a).e=0:=by simpa using y
   split at h
   ·rename_i o
    rw [if_pos o];exact o
   ·rename_i o
    rw [if_neg o]
    split at h
    ·rename_i z;exact absurd h z
    ·rename_i z
     rw [if_neg z];have I:=yn G D o;have A:=ih (Zc l line a) (zn l a+(zv l a).sz) I.2 (by omega) (by simpa using z)
     obtain ⟨t,ts,E⟩:=A.cons;simp only [E] at A ⊢;exact ⟨o,UF l line a,A⟩
theorem XY (l:List UInt8) (h:(zp l).2.2=0):zt (zp l).1:=by
 unfold zp at h ⊢
 split at h
 ·simp at h
 ·rename_i e
  rw [if_neg e];exact UG l _ _ _ (Nat.zero_le _) (by omega) h
end Go.Proofs.YtmbofhpmockmbaaGreatDoor
