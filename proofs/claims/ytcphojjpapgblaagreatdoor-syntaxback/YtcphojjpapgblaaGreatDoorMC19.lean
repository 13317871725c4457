import Derived.Test.YtcphojjpapgblaaGreatDoorMC15
import Derived.Test.YtcphojjpapgblaaGreatDoorMC17
import Derived.Test.YtcphojjpapgblaaGreatDoorSProg
import Derived.Test.YtcphojjpapgblaaGreatDoorMC23
namespace Go.Proofs.YtcphojjpapgblaaGreatDoor
open Go.RowKit Go.Shelf
set_option maxHeartbeats 16000000
set_option maxRecDepth 100000
mutual
def zN:Ex→Nat
 | .mk _ _ _ kids _=>1+depthL kids
def depthL:List Ex→Nat
 | []=>0
 | x::xs=>max (zN x) (depthL xs)
end
theorem YT (a b:List Ex):depthL (a++b)=max (depthL a) (depthL b):=by
 induction a with
 | nil=>simp [depthL]
 | cons x xs ih=>simp [depthL,ih,Nat.max_assoc]
theorem Vn {l:List Ex} {x:Ex} (h:x∈l):zN x≤depthL l:=by
 induction l with
 | nil=>cases h
 | cons y ys ih =>
  simp only [depthL];rcases List.mem_cons.1 h with rfl | h
  ·omega
  ·have:=ih h;omega
theorem zbh {us:List (List Value)} (hfive:∀c∈us,c.length=5) {i j:Nat} {c:List Value} (hc:us[i]?=some c) (hj:j<5):us.flatten[i*5+j]?=c[j]?:=by
 induction us generalizing i with
 | nil=>simp at hc
 | cons d ds ih =>
  have hd:=hfive d (by simp)
  cases i with
  | zero =>
   simp only [List.getElem?_cons_zero,Option.some.injEq] at hc;subst hc;rw [List.flatten_cons,List.getElem?_append_left (by omega)];simp
  | succ i =>
   rw [List.flatten_cons,List.getElem?_append_right (by omega)]
   rw [show (i+1)*5+j-d.length=i*5+j by omega]
   exact ih (fun c hc=>hfive c (by simp [hc])) (by simpa using hc)
theorem VK (S:Nat→Prop) (w:World) (l:List Ex) (v:Value) (h:zK S w l v) (hd:depthL l≤4611686018427387904)
  (hone:∀x∈l,∀c w',Below w.heap.size w w'→zX S w' x c→Calls Tryz.prog 43 #[c] w' fun e w''=>e=.returned (.int .i64 (zN x))∧Below w.heap.size w w'') :
  Calls Tryz.prog 85 #[v,.func (.func 43) #[] #[]] w fun e w'=>e=.returned (.int .i64 (depthL l))∧Below w.heap.size w w':=by
 obtain ⟨d0,n,G,rfl,hn⟩:∃d0 n G,v=.slice d0 n G∧n=l.length:=by
  rcases h with ⟨rfl,rfl⟩ | ⟨g,G,us,rfl,_⟩
  ·exact ⟨_,_,_,rfl,rfl⟩
  ·exact ⟨_,_,_,rfl,rfl⟩
 have A:∀i x,l[i]?=some x→∃g a b c O N L k,d0=some ⟨g,0,none⟩∧g<w.heap.size∧i<n∧n≤G∧G≤maxLen∧zX S w x (.agg #[.int .i64 a,.string b,.int .i64 c,.slice O N L,.int .i64 k]) ∧
   w.cell? ⟨g,i*5,none⟩=some (.int .i64 a)∧w.cell? ⟨g,i*5+1,none⟩=some (.string b)∧w.cell? ⟨g,i*5+2,none⟩=some (.int .i64 c)∧w.cell? ⟨g,i*5+3,none⟩=some (.slice O N L)∧w.cell? ⟨g,i*5+4,none⟩=some (.int .i64 k):=by
  intro i x R;rcases h with ⟨rfl,_⟩ | ⟨g,ae,us,hv,al,Z,hS,U,hc,hm,o,y,hk⟩
  ·simp at R
  ·cases hv
   have hi:i<l.length:=(List.getElem?_eq_some_iff.1 R).1;obtain ⟨c,H⟩:∃c,us[i]?=some c:=⟨us[i]'(by omega),List.getElem?_eq_getElem (by omega)⟩
   have I:=hk i x c R H;obtain ⟨a,b,cc,O,N,L,k,ab⟩:=I.agg
   have ad:c=[.int .i64 a,.string b,.int .i64 cc,.slice O N L,.int .i64 k]:=by
    have:=congrArg (fun v=>match v with | .agg a=>a.toList | _=>[]) ab
    simpa using this
   subst ad;refine ⟨g,a,b,cc,O,N,L,k,rfl,U,by omega,by omega,hm,I,?_,?_,?_,?_,?_⟩
   ·exact o _ _ (by have:=zbh y H (j:=0) (by omega);simpa using this)
   ·exact o _ _ (by have:=zbh y H (j:=1) (by omega);simpa using this)
   ·exact o _ _ (by have:=zbh y H (j:=2) (by omega);simpa using this)
   ·exact o _ _ (by have:=zbh y H (j:=3) (by omega);simpa using this)
   ·exact o _ _ (by have:=zbh y H (j:=4) (by omega);simpa using this)
 have HC:Hid (∀i x,l[i]?=some x→∃g a b c O N L k,d0=some ⟨g,0,none⟩∧g<w.heap.size∧i<n∧n≤G∧G≤maxLen∧zX S w x (.agg #[.int .i64 a,.string b,.int .i64 c,.slice O N L,.int .i64 k]) ∧
   w.cell? ⟨g,i*5,none⟩=some (.int .i64 a)∧w.cell? ⟨g,i*5+1,none⟩=some (.string b)∧w.cell? ⟨g,i*5+2,none⟩=some (.int .i64 c)∧w.cell? ⟨g,i*5+3,none⟩=some (.slice O N L)∧w.cell? ⟨g,i*5+4,none⟩=some (.int .i64 k)):=A
 have J:Hid (∀x∈l,∀c w',Below w.heap.size w w'→zX S w' x c→Calls Tryz.prog 43 #[c] w' fun e w''=>e=.returned (.int .i64 (zN x))∧Below w.heap.size w w''):=hone
 have Z:n≤9223372036854775807:=by
  rcases Nat.eq_zero_or_pos n with h0 | h0
  ·omega
  ·obtain ⟨_,_,_,_,_,_,_,_,_,_,_,h1,h2,_⟩:=A 0 (l[0]'(by omega)) (List.getElem?_eq_getElem (by omega))
   unfold maxLen at h2
   omega
 have HN:Hid (n=l.length):=hn;clear h hone A hn
 go_enter Tryz.func85,Tryz.ntmps85
 go_wp2_with fail
 go_loopw [5,10] (fun m i wr=>∃k:Nat,k≤n∧i=.int .i64 k∧m=.int .i64 (depthL (l.take k))∧Below w.heap.size w wr) (fun _ i _=>n-(intOf i).toNat)
 case atStart=>exact ⟨0,Nat.zero_le _,rfl,rfl,Below.refl _ _⟩
 case round =>
  obtain ⟨k,hk,rfl,rfl,z⟩:=hrel
  by_cases hlt:k<n
  ·obtain ⟨x,R⟩:∃x,l[k]?=some x:=⟨l[k]'(by rw [←HN.out];exact hlt),List.getElem?_eq_getElem (by rw [←HN.out];exact hlt)⟩
   obtain ⟨g,a,b,c,O,N,L,j,rfl,U,-,ah,ak,I,m0,m1,m2,m3,m4⟩:=HC.out k x R;have n0:=(z.cell (p:=⟨g,k*5,none⟩) U).trans m0;have n1:=(z.cell (p:=⟨g,k*5+1,none⟩) U).trans m1;have n2:=(z.cell (p:=⟨g,k*5+2,none⟩) U).trans m2;have n3:=(z.cell (p:=⟨g,k*5+3,none⟩) U).trans m3;have n4:=(z.cell (p:=⟨g,k*5+4,none⟩) U).trans m4;clear m0 m1 m2 m3 m4;have Y:(k:Int)<(n:Int):=by omega
   have Q:Below w.heap.size w (wr.alloc (.cells #[.int .i64 a,.string b,.int .i64 c,.slice O N L,.int .i64 j] 45)):=z.alloc z.size _;have X:=zX.kept I Q.size fun k' _ hlt=>Q.block k' hlt
   have c4:=J.out x (List.mem_of_getElem? R) _ _ Q X
   have aa:Hid (depthL (l.take (k+1))=max (depthL (l.take k)) (zN x)):=show _=_ by
    rw [List.take_add_one,R,YT];simp [depthL]
   have aj:depthL (l.take (k+1))≤depthL l:=by
    have:=YT (l.take (k+1)) (l.drop (k+1))
    rw [List.take_append_drop] at this;omega
   have ag:zN x≤4611686018427387904:=by have:=Vn (List.mem_of_getElem? R);omega
   have af:depthL (l.take k)≤4611686018427387904:=by have:=aa.out;omega
   clear Q X I z HC J;generalize depthL (l.take k)=M at *;generalize hD:zN x=D at *;go_wp2_with fail
   refine c4.mono ?_;clear c4;rintro e w5 ⟨rfl,W⟩;have T:Hid (Below w.heap.size w w5):=W;clear W;go_wp2
   refine ⟨⟨k+1,by omega,by go_num,?_,T.out⟩,by simp [intOf];omega⟩
   rw [aa.out];congr 1;omega
  ·have ai:k=n:=by omega
   have Y:¬(k:Int)<(n:Int):=by omega
   have V:l.take k=l:=List.take_of_length_le (by have:=HN.out;omega)
   have T:Hid (Below w.heap.size w wr):=z;clear z HC J;rw [V];clear V;go_wp2
   refine bodyPost_ret (v:=.int .i64 (depthL l)) (by simp [results,Tryz.results85,go_sem]) rfl ⟨rfl,T.out⟩
theorem zX.rowOf {S:Nat→Prop} {w:World} {x:Ex} {v:Value} (h:zX S w x v):∃(k:Nat) (s:List UInt8) (n:Int) (l:List Ex) (line:Nat) (d:Value),x=.mk k s n l line∧v=.agg #[.int .i64 k,.string (zb s),.int .i64 n,d,.int .i64 line]∧zK S w l d:=by
 cases h with
 | leaf k s n line=>exact ⟨k,s,n,[],line,_,rfl,rfl,.inl ⟨rfl,rfl⟩⟩
 | node k s n kids line g cap us hne hlen hB hg hc hm hcell hfive hk=>exact ⟨k,s,n,kids,line,_,rfl,rfl,.inr ⟨g,cap,us,rfl,hne,hlen,hB,hg,hc,hm,hcell,hfive,hk⟩⟩
theorem qJ (S:Nat→Prop) (w w1:World) (x:Ex) (v:Value) (hb:Below w.heap.size w w1) (hx:zX S w1 x v) (hd:zN x≤4611686018427387904)
  (hg:∀l v' w2,(∀y∈l,zN y<zN x)→depthL l+1=zN x→Below w.heap.size w w2→zK S w2 l v'→Calls Tryz.prog 85 #[v',.func (.func 43) #[] #[]] w2 fun e w'=>e=.returned (.int .i64 (depthL l))∧Below w.heap.size w w') :
  Calls Tryz.prog 43 #[v] w1 fun e w'=>e=.returned (.int .i64 (zN x))∧Below w.heap.size w w':=by
 obtain ⟨a,b,c,I,J,N,k,rfl⟩:=hx.agg
 obtain ⟨l,L,h⟩:∃l,zN x=1+depthL l∧zK S w1 l (.slice I J N):=by
  obtain ⟨U,T,V,l,G,d,rfl,Q,h⟩:=hx.rowOf;have z:=congrArg (fun v=>match v with | .agg a=>a.toList | _=>[]) Q
  simp only [List.cons.injEq] at z;obtain ⟨_,_,_,rfl,_⟩:=z;exact ⟨l,by simp [zN],h⟩
 have A:Below w.heap.size w (w1.alloc (.cells #[.int .i64 a,.string b,.int .i64 c,.slice I J N,.int .i64 k] 45)):=hb.alloc hb.size _;have H:=hg l _ _ (fun y hy=>by have:=Vn hy;omega) (by omega) A (h.kept (by simp) fun k _ hlt=>Below.heap_alloc _ _ _ hlt)
 rw [L];clear hg hx h hb A;have R:depthL l≤4611686018427387904:=by omega
 clear L hd;generalize depthL l=M at *
 go_enter Tryz.func43,Tryz.ntmps43
 go_wp2_with fail
 refine H.mono ?_;clear H;rintro e O ⟨rfl,o⟩;have D:Hid (Below w.heap.size w O):=o;clear o;go_wp2
 refine bodyPost_ret (v:=.int .i64 (1+(M:Int))) (by simp [results,Tryz.results43,go_sem]) rfl ⟨by simp,D.out⟩
theorem vS (S:Nat→Prop):∀(d:Nat) (w:World) (x:Ex) (v:Value) (o:World),zN x≤d→d≤4611686018427387904→Below w.heap.size w o→zX S o x v →
  Calls Tryz.prog 43 #[v] o fun e w'=>e=.returned (.int .i64 (zN x))∧Below w.heap.size w w':=by
 intro d
 induction d with
 | zero=>intro w x v o h;cases x;simp [zN] at h
 | succ d ih =>
  intro w x v o G hd A D;refine qJ S w o x v A D (by omega) fun l v' w2 hl hs hb2 hrow=>?_
  refine (VK S w2 l v' hrow (by omega) fun y hy c w' hb' hy'=>ih w2 y c w' (by have:=hl y hy;omega) (by omega) hb' hy').mono fun e w' h=>⟨h.1,?_⟩
  have z:=h.2;exact ⟨z.os.trans hb2.os,z.tape.trans hb2.tape,z.output.trans hb2.output,Nat.le_trans hb2.size z.size,fun k hk=>(z.block k (Nat.lt_of_lt_of_le hk hb2.size)).trans (hb2.block k hk)⟩
def yB (res:PR Ex):Except Nat Ex :=
 match res with
 | .error a=>.error a
 | .ok (x,us)=>if (zu us).k=0 then .ok x else .error (zu us).at0
structure Y3 (r B2:Nat) (w w':World):Prop where
 os:w'.os=w.os
 tape:w'.tape=w.tape
 output:w'.output=w.output
 size:w.heap.size≤w'.heap.size
 block:∀k,k<w.heap.size→k≠r→k≠B2→w'.heap[k]?=w.heap[k]?
def Qn (r B2:Nat) (w:World) (res:Except Nat Ex) (e:Ending) (w':World):Prop :=
 Y3 r B2 w w'∧match res with
  | .error a=>e=ZG a
  | .ok x=>e=.returned (.tuple #[])∧∃(a:Int) (b:ByteArray) (c:Int) (d0:Option Addr) (d1 d2:Nat) (l:Int),w'.heap[B2]?=some (.cells #[.int .i64 a,.string b,.int .i64 c,.slice d0 d1 d2,.int .i64 l] 45 (0,0))∧ZI w.heap.size w' x (.agg #[.int .i64 a,.string b,.int .i64 c,.slice d0 d1 d2,.int .i64 l])
theorem zii (r g o cap B0 B1 B2 f ty0 ty1:Nat) (ts:List Tk) (w:World) (res:PR Ex) (h:zf r g o cap ts w) (hE:zi ts) (hl:ZA w) (hrl:r≠1) (hp:zg f 1 ts=some res)
  (b0:w.heap[B0]?=some (.cells #[.func (.func 42) #[] #[]] ty0 (0,0))) (b1:w.heap[B1]?=some (.cells #[.pointer (some ⟨r,0,none⟩)] ty1 (0,0))) (b2:w.heap[B2]?=some Zz) (h1:B1≠r) (h2:B2≠r) (h3:B2≠g) (h4:B1≠B2) :
  Calls Tryz.prog 83 #[.pointer (some ⟨B0,0,none⟩),.pointer (some ⟨B1,0,none⟩),.pointer (some ⟨B2,0,none⟩)] w (Qn r B2 w (yB res)):=by
 generalize hres:yB res=R;obtain ⟨t0,ah,rfl⟩:=hE.cons;have I:=(zfn r g hrl f).expr hrl w o cap _ res hp hE h hl;have c0:w.cell? ⟨B0,0,none⟩=some (.func (.func 42) #[] #[]):=by simp only [World.cell?,b0];rfl
 have c1:w.cell? ⟨B1,0,none⟩=some (.pointer (some ⟨r,0,none⟩)):=by simp only [World.cell?,b1];rfl
 have aa:B2<w.heap.size:=(Array.getElem?_eq_some_iff.1 b2).1;have ab:B1<w.heap.size:=(Array.getElem?_eq_some_iff.1 b1).1
 go_enter Tryz.func83,Tryz.ntmps83
 go_wp2_with fail
 refine I.mono ?_;clear I;rintro e w1 ⟨z,H⟩;rcases res with a | ⟨x,us⟩
 ·obtain rfl:=H
  obtain rfl:R=.error a:=by rw [←hres];rfl
  exact ⟨rfl,⟨z.os,z.tape,z.output,z.size,fun k hk hr _=>z.block k hk hr⟩,rfl⟩
 ·obtain ⟨v,o1,L,rfl,hx,X⟩:=H
  obtain ⟨a,b,c,O,Q,N,l,rfl⟩:=hx.agg;have ad:=(Ze f).1 _ _ _ _ hp hE;obtain ⟨t1,U,rfl⟩:=ad.cons;have p1:=(z.block _ ab h1).trans b1;have p2:=(z.block _ aa h2).trans b2;obtain ⟨q0,q1,q2,q3,q4,qf⟩:=zU p2;obtain ⟨w2,G⟩:∃w2,w2=set5 w1 B2 (.int .i64 a) (.string b) (.int .i64 c) (.slice O Q N) (.int .i64 l):=⟨_,rfl⟩;have A:∀k,k≠B2→w2.heap[k]?=w1.heap[k]?:=fun k hk=>by rw [G];exact zr _ _ _ _ _ _ _ hk
  have J:zf r g o1 L (t1::U) w2:=X.keep (A r (fun e=>h2 e.symm)) (A g (fun e=>h3 e.symm))
  have Y:w1.heap.size≤w2.heap.size:=by rw [G];simp
  have T:ZI w.heap.size w2 x (.agg #[.int .i64 a,.string b,.int .i64 c,.slice O Q N,.int .i64 l]):=ZI.kept hx Y fun k hB _=>A k (by omega)
  have pB:w2.heap[B2]?=some (.cells #[.int .i64 a,.string b,.int .i64 c,.slice O Q N,.int .i64 l] 45 (0,0)):=by rw [G];exact Yl p2 _ _ _ _ _
  have af:w2.cell? ⟨B1,0,none⟩=some (.pointer (some ⟨r,0,none⟩)):=by
   have p3:=(A B1 h4).trans p1;simp only [World.cell?,p3];rfl
  have D:Hid (Y3 r B2 w w2):=⟨by rw [G];exact z.os,by rw [G];exact z.tape,by rw [G];exact z.output,Nat.le_trans z.size Y,fun k hk hr hb=>(A k hb).trans (z.block k hk hr)⟩
  have I:=zhB r g o1 L t1 U w2 J;have Z:Hid (ZI w.heap.size w2 x (.agg #[.int .i64 a,.string b,.int .i64 c,.slice O Q N,.int .i64 l])):=T;have W:Hid (w2.heap[B2]?=some (.cells #[.int .i64 a,.string b,.int .i64 c,.slice O Q N,.int .i64 l] 45 (0,0))):=pB;have ae:=G.symm;have ag:=z.size;have V:B2<w2.heap.size:=(Array.getElem?_eq_some_iff.1 pB).1;clear T pB J A hx X p1 p2 z G
  by_cases hk:t1.k=0
  ·simp only [if_pos hk] at I
   obtain rfl:R=.ok x:=by rw [←hres];unfold yB;simp only [zC,if_pos hk]
   go_wp2_with fail
   refine I.mono ?_;clear I;rintro e w3 ⟨y,rfl⟩
   have hP:Qn r B2 w (.ok x) (.returned (.tuple #[])) w3:=by
    refine ⟨⟨y.os.trans D.out.os,y.tape.trans D.out.tape,y.output.trans D.out.output,Nat.le_trans D.out.size y.size,fun k hk hr hb=>(y.block k (Nat.lt_of_lt_of_le hk D.out.size) hr).trans (D.out.block k hk hr hb)⟩,rfl,a,b,c,O,Q,N,l,(y.block _ V h2).trans W.out,?_⟩
    exact ZI.kept Z.out y.size fun k hB hlt=>y.block k hlt (by have:=h.lt.1;omega)
   have HP:Hid (Qn r B2 w (.ok x) (.returned (.tuple #[])) w3):=hP;clear hP y D Z W;go_wp2
   exact bodyPost_ret (v:=.tuple #[]) (by simp [results,Tryz.results83,go_sem]) rfl HP.out
  ·simp only [if_neg hk] at I
   obtain rfl:R=.error t1.at0:=by rw [←hres];unfold yB;simp only [zC,if_neg hk]
   go_wp2_with fail
   refine I.mono ?_;clear I;rintro e w3 ⟨y,rfl⟩;exact ⟨rfl,⟨y.os.trans D.out.os,y.tape.trans D.out.tape,y.output.trans D.out.output,Nat.le_trans D.out.size y.size,fun k hk hr hb=>(y.block k (Nat.lt_of_lt_of_le hk D.out.size) hr).trans (D.out.block k hk hr hb)⟩,rfl⟩
mutual
def Zn:St→Nat
 | .mk _ _ es b e _=>1+max (depthL es) (max (depthSs b) (depthSs e))
def depthSs:List St→Nat
 | []=>0
 | x::xs=>max (Zn x) (depthSs xs)
end
theorem xz (a b:List St):depthSs (a++b)=max (depthSs a) (depthSs b):=by
 induction a with
 | nil=>simp [depthSs]
 | cons x xs ih=>simp [depthSs,ih,Nat.max_assoc]
theorem xQ {l:List St} {x:St} (h:x∈l):Zn x≤depthSs l:=by
 induction l with
 | nil=>cases h
 | cons y ys ih =>
  simp only [depthSs];rcases List.mem_cons.1 h with rfl | h
  ·omega
  ·have:=ih h;omega
theorem X7 {sz:Nat} {us:List (List Value)} (hfive:∀c∈us,c.length=sz) {i j:Nat} {c:List Value} (hc:us[i]?=some c) (hj:j<sz):us.flatten[i*sz+j]?=c[j]?:=by
 induction us generalizing i with
 | nil=>simp at hc
 | cons d ds ih =>
  have hd:=hfive d (by simp)
  cases i with
  | zero =>
   simp only [List.getElem?_cons_zero,Option.some.injEq] at hc;subst hc;rw [List.flatten_cons,List.getElem?_append_left (by omega)];simp
  | succ i =>
   have e:(i+1)*sz=i*sz+sz:=by rw [Nat.add_mul];simp
   rw [List.flatten_cons,List.getElem?_append_right (by omega)]
   rw [show (i+1)*sz+j-d.length=i*sz+j by omega]
   exact ih (fun c hc=>hfive c (by simp [hc])) (by simpa using hc)
theorem vT (S:Nat→Prop) (w:World) (l:List St) (v:Value) (h:z8 S w l v) (hd:depthSs l≤4611686018427387904)
  (hone:∀x∈l,∀c w',Below w.heap.size w w'→yo S w' x c→Calls Tryz.prog 55 #[c] w' fun e w''=>e=.returned (.int .i64 (Zn x))∧Below w.heap.size w w'') :
  Calls Tryz.prog 54 #[v,.func (.func 55) #[] #[]] w fun e w'=>e=.returned (.int .i64 (depthSs l))∧Below w.heap.size w w':=by
 obtain ⟨d0,n,G,rfl,hn⟩:∃d0 n G,v=.slice d0 n G∧n=l.length:=by
  obtain ⟨g,G,us,⟨rfl,rfl⟩ | ⟨rfl,_⟩,_⟩:=h
  ·exact ⟨_,_,_,rfl,rfl⟩
  ·exact ⟨_,_,_,rfl,rfl⟩
 have A:∀i x,l[i]?=some x→∃g a b O N R W T V U Q L k,d0=some ⟨g,0,none⟩∧g<w.heap.size∧i<n∧n≤G∧G≤maxLen∧yo S w x (.agg #[.int .i64 a,.string b,.slice O N R,.slice W T V,.slice U Q L,.int .i64 k]) ∧
   w.cell? ⟨g,i*6,none⟩=some (.int .i64 a)∧w.cell? ⟨g,i*6+1,none⟩=some (.string b)∧w.cell? ⟨g,i*6+2,none⟩=some (.slice O N R)∧w.cell? ⟨g,i*6+3,none⟩=some (.slice W T V)∧w.cell? ⟨g,i*6+4,none⟩=some (.slice U Q L)∧w.cell? ⟨g,i*6+5,none⟩=some (.int .i64 k):=by
  intro i x Z;obtain ⟨g,ak,us,⟨rfl,_⟩ | ⟨hv,ar,ae,hS,Y,hc,hm,o,z⟩,hk⟩:=h
  ·simp at Z
  ·cases hv
   have hi:i<l.length:=(List.getElem?_eq_some_iff.1 Z).1;obtain ⟨c,H⟩:∃c,us[i]?=some c:=⟨us[i]'(by omega),List.getElem?_eq_getElem (by omega)⟩
   have I:=hk i x c Z H;obtain ⟨a,b,O,N,R,W,T,V,U,Q,L,k,aj⟩:=I.agg
   have ai:c=[.int .i64 a,.string b,.slice O N R,.slice W T V,.slice U Q L,.int .i64 k]:=by
    have:=congrArg (fun v=>match v with | .agg a=>a.toList | _=>[]) aj
    simpa using this
   subst ai;refine ⟨g,a,b,O,N,R,W,T,V,U,Q,L,k,rfl,Y,by omega,by omega,hm,I,?_,?_,?_,?_,?_,?_⟩
   ·exact o _ _ (by have:=X7 z H (j:=0) (by omega);simpa using this)
   ·exact o _ _ (by have:=X7 z H (j:=1) (by omega);simpa using this)
   ·exact o _ _ (by have:=X7 z H (j:=2) (by omega);simpa using this)
   ·exact o _ _ (by have:=X7 z H (j:=3) (by omega);simpa using this)
   ·exact o _ _ (by have:=X7 z H (j:=4) (by omega);simpa using this)
   ·exact o _ _ (by have:=X7 z H (j:=5) (by omega);simpa using this)
 have HC:Hid (∀i x,l[i]?=some x→∃g a b O N R W T V U Q L k,d0=some ⟨g,0,none⟩∧g<w.heap.size∧i<n∧n≤G∧G≤maxLen∧yo S w x (.agg #[.int .i64 a,.string b,.slice O N R,.slice W T V,.slice U Q L,.int .i64 k]) ∧
   w.cell? ⟨g,i*6,none⟩=some (.int .i64 a)∧w.cell? ⟨g,i*6+1,none⟩=some (.string b)∧w.cell? ⟨g,i*6+2,none⟩=some (.slice O N R)∧w.cell? ⟨g,i*6+3,none⟩=some (.slice W T V)∧w.cell? ⟨g,i*6+4,none⟩=some (.slice U Q L)∧w.cell? ⟨g,i*6+5,none⟩=some (.int .i64 k)):=A
 have J:Hid (∀x∈l,∀c w',Below w.heap.size w w'→yo S w' x c→Calls Tryz.prog 55 #[c] w' fun e w''=>e=.returned (.int .i64 (Zn x))∧Below w.heap.size w w''):=hone
 have ae:n≤9223372036854775807:=by
  rcases Nat.eq_zero_or_pos n with h0 | h0
  ·omega
  ·obtain ⟨_,_,_,_,_,_,_,_,_,_,_,_,_,_,_,_,h1,h2,_⟩:=A 0 (l[0]'(by omega)) (List.getElem?_eq_getElem (by omega))
   unfold maxLen at h2
   omega
 have HN:Hid (n=l.length):=hn;clear h hone A hn
 go_enter Tryz.func54,Tryz.ntmps54
 go_wp2_with fail
 go_loopw [5,10] (fun m i wr=>∃k:Nat,k≤n∧i=.int .i64 k∧m=.int .i64 (depthSs (l.take k))∧Below w.heap.size w wr) (fun _ i _=>n-(intOf i).toNat)
 case atStart=>exact ⟨0,Nat.zero_le _,rfl,rfl,Below.refl _ _⟩
 case round =>
  obtain ⟨k,hk,rfl,rfl,y⟩:=hrel
  by_cases hlt:k<n
  ·obtain ⟨x,Z⟩:∃x,l[k]?=some x:=⟨l[k]'(by rw [←HN.out];exact hlt),List.getElem?_eq_getElem (by rw [←HN.out];exact hlt)⟩
   obtain ⟨g,a,b,O,N,R,W,T,V,U,Q,L,j,rfl,Y,-,ao,aq,I,m0,m1,m2,m3,m4,m5⟩:=HC.out k x Z;have n0:=(y.cell (p:=⟨g,k*6,none⟩) Y).trans m0;have n1:=(y.cell (p:=⟨g,k*6+1,none⟩) Y).trans m1;have n2:=(y.cell (p:=⟨g,k*6+2,none⟩) Y).trans m2;have n3:=(y.cell (p:=⟨g,k*6+3,none⟩) Y).trans m3;have n4:=(y.cell (p:=⟨g,k*6+4,none⟩) Y).trans m4;have n5:=(y.cell (p:=⟨g,k*6+5,none⟩) Y).trans m5;clear m0 m1 m2 m3 m4 m5;have ad:(k:Int)<(n:Int):=by omega
   have X:Below w.heap.size w (wr.alloc (.cells #[.int .i64 a,.string b,.slice O N R,.slice W T V,.slice U Q L,.int .i64 j] 107)):=y.alloc y.size _;have ab:=yo.kept I X.size fun k' _ hlt=>X.block k' hlt
   have c4:=J.out x (List.mem_of_getElem? Z) _ _ X ab
   have ah:Hid (depthSs (l.take (k+1))=max (depthSs (l.take k)) (Zn x)):=show _=_ by
    rw [List.take_add_one,Z,xz];simp [depthSs]
   have ap:depthSs (l.take (k+1))≤depthSs l:=by
    have:=xz (l.take (k+1)) (l.drop (k+1))
    rw [List.take_append_drop] at this;omega
   have am:Zn x≤4611686018427387904:=by have:=xQ (List.mem_of_getElem? Z);omega
   have al:depthSs (l.take k)≤4611686018427387904:=by have:=ah.out;omega
   clear X ab I y HC J;generalize depthSs (l.take k)=M at *;generalize hD:Zn x=D at *;go_wp2_with fail
   refine c4.mono ?_;clear c4;rintro e w5 ⟨rfl,ag⟩;have aa:Hid (Below w.heap.size w w5):=ag;clear ag;go_wp2
   refine ⟨⟨k+1,by omega,by go_num,?_,aa.out⟩,by simp [intOf];omega⟩
   rw [ah.out];congr 1;omega
  ·have an:k=n:=by omega
   have ad:¬(k:Int)<(n:Int):=by omega
   have af:l.take k=l:=List.take_of_length_le (by have:=HN.out;omega)
   have aa:Hid (Below w.heap.size w wr):=y;clear y HC J;rw [af];clear af;go_wp2
   refine bodyPost_ret (v:=.int .i64 (depthSs l)) (by simp [results,Tryz.results54,go_sem]) rfl ⟨rfl,aa.out⟩
theorem yo.rowsOf {S:Nat→Prop} {w:World} {x:St} {a:Int} {b:ByteArray} {ve vb vl:Value} {c:Int} (h:yo S w x (.agg #[.int .i64 a,.string b,ve,vb,vl,.int .i64 c])):∃k s es body els line,x=.mk k s es body els line∧a=(k:Int)∧b=zb s∧c=(line:Int)∧zK S w es ve∧z8 S w body vb∧z8 S w els vl:=by
 cases h with
 | mk k s es body els line _ _ _ gb cb gl cl ub ul he hb hbk hl hlk=>exact ⟨k,s,es,body,els,line,rfl,rfl,rfl,rfl,he,⟨gb,cb,ub,hb,hbk⟩,⟨gl,cl,ul,hl,hlk⟩⟩
theorem Yq {w w2 w':World} (hb2:Below w.heap.size w w2) (h2:Below w2.heap.size w2 w'):Below w.heap.size w w':=hb2.trans (h2.mono hb2.size)
theorem qK (S:Nat→Prop) (w1:World) (x:St) (v:Value) (hx:yo S w1 x v) (hd:Zn x≤4611686018427387904)
  (hg:∀l v' w2,(∀y∈l,Zn y<Zn x)→depthSs l<Zn x→z8 S w2 l v'→Calls Tryz.prog 54 #[v',.func (.func 55) #[] #[]] w2 fun e w'=>e=.returned (.int .i64 (depthSs l))∧Below w2.heap.size w2 w') :
  Calls Tryz.prog 55 #[v] w1 fun e w'=>e=.returned (.int .i64 (Zn x))∧Below w1.heap.size w1 w':=by
 obtain ⟨a,b,e0,e1,e2,b0,b1,b2,l0,l1,l2,c,rfl⟩:=hx.agg;obtain ⟨k,s,L,o,A,line,rfl,rfl,rfl,rfl,T,X,Q⟩:=hx.rowsOf;have hD:Zn (.mk k s L o A line)=1+max (depthL L) (max (depthSs o) (depthSs A)):=by simp [Zn]
 obtain ⟨sB,Z⟩:∃sB,sB=zb s:=⟨_,rfl⟩;rw [←Z];obtain ⟨w2,I⟩:∃w2,w2=w1.alloc (.cells #[.int .i64 (k:Int),.string sB,.slice e0 e1 e2,.slice b0 b1 b2,.slice l0 l1 l2,.int .i64 (line:Int)] 107):=⟨_,rfl⟩;have D:Below w1.heap.size w1 w2:=by rw [I];exact (Below.refl _ w1).alloc (Nat.le_refl _) _
 have p2:w2.heap[w1.heap.size]?=some (.cells #[.int .i64 (k:Int),.string sB,.slice e0 e1 e2,.slice b0 b1 b2,.slice l0 l1 l2,.int .i64 (line:Int)] 107 (0,0)):=by rw [I];exact World.alloc_heap_new _ _
 have hN:w1.heap.size<w2.heap.size:=(Array.getElem?_eq_some_iff.1 p2).1;obtain ⟨-,-,q2,q3,q4,-,-⟩:=zM p2
 have CE:Hid (∀W,Below w2.heap.size w2 W→Calls Tryz.prog 85 #[.slice e0 e1 e2,.func (.func 43) #[] #[]] W fun e w'=>e=.returned (.int .i64 (depthL L))∧Hid (Below w2.heap.size w2 w')):=fun W hW=>by
  have z:Below w1.heap.size w1 W:=Yq D hW;refine (VK S W L _ (T.kept z.size fun k _ hlt=>z.block k hlt) (by omega) fun y hy c w' hb' hy'=>vS S (zN y) W y c w' (Nat.le_refl _) (by have:=Vn hy;omega) hb' hy').mono fun e w' h=>⟨h.1,Yq hW h.2⟩
 have CG:∀(l:List St) (v':Value),z8 S w1 l v'→(∀y∈l,Zn y<Zn (.mk k s L o A line))→depthSs l<Zn (.mk k s L o A line)→∀W,Below w2.heap.size w2 W→Calls Tryz.prog 54 #[v',.func (.func 55) #[] #[]] W fun e w'=>e=.returned (.int .i64 (depthSs l))∧Hid (Below w2.heap.size w2 w'):=fun l v' hl h1 h2 W hW=>by
  have z:Below w1.heap.size w1 W:=Yq D hW;exact (hg l v' W h1 h2 (hl.kept z.size fun k _ hlt=>z.block k hlt)).mono fun e w' h=>⟨h.1,Yq hW h.2⟩
 have CB:Hid (∀W,Below w2.heap.size w2 W→Calls Tryz.prog 54 #[.slice b0 b1 b2,.func (.func 55) #[] #[]] W fun e w'=>e=.returned (.int .i64 (depthSs o))∧Hid (Below w2.heap.size w2 w')):=CG o _ X (fun y hy=>by have:=xQ hy;omega) (by omega)
 have CL:Hid (∀W,Below w2.heap.size w2 W→Calls Tryz.prog 54 #[.slice l0 l1 l2,.func (.func 55) #[] #[]] W fun e w'=>e=.returned (.int .i64 (depthSs A))∧Hid (Below w2.heap.size w2 w')):=CG A _ Q (fun y hy=>by have:=xQ hy;omega) (by omega)
 rw [hD] at hd ⊢;generalize depthL L=M1 at *;generalize depthSs o=M2 at *;generalize depthSs A=M3 at *;have R:Hid (Below w1.heap.size w1 w2):=D;have ae:M1≤4611686018427387904:=by omega
 have af:M2≤4611686018427387904:=by omega
 have ad:M3≤4611686018427387904:=by omega
 have N:=I.symm;clear CG hg hx T X Q D p2 I hD hd Z
 go_enter Tryz.func55,Tryz.ntmps55
 go_wp2_with fail
 have z2:∀c:Vj (fun W=>Below w2.heap.size w2 W),c.1.cell? ⟨w1.heap.size,2,none⟩=some (.slice e0 e1 e2):=fun c=>(c.2.cell (p:=⟨w1.heap.size,2,none⟩) hN).trans q2
 have z3:∀c:Vj (fun W=>Below w2.heap.size w2 W),c.1.cell? ⟨w1.heap.size,3,none⟩=some (.slice b0 b1 b2):=fun c=>(c.2.cell (p:=⟨w1.heap.size,3,none⟩) hN).trans q3
 have z4:∀c:Vj (fun W=>Below w2.heap.size w2 W),c.1.cell? ⟨w1.heap.size,4,none⟩=some (.slice l0 l1 l2):=fun c=>(c.2.cell (p:=⟨w1.heap.size,4,none⟩) hN).trans q4
 have Y:Hid (Below w2.heap.size w2 w2.drew):=(Below.refl _ _).drew;refine vC (n:=12) (S:=fun w'=>∃c:Vj (fun W=>Below w2.heap.size w2 W),w'=c.1) (by kernel_rfl) rfl rfl ?_
 refine yA (fuel:=6) (fuel':=12) (idx:=[0,1,3,4,6,7]) (by decide +kernel) rfl rfl rfl (fun _ _ _ _ _ h=>h) ⟨⟨w2.drew,Y.out⟩,rfl⟩ ?_
 show wpQuiet _ _ _ _ [_,_,_,_,_,_] _
 iterate 6 (go_big_quiet_step (exact rfl))
 refine wpQuiet_nil ?_;refine Zi (fuel:=5) (fuel':=6) (i:=2) rfl (by decide +kernel) rfl rfl (by rfl) ?_
 intro K G;go_simp;refine (CE.out w2.drew Y.out).mono ?_;rintro e w3 ⟨rfl,O⟩
 (try go_simp)
 refine G.out _ _ ⟨⟨w3,O.out⟩,rfl⟩ ?_;clear G K;refine Zi (fuel:=4) (fuel':=5) (i:=5) rfl (by decide +kernel) rfl rfl (by rfl) ?_
 intro K G;go_simp;refine (CB.out w3 O.out).mono ?_;rintro e w4 ⟨rfl,U⟩
 (try go_simp)
 refine G.out _ _ ⟨⟨w4,U.out⟩,rfl⟩ ?_;clear G K;refine Zi (fuel:=3) (fuel':=4) (i:=8) rfl (by decide +kernel) rfl rfl (by rfl) ?_
 intro K G;go_simp;refine (CL.out w4 U.out).mono ?_;rintro e w5 ⟨rfl,H⟩
 (try go_simp)
 refine G.out _ _ ⟨⟨w5,H.out⟩,rfl⟩ ?_;clear G K;refine Zi (fuel:=2) (fuel':=3) (i:=9) rfl (by decide +kernel) rfl rfl (by rfl) ?_
 intro K G;go_simp;refine G.out _ _ ⟨⟨w5,H.out⟩,rfl⟩ ?_;clear G K;simp only [Act.put,List.setIfInBounds_toArray,List.set_cons_zero,List.set_cons_succ];refine yA (fuel:=0) (fuel':=2) (idx:=[10,11]) (by decide +kernel) rfl rfl rfl (fun _ _ _ _ _ h=>h) ⟨⟨w5,H.out⟩,rfl⟩ ?_
 show wpQuiet _ _ _ _ [_,_] _
 iterate 2 (go_big_quiet_step (exact rfl))
 refine wpQuiet_nil ?_;refine Yg (by decide +kernel) ?_
 have hV:(1+if (if M1<M2 then (M2:Int) else M1)<(M3:Int) then (M3:Int) else if M1<M2 then (M2:Int) else M1)=((1+max M1 (max M2 M3):Nat):Int):=by
  by_cases h1:M1<M2
  ·simp only [if_pos h1]
   split <;> omega
  ·simp only [if_neg h1]
   split <;> omega
 rw [hV];obtain ⟨V,J⟩:∃V,V=1+max M1 (max M2 M3):=⟨_,rfl⟩;rw [←J];have ab:Hid (V=1+max M1 (max M2 M3)):=J;have aa:Hid (Below w1.heap.size w1 w5):=Yq R.out H.out;clear hV J z2 z3 z4 q2 q3 q4 N;go_wp2
 all_goals exact bodyPost_ret (v:=.int .i64 (V:Int)) (by simp [results,Tryz.results55,go_sem]) rfl ⟨by rw [show (V:Int)=1+((max M1 (max M2 M3):Nat):Int) by have:=ab.out;omega],aa.out⟩
theorem qL (S:Nat→Prop):∀(d:Nat) (x:St) (v:Value) (o:World),Zn x≤d→d≤4611686018427387904→yo S o x v →
  Calls Tryz.prog 55 #[v] o fun e w'=>e=.returned (.int .i64 (Zn x))∧Below o.heap.size o w':=by
 intro d
 induction d with
 | zero=>intro x v o h;cases x;simp [Zn] at h
 | succ d ih =>
  intro x v o A hd z;refine qK S o x v z (by omega) fun l v' w2 hl hs hrow=>?_
  exact vT S w2 l v' hrow (by omega) fun y hy c w' hb' hy'=>(ih y c w' (by have:=hl y hy;omega) (by omega) hy').mono fun e w'' h=>⟨h.1,Yq hb' h.2⟩
theorem qM (S:Nat→Prop) (w:World) (l:List St) (v:Value) (h:z8 S w l v) (hd:depthSs l≤4611686018427387904) :
  Calls Tryz.prog 54 #[v,.func (.func 55) #[] #[]] w fun e w'=>e=.returned (.int .i64 (depthSs l))∧Below w.heap.size w w' :=
 vT S w l v h hd fun y hy c w' hb' hy'=>(qL S (Zn y) y c w' (Nat.le_refl _) (by have:=xQ hy;omega) hy').mono fun e w'' h=>⟨h.1,Yq hb' h.2⟩
def depthFs:List Fc→Nat
 | []=>0
 | x::xs=>max (depthSs x.body) (depthFs xs)
theorem xA (a b:List Fc):depthFs (a++b)=max (depthFs a) (depthFs b):=by
 induction a with
 | nil=>simp [depthFs]
 | cons x xs ih=>simp [depthFs,ih,Nat.max_assoc]
theorem zbi {l:List Fc} {x:Fc} (h:x∈l):depthSs x.body≤depthFs l:=by
 induction l with
 | nil=>cases h
 | cons y ys ih =>
  simp only [depthFs];rcases List.mem_cons.1 h with rfl | h
  ·omega
  ·have:=ih h;omega
theorem ud (S:Nat→Prop) (w:World) (p:Pg) (v:Value) (h:Xl S w p v) (hd:depthFs p.funs≤4611686018427387904) :
  Calls Tryz.prog 21 #[v] w fun e w'=>e=.returned (.int .i64 (depthFs p.funs))∧Below w.heap.size w w':=by
 obtain ⟨rs,l⟩:=p;simp only at hd ⊢;obtain ⟨vr,vf,rfl,U,h⟩:=h;simp only at h U;obtain ⟨rb,rc,rfl⟩:=U.slice
 obtain ⟨X,n,G,rfl,hn⟩:∃X n G,vf=.slice X n G∧n=l.length:=by
  obtain ⟨b,c,rfl⟩:=h.slice;exact ⟨_,_,_,rfl,rfl⟩
 obtain ⟨rn,aa⟩:∃rn,rn=rs.length:=⟨_,rfl⟩;rw [←aa]
 have A:∀i x,l[i]?=some x→∃g a R Q Y b L I J k,X=some ⟨g,0,none⟩∧g<w.heap.size∧i<n∧n≤G∧G≤maxLen∧z8 S w x.body (.slice L I J) ∧
   w.cell? ⟨g,i*5,none⟩=some (.string a)∧w.cell? ⟨g,i*5+1,none⟩=some (.slice R Q Y)∧w.cell? ⟨g,i*5+2,none⟩=some (.string b)∧w.cell? ⟨g,i*5+3,none⟩=some (.slice L I J)∧w.cell? ⟨g,i*5+4,none⟩=some (.int .i64 k):=by
  intro i x W;rcases h with ⟨rfl,_⟩ | ⟨g,ao,us,hv,aw,ae,hS,V,hc,hm,o,y,hk⟩
  ·simp at W
  ·cases hv
   have hi:i<l.length:=(List.getElem?_eq_some_iff.1 W).1;obtain ⟨c,H⟩:∃c,us[i]?=some c:=⟨us[i]'(by omega),List.getElem?_eq_getElem (by omega)⟩
   obtain ⟨vp,vb,rfl,an,af⟩:=hk i x c W H;obtain ⟨R,Q,rfl⟩:=an.slice;obtain ⟨L,I,J,rfl⟩:=af.slice;refine ⟨g,zb x.name,R,x.params.length,Q,zb x.result,L,I,J,(x.line:Int),rfl,V,by omega,by omega,hm,af,?_,?_,?_,?_,?_⟩
   ·exact o _ _ (by have:=X7 y H (j:=0) (by omega);simpa using this)
   ·exact o _ _ (by have:=X7 y H (j:=1) (by omega);simpa using this)
   ·exact o _ _ (by have:=X7 y H (j:=2) (by omega);simpa using this)
   ·exact o _ _ (by have:=X7 y H (j:=3) (by omega);simpa using this)
   ·exact o _ _ (by have:=X7 y H (j:=4) (by omega);simpa using this)
 have HC:Hid (∀i x,l[i]?=some x→∃g a R Q Y b L I J k,X=some ⟨g,0,none⟩∧g<w.heap.size∧i<n∧n≤G∧G≤maxLen∧z8 S w x.body (.slice L I J) ∧
   w.cell? ⟨g,i*5,none⟩=some (.string a)∧w.cell? ⟨g,i*5+1,none⟩=some (.slice R Q Y)∧w.cell? ⟨g,i*5+2,none⟩=some (.string b)∧w.cell? ⟨g,i*5+3,none⟩=some (.slice L I J)∧w.cell? ⟨g,i*5+4,none⟩=some (.int .i64 k)):=A
 have ae:n≤9223372036854775807:=by
  rcases Nat.eq_zero_or_pos n with h0 | h0
  ·omega
  ·obtain ⟨_,_,_,_,_,_,_,_,_,_,_,_,_,h1,h2,_⟩:=A 0 (l[0]'(by omega)) (List.getElem?_eq_getElem (by omega))
   unfold maxLen at h2
   omega
 have HN:Hid (n=l.length):=hn;obtain ⟨w1,N⟩:∃w1,w1=w.alloc (Ui (.slice rb rn rc) (.slice X n G)):=⟨_,rfl⟩;have aj:Hid (Below w.heap.size w w1):=show Below _ _ _ by rw [N];exact (Below.refl _ w).alloc (Nat.le_refl _) _
 have ab:=N.symm;have p1:w1.heap[w.heap.size]?=some (Ui (.slice rb rn rc) (.slice X n G)):=by rw [N];exact World.alloc_heap_new _ _
 obtain ⟨-,y1,-⟩:=ZJ p1;clear h A hn U aa N p1
 go_enter Tryz.func21,Tryz.ntmps21
 go_wp2_with fail
 go_loopw [3,9] (fun m i wr=>∃k:Nat,k≤n∧i=.int .i64 k∧m=.int .i64 (depthFs (l.take k))∧Below w.heap.size w wr) (fun _ i _=>n-(intOf i).toNat)
 case atStart=>exact ⟨0,Nat.zero_le _,rfl,rfl,aj.out⟩
 case round =>
  clear ab y1 aj;obtain ⟨k,hk,rfl,rfl,z⟩:=hrel
  by_cases hlt:k<n
  ·obtain ⟨x,W⟩:∃x,l[k]?=some x:=⟨l[k]'(by rw [←HN.out];exact hlt),List.getElem?_eq_getElem (by rw [←HN.out];exact hlt)⟩
   obtain ⟨g,a,R,Q,Y,b,L,I,J,j,rfl,V,-,ar,av,ag,m0,m1,m2,m3,m4⟩:=HC.out k x W;have n0:=(z.cell (p:=⟨g,k*5,none⟩) V).trans m0;have n1:=(z.cell (p:=⟨g,k*5+1,none⟩) V).trans m1;have n2:=(z.cell (p:=⟨g,k*5+2,none⟩) V).trans m2;have n3:=(z.cell (p:=⟨g,k*5+3,none⟩) V).trans m3;have n4:=(z.cell (p:=⟨g,k*5+4,none⟩) V).trans m4;clear m0 m1 m2 m3 m4;have ad:(k:Int)<(n:Int):=by omega
   have O:Below w.heap.size w (wr.alloc (.cells #[.string a,.slice R Q Y,.string b,.slice L I J,.int .i64 j] 71)):=z.alloc z.size _;have Z:=ag.kept O.size fun k' _ hlt=>O.block k' hlt
   have ak:Hid (depthFs (l.take (k+1))=max (depthFs (l.take k)) (depthSs x.body)):=show _=_ by
    rw [List.take_add_one,W,xA];simp [depthFs]
   have au:depthFs (l.take (k+1))≤depthFs l:=by
    have:=xA (l.take (k+1)) (l.drop (k+1))
    rw [List.take_append_drop] at this;omega
   have al:depthSs x.body≤4611686018427387904:=by have:=zbi (List.mem_of_getElem? W);omega
   have ap:depthFs (l.take k)≤4611686018427387904:=by have:=ak.out;omega
   have c4:=qM S _ x.body _ Z al;have am:Hid (Below w.heap.size w (wr.alloc (.cells #[.string a,.slice R Q Y,.string b,.slice L I J,.int .i64 j] 71))):=O;clear O Z ag z HC;generalize depthFs (l.take k)=M at *;generalize hD:depthSs x.body=D at *;go_wp2_with fail
   refine c4.mono ?_;clear c4;rintro e w5 ⟨rfl,ai⟩;have T:Hid (Below w.heap.size w w5):=Yq am.out ai;clear ai;go_wp2
   refine ⟨⟨k+1,by omega,by go_num,?_,T.out⟩,by simp [intOf];omega⟩
   rw [ak.out];congr 1;omega
  ·have aq:k=n:=by omega
   have ad:¬(k:Int)<(n:Int):=by omega
   have ah:l.take k=l:=List.take_of_length_le (by have:=HN.out;omega)
   have T:Hid (Below w.heap.size w wr):=z;clear z HC;rw [ah];clear ah;go_wp2
   refine bodyPost_ret (v:=.int .i64 (depthFs l)) (by simp [results,Tryz.results21,go_sem]) rfl ⟨rfl,T.out⟩
end Go.Proofs.YtcphojjpapgblaaGreatDoor
