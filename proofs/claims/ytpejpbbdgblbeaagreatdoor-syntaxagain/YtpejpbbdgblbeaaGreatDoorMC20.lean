import Derived.Test.YtpejpbbdgblbeaaGreatDoorMC16
import Derived.Test.YtpejpbbdgblbeaaGreatDoorMC17
import Derived.Test.YtpejpbbdgblbeaaGreatDoorSProg
import Derived.Test.YtpejpbbdgblbeaaGreatDoorMC24
namespace Go.Proofs.YtpejpbbdgblbeaaGreatDoor
open Go.RowKit Go.Shelf
set_option maxHeartbeats 16000000
set_option maxRecDepth 100000
mutual
def zO:Ex→Nat
 | .mk _ _ _ kids _=>1+depthL kids
def depthL:List Ex→Nat
 | []=>0
 | x::xs=>max (zO x) (depthL xs)
end
theorem YQ (a b:List Ex):depthL (a++b)=max (depthL a) (depthL b):=by
 induction a with
 | nil=>simp [depthL]
 | cons x xs ih=>simp [depthL,ih,Nat.max_assoc]
theorem xA {l:List Ex} {x:Ex} (h:x∈l):zO x≤depthL l:=by
 induction l with
 | nil=>cases h
 | cons y ys ih =>
  simp only [depthL];rcases List.mem_cons.1 h with rfl | h
  ·omega
  ·have:=ih h;omega
theorem za5 {us:List (List Value)} (hfive:∀c∈us,c.length=5) {i j:Nat} {c:List Value} (hc:us[i]?=some c) (hj:j<5):us.flatten[i*5+j]?=c[j]?:=by
 induction us generalizing i with
 | nil=>simp at hc
 | cons d ds ih =>
  have hd:=hfive d (by simp)
  cases i with
  | zero =>
   simp only [List.getElem?_cons_zero,Option.some.injEq] at hc;subst hc;rw [List.flatten_cons,List.getElem?_append_left (by omega)];simp
  | succ i =>
   rw [List.flatten_cons,List.getElem?_append_right (by omega)]
   rw [show (i+1)*5+j-d.length=i*5+j by omega]
   exact ih (fun c hc=>hfive c (by simp [hc])) (by simpa using hc)
theorem VN (S:Nat→Prop) (w:World) (l:List Ex) (v:Value) (h:zK S w l v) (hd:depthL l≤4611686018427387904)
  (hone:∀x∈l,∀c w',Below w.heap.size w w'→zZ S w' x c→Calls Tryz.prog 45 #[c] w' fun e w''=>e=.returned (.int .i64 (zO x))∧Below w.heap.size w w'') :
  Calls Tryz.prog 87 #[v,.func (.func 45) #[] #[]] w fun e w'=>e=.returned (.int .i64 (depthL l))∧Below w.heap.size w w':=by
 obtain ⟨d0,n,G,rfl,hn⟩:∃d0 n G,v=.slice d0 n G∧n=l.length:=by
  rcases h with ⟨rfl,rfl⟩ | ⟨g,G,us,rfl,_⟩
  ·exact ⟨_,_,_,rfl,rfl⟩
  ·exact ⟨_,_,_,rfl,rfl⟩
 have A:∀i x,l[i]?=some x→∃g a b c N L O k,d0=some ⟨g,0,none⟩∧g<w.heap.size∧i<n∧n≤G∧G≤maxLen∧zZ S w x (.agg #[.int .i64 a,.string b,.int .i64 c,.slice N L O,.int .i64 k]) ∧
   w.cell? ⟨g,i*5,none⟩=some (.int .i64 a)∧w.cell? ⟨g,i*5+1,none⟩=some (.string b)∧w.cell? ⟨g,i*5+2,none⟩=some (.int .i64 c)∧w.cell? ⟨g,i*5+3,none⟩=some (.slice N L O)∧w.cell? ⟨g,i*5+4,none⟩=some (.int .i64 k):=by
  intro i x R;rcases h with ⟨rfl,_⟩ | ⟨g,af,us,hv,ai,aa,hS,T,hc,hm,y,o,hk⟩
  ·simp at R
  ·cases hv
   have hi:i<l.length:=(List.getElem?_eq_some_iff.1 R).1;obtain ⟨c,H⟩:∃c,us[i]?=some c:=⟨us[i]'(by omega),List.getElem?_eq_getElem (by omega)⟩
   have J:=hk i x c R H;obtain ⟨a,b,cc,N,L,O,k,ae⟩:=J.agg
   have ad:c=[.int .i64 a,.string b,.int .i64 cc,.slice N L O,.int .i64 k]:=by
    have:=congrArg (fun v=>match v with | .agg a=>a.toList | _=>[]) ae
    simpa using this
   subst ad;refine ⟨g,a,b,cc,N,L,O,k,rfl,T,by omega,by omega,hm,J,?_,?_,?_,?_,?_⟩
   ·exact y _ _ (by have:=za5 o H (j:=0) (by omega);simpa using this)
   ·exact y _ _ (by have:=za5 o H (j:=1) (by omega);simpa using this)
   ·exact y _ _ (by have:=za5 o H (j:=2) (by omega);simpa using this)
   ·exact y _ _ (by have:=za5 o H (j:=3) (by omega);simpa using this)
   ·exact y _ _ (by have:=za5 o H (j:=4) (by omega);simpa using this)
 have HC:Hid (∀i x,l[i]?=some x→∃g a b c N L O k,d0=some ⟨g,0,none⟩∧g<w.heap.size∧i<n∧n≤G∧G≤maxLen∧zZ S w x (.agg #[.int .i64 a,.string b,.int .i64 c,.slice N L O,.int .i64 k]) ∧
   w.cell? ⟨g,i*5,none⟩=some (.int .i64 a)∧w.cell? ⟨g,i*5+1,none⟩=some (.string b)∧w.cell? ⟨g,i*5+2,none⟩=some (.int .i64 c)∧w.cell? ⟨g,i*5+3,none⟩=some (.slice N L O)∧w.cell? ⟨g,i*5+4,none⟩=some (.int .i64 k)):=A
 have I:Hid (∀x∈l,∀c w',Below w.heap.size w w'→zZ S w' x c→Calls Tryz.prog 45 #[c] w' fun e w''=>e=.returned (.int .i64 (zO x))∧Below w.heap.size w w''):=hone
 have aa:n≤9223372036854775807:=by
  rcases Nat.eq_zero_or_pos n with h0 | h0
  ·omega
  ·obtain ⟨_,_,_,_,_,_,_,_,_,_,_,h1,h2,_⟩:=A 0 (l[0]'(by omega)) (List.getElem?_eq_getElem (by omega))
   unfold maxLen at h2
   omega
 have HN:Hid (n=l.length):=hn;clear h hone A hn
 go_enter Tryz.func87,Tryz.ntmps87
 go_wp2_with fail
 go_loopw [5,10] (fun m i wr=>∃k:Nat,k≤n∧i=.int .i64 k∧m=.int .i64 (depthL (l.take k))∧Below w.heap.size w wr) (fun _ i _=>n-(intOf i).toNat)
 case atStart=>exact ⟨0,Nat.zero_le _,rfl,rfl,Below.refl _ _⟩
 case round =>
  obtain ⟨k,hk,rfl,rfl,z⟩:=hrel
  by_cases hlt:k<n
  ·obtain ⟨x,R⟩:∃x,l[k]?=some x:=⟨l[k]'(by rw [←HN.out];exact hlt),List.getElem?_eq_getElem (by rw [←HN.out];exact hlt)⟩
   obtain ⟨g,a,b,c,N,L,O,j,rfl,T,-,ah,aj,J,m0,m1,m2,m3,m4⟩:=HC.out k x R;have n0:=(z.cell (p:=⟨g,k*5,none⟩) T).trans m0;have n1:=(z.cell (p:=⟨g,k*5+1,none⟩) T).trans m1;have n2:=(z.cell (p:=⟨g,k*5+2,none⟩) T).trans m2;have n3:=(z.cell (p:=⟨g,k*5+3,none⟩) T).trans m3;have n4:=(z.cell (p:=⟨g,k*5+4,none⟩) T).trans m4;clear m0 m1 m2 m3 m4;have V:(k:Int)<(n:Int):=by omega
   have Q:Below w.heap.size w (wr.alloc (.cells #[.int .i64 a,.string b,.int .i64 c,.slice N L O,.int .i64 j] 45)):=z.alloc z.size _;have W:=zZ.kept J Q.size fun k' _ hlt=>Q.block k' hlt
   have c4:=I.out x (List.mem_of_getElem? R) _ _ Q W
   have ab:Hid (depthL (l.take (k+1))=max (depthL (l.take k)) (zO x)):=show _=_ by
    rw [List.take_add_one,R,YQ];simp [depthL]
   have al:depthL (l.take (k+1))≤depthL l:=by
    have:=YQ (l.take (k+1)) (l.drop (k+1))
    rw [List.take_append_drop] at this;omega
   have ag:zO x≤4611686018427387904:=by have:=xA (List.mem_of_getElem? R);omega
   have ak:depthL (l.take k)≤4611686018427387904:=by have:=ab.out;omega
   clear Q W J z HC I;generalize depthL (l.take k)=M at *;generalize hD:zO x=D at *;go_wp2_with fail
   refine c4.mono ?_;clear c4;rintro e w5 ⟨rfl,Y⟩;have U:Hid (Below w.heap.size w w5):=Y;clear Y;go_wp2
   refine ⟨⟨k+1,by omega,by go_num,?_,U.out⟩,by simp [intOf];omega⟩
   rw [ab.out];congr 1;omega
  ·have am:k=n:=by omega
   have V:¬(k:Int)<(n:Int):=by omega
   have Z:l.take k=l:=List.take_of_length_le (by have:=HN.out;omega)
   have U:Hid (Below w.heap.size w wr):=z;clear z HC I;rw [Z];clear Z;go_wp2
   refine bodyPost_ret (v:=.int .i64 (depthL l)) (by simp [results,Tryz.results87,go_sem]) rfl ⟨rfl,U.out⟩
theorem zZ.rowOf {S:Nat→Prop} {w:World} {x:Ex} {v:Value} (h:zZ S w x v):∃(k:Nat) (s:List UInt8) (n:Int) (l:List Ex) (line:Nat) (d:Value),x=.mk k s n l line∧v=.agg #[.int .i64 k,.string (zb s),.int .i64 n,d,.int .i64 line]∧zK S w l d:=by
 cases h with
 | leaf k s n line=>exact ⟨k,s,n,[],line,_,rfl,rfl,.inl ⟨rfl,rfl⟩⟩
 | node k s n kids line g cap us hne hlen hB hg hc hm hcell hfive hk=>exact ⟨k,s,n,kids,line,_,rfl,rfl,.inr ⟨g,cap,us,rfl,hne,hlen,hB,hg,hc,hm,hcell,hfive,hk⟩⟩
theorem qw (S:Nat→Prop) (w w1:World) (x:Ex) (v:Value) (hb:Below w.heap.size w w1) (hx:zZ S w1 x v) (hd:zO x≤4611686018427387904)
  (hg:∀l v' w2,(∀y∈l,zO y<zO x)→depthL l+1=zO x→Below w.heap.size w w2→zK S w2 l v'→Calls Tryz.prog 87 #[v',.func (.func 45) #[] #[]] w2 fun e w'=>e=.returned (.int .i64 (depthL l))∧Below w.heap.size w w') :
  Calls Tryz.prog 45 #[v] w1 fun e w'=>e=.returned (.int .i64 (zO x))∧Below w.heap.size w w':=by
 obtain ⟨a,b,c,L,N,H,k,rfl⟩:=hx.agg
 obtain ⟨l,I,h⟩:∃l,zO x=1+depthL l∧zK S w1 l (.slice L N H):=by
  obtain ⟨V,U,R,l,D,d,rfl,Q,h⟩:=hx.rowOf;have o:=congrArg (fun v=>match v with | .agg a=>a.toList | _=>[]) Q
  simp only [List.cons.injEq] at o;obtain ⟨_,_,_,rfl,_⟩:=o;exact ⟨l,by simp [zO],h⟩
 have z:Below w.heap.size w (w1.alloc (.cells #[.int .i64 a,.string b,.int .i64 c,.slice L N H,.int .i64 k] 45)):=hb.alloc hb.size _;have J:=hg l _ _ (fun y hy=>by have:=xA hy;omega) (by omega) z (h.kept (by simp) fun k _ hlt=>Below.heap_alloc _ _ _ hlt)
 rw [I];clear hg hx h hb z;have T:depthL l≤4611686018427387904:=by omega
 clear I hd;generalize depthL l=M at *
 go_enter Tryz.func45,Tryz.ntmps45
 go_wp2_with fail
 refine J.mono ?_;clear J;rintro e O ⟨rfl,A⟩;have G:Hid (Below w.heap.size w O):=A;clear A;go_wp2
 refine bodyPost_ret (v:=.int .i64 (1+(M:Int))) (by simp [results,Tryz.results45,go_sem]) rfl ⟨by simp,G.out⟩
theorem vU (S:Nat→Prop):∀(d:Nat) (w:World) (x:Ex) (v:Value) (o:World),zO x≤d→d≤4611686018427387904→Below w.heap.size w o→zZ S o x v →
  Calls Tryz.prog 45 #[v] o fun e w'=>e=.returned (.int .i64 (zO x))∧Below w.heap.size w w':=by
 intro d
 induction d with
 | zero=>intro w x v o h;cases x;simp [zO] at h
 | succ d ih =>
  intro w x v o G hd D A;refine qw S w o x v D A (by omega) fun l v' w2 hl hs hb2 hrow=>?_
  refine (VN S w2 l v' hrow (by omega) fun y hy c w' hb' hy'=>ih w2 y c w' (by have:=hl y hy;omega) (by omega) hb' hy').mono fun e w' h=>⟨h.1,?_⟩
  have z:=h.2;exact ⟨z.os.trans hb2.os,z.tape.trans hb2.tape,z.output.trans hb2.output,Nat.le_trans hb2.size z.size,fun k hk=>(z.block k (Nat.lt_of_lt_of_le hk hb2.size)).trans (hb2.block k hk)⟩
def Yk (res:PR Ex):Except Nat Ex :=
 match res with
 | .error a=>.error a
 | .ok (x,us)=>if (zv us).k=0 then .ok x else .error (zv us).at0
structure Y5 (r B2:Nat) (w w':World):Prop where
 os:w'.os=w.os
 tape:w'.tape=w.tape
 output:w'.output=w.output
 size:w.heap.size≤w'.heap.size
 block:∀k,k<w.heap.size→k≠r→k≠B2→w'.heap[k]?=w.heap[k]?
def Qf (r B2:Nat) (w:World) (res:Except Nat Ex) (e:Ending) (w':World):Prop :=
 Y5 r B2 w w'∧match res with
  | .error a=>e=ZI a
  | .ok x=>e=.returned (.tuple #[])∧∃(a:Int) (b:ByteArray) (c:Int) (d0:Option Addr) (d1 d2:Nat) (l:Int),w'.heap[B2]?=some (.cells #[.int .i64 a,.string b,.int .i64 c,.slice d0 d1 d2,.int .i64 l] 45 (0,0))∧ZL w.heap.size w' x (.agg #[.int .i64 a,.string b,.int .i64 c,.slice d0 d1 d2,.int .i64 l])
theorem zh6 (r g o cap B0 B1 B2 f ty0 ty1:Nat) (ts:List Tk) (w:World) (res:PR Ex) (h:zg r g o cap ts w) (hE:zi ts) (hl:ZC w) (hrl:r≠1) (hp:zf f 1 ts=some res)
  (b0:w.heap[B0]?=some (.cells #[.func (.func 44) #[] #[]] ty0 (0,0))) (b1:w.heap[B1]?=some (.cells #[.pointer (some ⟨r,0,none⟩)] ty1 (0,0))) (b2:w.heap[B2]?=some Zz) (h1:B1≠r) (h2:B2≠r) (h3:B2≠g) (h4:B1≠B2) :
  Calls Tryz.prog 85 #[.pointer (some ⟨B0,0,none⟩),.pointer (some ⟨B1,0,none⟩),.pointer (some ⟨B2,0,none⟩)] w (Qf r B2 w (Yk res)):=by
 generalize hres:Yk res=R;obtain ⟨t0,ai,rfl⟩:=hE.cons;have I:=(zfd r g hrl f).expr hrl w o cap _ res hp hE h hl;have c0:w.cell? ⟨B0,0,none⟩=some (.func (.func 44) #[] #[]):=by simp only [World.cell?,b0];rfl
 have c1:w.cell? ⟨B1,0,none⟩=some (.pointer (some ⟨r,0,none⟩)):=by simp only [World.cell?,b1];rfl
 have ab:B2<w.heap.size:=(Array.getElem?_eq_some_iff.1 b2).1;have ad:B1<w.heap.size:=(Array.getElem?_eq_some_iff.1 b1).1
 go_enter Tryz.func85,Tryz.ntmps85
 go_wp2_with fail
 refine I.mono ?_;clear I;rintro e w1 ⟨z,H⟩;rcases res with a | ⟨x,us⟩
 ·obtain rfl:=H
  obtain rfl:R=.error a:=by rw [←hres];rfl
  exact ⟨rfl,⟨z.os,z.tape,z.output,z.size,fun k hk hr _=>z.block k hk hr⟩,rfl⟩
 ·obtain ⟨v,o1,J,rfl,hx,aa⟩:=H
  obtain ⟨a,b,c,Q,N,O,l,rfl⟩:=hx.agg;have ae:=(Zi f).1 _ _ _ _ hp hE;obtain ⟨t1,W,rfl⟩:=ae.cons;have p1:=(z.block _ ad h1).trans b1;have p2:=(z.block _ ab h2).trans b2;obtain ⟨q0,q1,q2,q3,q4,qf⟩:=zU p2;obtain ⟨w2,G⟩:∃w2,w2=set5 w1 B2 (.int .i64 a) (.string b) (.int .i64 c) (.slice Q N O) (.int .i64 l):=⟨_,rfl⟩;have A:∀k,k≠B2→w2.heap[k]?=w1.heap[k]?:=fun k hk=>by rw [G];exact zu _ _ _ _ _ _ _ hk
  have L:zg r g o1 J (t1::W) w2:=aa.keep (A r (fun e=>h2 e.symm)) (A g (fun e=>h3 e.symm))
  have V:w1.heap.size≤w2.heap.size:=by rw [G];simp
  have Z:ZL w.heap.size w2 x (.agg #[.int .i64 a,.string b,.int .i64 c,.slice Q N O,.int .i64 l]):=ZL.kept hx V fun k hB _=>A k (by omega)
  have pB:w2.heap[B2]?=some (.cells #[.int .i64 a,.string b,.int .i64 c,.slice Q N O,.int .i64 l] 45 (0,0)):=by rw [G];exact Yj p2 _ _ _ _ _
  have ag:w2.cell? ⟨B1,0,none⟩=some (.pointer (some ⟨r,0,none⟩)):=by
   have p3:=(A B1 h4).trans p1;simp only [World.cell?,p3];rfl
  have D:Hid (Y5 r B2 w w2):=⟨by rw [G];exact z.os,by rw [G];exact z.tape,by rw [G];exact z.output,Nat.le_trans z.size V,fun k hk hr hb=>(A k hb).trans (z.block k hk hr)⟩
  have I:=zhn r g o1 J t1 W w2 L;have U:Hid (ZL w.heap.size w2 x (.agg #[.int .i64 a,.string b,.int .i64 c,.slice Q N O,.int .i64 l])):=Z;have T:Hid (w2.heap[B2]?=some (.cells #[.int .i64 a,.string b,.int .i64 c,.slice Q N O,.int .i64 l] 45 (0,0))):=pB;have af:=G.symm;have ah:=z.size;have Y:B2<w2.heap.size:=(Array.getElem?_eq_some_iff.1 pB).1;clear Z pB L A hx aa p1 p2 z G
  by_cases hk:t1.k=0
  ·simp only [if_pos hk] at I
   obtain rfl:R=.ok x:=by rw [←hres];unfold Yk;simp only [zE,if_pos hk]
   go_wp2_with fail
   refine I.mono ?_;clear I;rintro e w3 ⟨y,rfl⟩
   have hP:Qf r B2 w (.ok x) (.returned (.tuple #[])) w3:=by
    refine ⟨⟨y.os.trans D.out.os,y.tape.trans D.out.tape,y.output.trans D.out.output,Nat.le_trans D.out.size y.size,fun k hk hr hb=>(y.block k (Nat.lt_of_lt_of_le hk D.out.size) hr).trans (D.out.block k hk hr hb)⟩,rfl,a,b,c,Q,N,O,l,(y.block _ Y h2).trans T.out,?_⟩
    exact ZL.kept U.out y.size fun k hB hlt=>y.block k hlt (by have:=h.lt.1;omega)
   have HP:Hid (Qf r B2 w (.ok x) (.returned (.tuple #[])) w3):=hP;clear hP y D U T;go_wp2
   exact bodyPost_ret (v:=.tuple #[]) (by simp [results,Tryz.results85,go_sem]) rfl HP.out
  ·simp only [if_neg hk] at I
   obtain rfl:R=.error t1.at0:=by rw [←hres];unfold Yk;simp only [zE,if_neg hk]
   go_wp2_with fail
   refine I.mono ?_;clear I;rintro e w3 ⟨y,rfl⟩;exact ⟨rfl,⟨y.os.trans D.out.os,y.tape.trans D.out.tape,y.output.trans D.out.output,Nat.le_trans D.out.size y.size,fun k hk hr hb=>(y.block k (Nat.lt_of_lt_of_le hk D.out.size) hr).trans (D.out.block k hk hr hb)⟩,rfl⟩
mutual
def Zo:St→Nat
 | .mk _ _ es b e _=>1+max (depthL es) (max (depthSs b) (depthSs e))
def depthSs:List St→Nat
 | []=>0
 | x::xs=>max (Zo x) (depthSs xs)
end
theorem xB (a b:List St):depthSs (a++b)=max (depthSs a) (depthSs b):=by
 induction a with
 | nil=>simp [depthSs]
 | cons x xs ih=>simp [depthSs,ih,Nat.max_assoc]
theorem yZ {l:List St} {x:St} (h:x∈l):Zo x≤depthSs l:=by
 induction l with
 | nil=>cases h
 | cons y ys ih =>
  simp only [depthSs];rcases List.mem_cons.1 h with rfl | h
  ·omega
  ·have:=ih h;omega
theorem vj {sz:Nat} {us:List (List Value)} (hfive:∀c∈us,c.length=sz) {i j:Nat} {c:List Value} (hc:us[i]?=some c) (hj:j<sz):us.flatten[i*sz+j]?=c[j]?:=by
 induction us generalizing i with
 | nil=>simp at hc
 | cons d ds ih =>
  have hd:=hfive d (by simp)
  cases i with
  | zero =>
   simp only [List.getElem?_cons_zero,Option.some.injEq] at hc;subst hc;rw [List.flatten_cons,List.getElem?_append_left (by omega)];simp
  | succ i =>
   have e:(i+1)*sz=i*sz+sz:=by rw [Nat.add_mul];simp
   rw [List.flatten_cons,List.getElem?_append_right (by omega)]
   rw [show (i+1)*sz+j-d.length=i*sz+j by omega]
   exact ih (fun c hc=>hfive c (by simp [hc])) (by simpa using hc)
theorem vV (S:Nat→Prop) (w:World) (l:List St) (v:Value) (h:z8 S w l v) (hd:depthSs l≤4611686018427387904)
  (hone:∀x∈l,∀c w',Below w.heap.size w w'→yv S w' x c→Calls Tryz.prog 57 #[c] w' fun e w''=>e=.returned (.int .i64 (Zo x))∧Below w.heap.size w w'') :
  Calls Tryz.prog 56 #[v,.func (.func 57) #[] #[]] w fun e w'=>e=.returned (.int .i64 (depthSs l))∧Below w.heap.size w w':=by
 obtain ⟨d0,n,G,rfl,hn⟩:∃d0 n G,v=.slice d0 n G∧n=l.length:=by
  obtain ⟨g,G,us,⟨rfl,rfl⟩ | ⟨rfl,_⟩,_⟩:=h
  ·exact ⟨_,_,_,rfl,rfl⟩
  ·exact ⟨_,_,_,rfl,rfl⟩
 have A:∀i x,l[i]?=some x→∃g a b N R W O U T V Q L k,d0=some ⟨g,0,none⟩∧g<w.heap.size∧i<n∧n≤G∧G≤maxLen∧yv S w x (.agg #[.int .i64 a,.string b,.slice N R W,.slice O U T,.slice V Q L,.int .i64 k]) ∧
   w.cell? ⟨g,i*6,none⟩=some (.int .i64 a)∧w.cell? ⟨g,i*6+1,none⟩=some (.string b)∧w.cell? ⟨g,i*6+2,none⟩=some (.slice N R W)∧w.cell? ⟨g,i*6+3,none⟩=some (.slice O U T)∧w.cell? ⟨g,i*6+4,none⟩=some (.slice V Q L)∧w.cell? ⟨g,i*6+5,none⟩=some (.int .i64 k):=by
  intro i x hx;obtain ⟨g,ak,us,⟨rfl,_⟩ | ⟨hv,ap,ae,hS,Z,hc,hm,o,z⟩,hk⟩:=h
  ·simp at hx
  ·cases hv
   have hi:i<l.length:=(List.getElem?_eq_some_iff.1 hx).1;obtain ⟨c,H⟩:∃c,us[i]?=some c:=⟨us[i]'(by omega),List.getElem?_eq_getElem (by omega)⟩
   have I:=hk i x c hx H;obtain ⟨a,b,N,R,W,O,U,T,V,Q,L,k,ai⟩:=I.agg
   have aj:c=[.int .i64 a,.string b,.slice N R W,.slice O U T,.slice V Q L,.int .i64 k]:=by
    have:=congrArg (fun v=>match v with | .agg a=>a.toList | _=>[]) ai
    simpa using this
   subst aj;refine ⟨g,a,b,N,R,W,O,U,T,V,Q,L,k,rfl,Z,by omega,by omega,hm,I,?_,?_,?_,?_,?_,?_⟩
   ·exact o _ _ (by have:=vj z H (j:=0) (by omega);simpa using this)
   ·exact o _ _ (by have:=vj z H (j:=1) (by omega);simpa using this)
   ·exact o _ _ (by have:=vj z H (j:=2) (by omega);simpa using this)
   ·exact o _ _ (by have:=vj z H (j:=3) (by omega);simpa using this)
   ·exact o _ _ (by have:=vj z H (j:=4) (by omega);simpa using this)
   ·exact o _ _ (by have:=vj z H (j:=5) (by omega);simpa using this)
 have HC:Hid (∀i x,l[i]?=some x→∃g a b N R W O U T V Q L k,d0=some ⟨g,0,none⟩∧g<w.heap.size∧i<n∧n≤G∧G≤maxLen∧yv S w x (.agg #[.int .i64 a,.string b,.slice N R W,.slice O U T,.slice V Q L,.int .i64 k]) ∧
   w.cell? ⟨g,i*6,none⟩=some (.int .i64 a)∧w.cell? ⟨g,i*6+1,none⟩=some (.string b)∧w.cell? ⟨g,i*6+2,none⟩=some (.slice N R W)∧w.cell? ⟨g,i*6+3,none⟩=some (.slice O U T)∧w.cell? ⟨g,i*6+4,none⟩=some (.slice V Q L)∧w.cell? ⟨g,i*6+5,none⟩=some (.int .i64 k)):=A
 have J:Hid (∀x∈l,∀c w',Below w.heap.size w w'→yv S w' x c→Calls Tryz.prog 57 #[c] w' fun e w''=>e=.returned (.int .i64 (Zo x))∧Below w.heap.size w w''):=hone
 have ae:n≤9223372036854775807:=by
  rcases Nat.eq_zero_or_pos n with h0 | h0
  ·omega
  ·obtain ⟨_,_,_,_,_,_,_,_,_,_,_,_,_,_,_,_,h1,h2,_⟩:=A 0 (l[0]'(by omega)) (List.getElem?_eq_getElem (by omega))
   unfold maxLen at h2
   omega
 have HN:Hid (n=l.length):=hn;clear h hone A hn
 go_enter Tryz.func56,Tryz.ntmps56
 go_wp2_with fail
 go_loopw [5,10] (fun m i wr=>∃k:Nat,k≤n∧i=.int .i64 k∧m=.int .i64 (depthSs (l.take k))∧Below w.heap.size w wr) (fun _ i _=>n-(intOf i).toNat)
 case atStart=>exact ⟨0,Nat.zero_le _,rfl,rfl,Below.refl _ _⟩
 case round =>
  obtain ⟨k,hk,rfl,rfl,y⟩:=hrel
  by_cases hlt:k<n
  ·obtain ⟨x,hx⟩:∃x,l[k]?=some x:=⟨l[k]'(by rw [←HN.out];exact hlt),List.getElem?_eq_getElem (by rw [←HN.out];exact hlt)⟩
   obtain ⟨g,a,b,N,R,W,O,U,T,V,Q,L,j,rfl,Z,-,am,an,I,m0,m1,m2,m3,m4,m5⟩:=HC.out k x hx;have n0:=(y.cell (p:=⟨g,k*6,none⟩) Z).trans m0;have n1:=(y.cell (p:=⟨g,k*6+1,none⟩) Z).trans m1;have n2:=(y.cell (p:=⟨g,k*6+2,none⟩) Z).trans m2;have n3:=(y.cell (p:=⟨g,k*6+3,none⟩) Z).trans m3;have n4:=(y.cell (p:=⟨g,k*6+4,none⟩) Z).trans m4;have n5:=(y.cell (p:=⟨g,k*6+5,none⟩) Z).trans m5;clear m0 m1 m2 m3 m4 m5;have ag:(k:Int)<(n:Int):=by omega
   have Y:Below w.heap.size w (wr.alloc (.cells #[.int .i64 a,.string b,.slice N R W,.slice O U T,.slice V Q L,.int .i64 j] 108)):=y.alloc y.size _;have ah:=yv.kept I Y.size fun k' _ hlt=>Y.block k' hlt
   have c4:=J.out x (List.mem_of_getElem? hx) _ _ Y ah
   have af:Hid (depthSs (l.take (k+1))=max (depthSs (l.take k)) (Zo x)):=show _=_ by
    rw [List.take_add_one,hx,xB];simp [depthSs]
   have aq:depthSs (l.take (k+1))≤depthSs l:=by
    have:=xB (l.take (k+1)) (l.drop (k+1))
    rw [List.take_append_drop] at this;omega
   have al:Zo x≤4611686018427387904:=by have:=yZ (List.mem_of_getElem? hx);omega
   have ao:depthSs (l.take k)≤4611686018427387904:=by have:=af.out;omega
   clear Y ah I y HC J;generalize depthSs (l.take k)=M at *;generalize hD:Zo x=D at *;go_wp2_with fail
   refine c4.mono ?_;clear c4;rintro e w5 ⟨rfl,ab⟩;have aa:Hid (Below w.heap.size w w5):=ab;clear ab;go_wp2
   refine ⟨⟨k+1,by omega,by go_num,?_,aa.out⟩,by simp [intOf];omega⟩
   rw [af.out];congr 1;omega
  ·have ar:k=n:=by omega
   have ag:¬(k:Int)<(n:Int):=by omega
   have ad:l.take k=l:=List.take_of_length_le (by have:=HN.out;omega)
   have aa:Hid (Below w.heap.size w wr):=y;clear y HC J;rw [ad];clear ad;go_wp2
   refine bodyPost_ret (v:=.int .i64 (depthSs l)) (by simp [results,Tryz.results56,go_sem]) rfl ⟨rfl,aa.out⟩
theorem yv.rowsOf {S:Nat→Prop} {w:World} {x:St} {a:Int} {b:ByteArray} {ve vb vl:Value} {c:Int} (h:yv S w x (.agg #[.int .i64 a,.string b,ve,vb,vl,.int .i64 c])):∃k s es body els line,x=.mk k s es body els line∧a=(k:Int)∧b=zb s∧c=(line:Int)∧zK S w es ve∧z8 S w body vb∧z8 S w els vl:=by
 cases h with
 | mk k s es body els line _ _ _ gb cb gl cl ub ul he hb hbk hl hlk=>exact ⟨k,s,es,body,els,line,rfl,rfl,rfl,rfl,he,⟨gb,cb,ub,hb,hbk⟩,⟨gl,cl,ul,hl,hlk⟩⟩
theorem Yr {w w2 w':World} (hb2:Below w.heap.size w w2) (h2:Below w2.heap.size w2 w'):Below w.heap.size w w':=hb2.trans (h2.mono hb2.size)
theorem qy (S:Nat→Prop) (w1:World) (x:St) (v:Value) (hx:yv S w1 x v) (hd:Zo x≤4611686018427387904)
  (hg:∀l v' w2,(∀y∈l,Zo y<Zo x)→depthSs l<Zo x→z8 S w2 l v'→Calls Tryz.prog 56 #[v',.func (.func 57) #[] #[]] w2 fun e w'=>e=.returned (.int .i64 (depthSs l))∧Below w2.heap.size w2 w') :
  Calls Tryz.prog 57 #[v] w1 fun e w'=>e=.returned (.int .i64 (Zo x))∧Below w1.heap.size w1 w':=by
 obtain ⟨a,b,e0,e1,e2,b0,b1,b2,l0,l1,l2,c,rfl⟩:=hx.agg;obtain ⟨k,s,J,o,A,line,rfl,rfl,rfl,rfl,Z,R,Q⟩:=hx.rowsOf;have hD:Zo (.mk k s J o A line)=1+max (depthL J) (max (depthSs o) (depthSs A)):=by simp [Zo]
 obtain ⟨sB,T⟩:∃sB,sB=zb s:=⟨_,rfl⟩;rw [←T];obtain ⟨w2,H⟩:∃w2,w2=w1.alloc (.cells #[.int .i64 (k:Int),.string sB,.slice e0 e1 e2,.slice b0 b1 b2,.slice l0 l1 l2,.int .i64 (line:Int)] 108):=⟨_,rfl⟩;have D:Below w1.heap.size w1 w2:=by rw [H];exact (Below.refl _ w1).alloc (Nat.le_refl _) _
 have p2:w2.heap[w1.heap.size]?=some (.cells #[.int .i64 (k:Int),.string sB,.slice e0 e1 e2,.slice b0 b1 b2,.slice l0 l1 l2,.int .i64 (line:Int)] 108 (0,0)):=by rw [H];exact World.alloc_heap_new _ _
 have hN:w1.heap.size<w2.heap.size:=(Array.getElem?_eq_some_iff.1 p2).1;obtain ⟨-,-,q2,q3,q4,-,-⟩:=zM p2
 have CE:Hid (∀W,Below w2.heap.size w2 W→Calls Tryz.prog 87 #[.slice e0 e1 e2,.func (.func 45) #[] #[]] W fun e w'=>e=.returned (.int .i64 (depthL J))∧Hid (Below w2.heap.size w2 w')):=fun W hW=>by
  have z:Below w1.heap.size w1 W:=Yr D hW;refine (VN S W J _ (Z.kept z.size fun k _ hlt=>z.block k hlt) (by omega) fun y hy c w' hb' hy'=>vU S (zO y) W y c w' (Nat.le_refl _) (by have:=xA hy;omega) hb' hy').mono fun e w' h=>⟨h.1,Yr hW h.2⟩
 have CG:∀(l:List St) (v':Value),z8 S w1 l v'→(∀y∈l,Zo y<Zo (.mk k s J o A line))→depthSs l<Zo (.mk k s J o A line)→∀W,Below w2.heap.size w2 W→Calls Tryz.prog 56 #[v',.func (.func 57) #[] #[]] W fun e w'=>e=.returned (.int .i64 (depthSs l))∧Hid (Below w2.heap.size w2 w'):=fun l v' hl h1 h2 W hW=>by
  have z:Below w1.heap.size w1 W:=Yr D hW;exact (hg l v' W h1 h2 (hl.kept z.size fun k _ hlt=>z.block k hlt)).mono fun e w' h=>⟨h.1,Yr hW h.2⟩
 have CB:Hid (∀W,Below w2.heap.size w2 W→Calls Tryz.prog 56 #[.slice b0 b1 b2,.func (.func 57) #[] #[]] W fun e w'=>e=.returned (.int .i64 (depthSs o))∧Hid (Below w2.heap.size w2 w')):=CG o _ R (fun y hy=>by have:=yZ hy;omega) (by omega)
 have CL:Hid (∀W,Below w2.heap.size w2 W→Calls Tryz.prog 56 #[.slice l0 l1 l2,.func (.func 57) #[] #[]] W fun e w'=>e=.returned (.int .i64 (depthSs A))∧Hid (Below w2.heap.size w2 w')):=CG A _ Q (fun y hy=>by have:=yZ hy;omega) (by omega)
 rw [hD] at hd ⊢;generalize depthL J=M1 at *;generalize depthSs o=M2 at *;generalize depthSs A=M3 at *;have Y:Hid (Below w1.heap.size w1 w2):=D;have af:M1≤4611686018427387904:=by omega
 have ae:M2≤4611686018427387904:=by omega
 have ag:M3≤4611686018427387904:=by omega
 have O:=H.symm;clear CG hg hx Z R Q D p2 H hD hd T
 go_enter Tryz.func57,Tryz.ntmps57
 go_wp2_with fail
 have z2:∀c:Vo (fun W=>Below w2.heap.size w2 W),c.1.cell? ⟨w1.heap.size,2,none⟩=some (.slice e0 e1 e2):=fun c=>(c.2.cell (p:=⟨w1.heap.size,2,none⟩) hN).trans q2
 have z3:∀c:Vo (fun W=>Below w2.heap.size w2 W),c.1.cell? ⟨w1.heap.size,3,none⟩=some (.slice b0 b1 b2):=fun c=>(c.2.cell (p:=⟨w1.heap.size,3,none⟩) hN).trans q3
 have z4:∀c:Vo (fun W=>Below w2.heap.size w2 W),c.1.cell? ⟨w1.heap.size,4,none⟩=some (.slice l0 l1 l2):=fun c=>(c.2.cell (p:=⟨w1.heap.size,4,none⟩) hN).trans q4
 have U:Hid (Below w2.heap.size w2 w2.drew):=(Below.refl _ _).drew;refine vJ (n:=12) (S:=fun w'=>∃c:Vo (fun W=>Below w2.heap.size w2 W),w'=c.1) (by kernel_rfl) rfl rfl ?_
 refine yD (fuel:=6) (fuel':=12) (idx:=[0,1,3,4,6,7]) (by decide +kernel) rfl rfl rfl (fun _ _ _ _ _ h=>h) ⟨⟨w2.drew,U.out⟩,rfl⟩ ?_
 show wpQuiet _ _ _ _ [_,_,_,_,_,_] _
 iterate 6 (go_big_quiet_step (exact rfl))
 refine wpQuiet_nil ?_;refine Zk (fuel:=5) (fuel':=6) (i:=2) rfl (by decide +kernel) rfl rfl (by rfl) ?_
 intro K G;go_simp;refine (CE.out w2.drew U.out).mono ?_;rintro e w3 ⟨rfl,aa⟩
 (try go_simp)
 refine G.out _ _ ⟨⟨w3,aa.out⟩,rfl⟩ ?_;clear G K;refine Zk (fuel:=4) (fuel':=5) (i:=5) rfl (by decide +kernel) rfl rfl (by rfl) ?_
 intro K G;go_simp;refine (CB.out w3 aa.out).mono ?_;rintro e w4 ⟨rfl,N⟩
 (try go_simp)
 refine G.out _ _ ⟨⟨w4,N.out⟩,rfl⟩ ?_;clear G K;refine Zk (fuel:=3) (fuel':=4) (i:=8) rfl (by decide +kernel) rfl rfl (by rfl) ?_
 intro K G;go_simp;refine (CL.out w4 N.out).mono ?_;rintro e w5 ⟨rfl,I⟩
 (try go_simp)
 refine G.out _ _ ⟨⟨w5,I.out⟩,rfl⟩ ?_;clear G K;refine Zk (fuel:=2) (fuel':=3) (i:=9) rfl (by decide +kernel) rfl rfl (by rfl) ?_
 intro K G;go_simp;refine G.out _ _ ⟨⟨w5,I.out⟩,rfl⟩ ?_;clear G K;simp only [Act.put,List.setIfInBounds_toArray,List.set_cons_zero,List.set_cons_succ];refine yD (fuel:=0) (fuel':=2) (idx:=[10,11]) (by decide +kernel) rfl rfl rfl (fun _ _ _ _ _ h=>h) ⟨⟨w5,I.out⟩,rfl⟩ ?_
 show wpQuiet _ _ _ _ [_,_] _
 iterate 2 (go_big_quiet_step (exact rfl))
 refine wpQuiet_nil ?_;refine Yf (by decide +kernel) ?_
 have hV:(1+if (if M1<M2 then (M2:Int) else M1)<(M3:Int) then (M3:Int) else if M1<M2 then (M2:Int) else M1)=((1+max M1 (max M2 M3):Nat):Int):=by
  by_cases h1:M1<M2
  ·simp only [if_pos h1]
   split <;> omega
  ·simp only [if_neg h1]
   split <;> omega
 rw [hV];obtain ⟨V,L⟩:∃V,V=1+max M1 (max M2 M3):=⟨_,rfl⟩;rw [←L];have ad:Hid (V=1+max M1 (max M2 M3)):=L;have ab:Hid (Below w1.heap.size w1 w5):=Yr Y.out I.out;clear hV L z2 z3 z4 q2 q3 q4 O;go_wp2
 all_goals exact bodyPost_ret (v:=.int .i64 (V:Int)) (by simp [results,Tryz.results57,go_sem]) rfl ⟨by rw [show (V:Int)=1+((max M1 (max M2 M3):Nat):Int) by have:=ad.out;omega],ab.out⟩
theorem qz (S:Nat→Prop):∀(d:Nat) (x:St) (v:Value) (o:World),Zo x≤d→d≤4611686018427387904→yv S o x v →
  Calls Tryz.prog 57 #[v] o fun e w'=>e=.returned (.int .i64 (Zo x))∧Below o.heap.size o w':=by
 intro d
 induction d with
 | zero=>intro x v o h;cases x;simp [Zo] at h
 | succ d ih =>
  intro x v o A hd z;refine qy S o x v z (by omega) fun l v' w2 hl hs hrow=>?_
  exact vV S w2 l v' hrow (by omega) fun y hy c w' hb' hy'=>(ih y c w' (by have:=hl y hy;omega) (by omega) hy').mono fun e w'' h=>⟨h.1,Yr hb' h.2⟩
theorem qA (S:Nat→Prop) (w:World) (l:List St) (v:Value) (h:z8 S w l v) (hd:depthSs l≤4611686018427387904) :
  Calls Tryz.prog 56 #[v,.func (.func 57) #[] #[]] w fun e w'=>e=.returned (.int .i64 (depthSs l))∧Below w.heap.size w w' :=
 vV S w l v h hd fun y hy c w' hb' hy'=>(qz S (Zo y) y c w' (Nat.le_refl _) (by have:=yZ hy;omega) hy').mono fun e w'' h=>⟨h.1,Yr hb' h.2⟩
def depthFs:List Fc→Nat
 | []=>0
 | x::xs=>max (depthSs x.body) (depthFs xs)
theorem xC (a b:List Fc):depthFs (a++b)=max (depthFs a) (depthFs b):=by
 induction a with
 | nil=>simp [depthFs]
 | cons x xs ih=>simp [depthFs,ih,Nat.max_assoc]
theorem uH {l:List Fc} {x:Fc} (h:x∈l):depthSs x.body≤depthFs l:=by
 induction l with
 | nil=>cases h
 | cons y ys ih =>
  simp only [depthFs];rcases List.mem_cons.1 h with rfl | h
  ·omega
  ·have:=ih h;omega
theorem uf (S:Nat→Prop) (w:World) (p:Pg) (v:Value) (h:xL S w p v) (hd:depthFs p.funs≤4611686018427387904) :
  Calls Tryz.prog 23 #[v] w fun e w'=>e=.returned (.int .i64 (depthFs p.funs))∧Below w.heap.size w w':=by
 obtain ⟨rs,l⟩:=p;simp only at hd ⊢;obtain ⟨vr,vf,rfl,W,h⟩:=h;simp only at h W;obtain ⟨rb,rc,rfl⟩:=W.slice
 obtain ⟨Z,n,G,rfl,hn⟩:∃Z n G,vf=.slice Z n G∧n=l.length:=by
  obtain ⟨b,c,rfl⟩:=h.slice;exact ⟨_,_,_,rfl,rfl⟩
 obtain ⟨rn,aa⟩:∃rn,rn=rs.length:=⟨_,rfl⟩;rw [←aa]
 have A:∀i x,l[i]?=some x→∃g a Q R Y b I L J k,Z=some ⟨g,0,none⟩∧g<w.heap.size∧i<n∧n≤G∧G≤maxLen∧z8 S w x.body (.slice I L J) ∧
   w.cell? ⟨g,i*5,none⟩=some (.string a)∧w.cell? ⟨g,i*5+1,none⟩=some (.slice Q R Y)∧w.cell? ⟨g,i*5+2,none⟩=some (.string b)∧w.cell? ⟨g,i*5+3,none⟩=some (.slice I L J)∧w.cell? ⟨g,i*5+4,none⟩=some (.int .i64 k):=by
  intro i x V;rcases h with ⟨rfl,_⟩ | ⟨g,ap,us,hv,av,af,hS,T,hc,hm,o,y,hk⟩
  ·simp at V
  ·cases hv
   have hi:i<l.length:=(List.getElem?_eq_some_iff.1 V).1;obtain ⟨c,H⟩:∃c,us[i]?=some c:=⟨us[i]'(by omega),List.getElem?_eq_getElem (by omega)⟩
   obtain ⟨vp,vb,rfl,ao,ai⟩:=hk i x c V H;obtain ⟨Q,R,rfl⟩:=ao.slice;obtain ⟨I,L,J,rfl⟩:=ai.slice;refine ⟨g,zb x.name,Q,x.params.length,R,zb x.result,I,L,J,(x.line:Int),rfl,T,by omega,by omega,hm,ai,?_,?_,?_,?_,?_⟩
   ·exact o _ _ (by have:=vj y H (j:=0) (by omega);simpa using this)
   ·exact o _ _ (by have:=vj y H (j:=1) (by omega);simpa using this)
   ·exact o _ _ (by have:=vj y H (j:=2) (by omega);simpa using this)
   ·exact o _ _ (by have:=vj y H (j:=3) (by omega);simpa using this)
   ·exact o _ _ (by have:=vj y H (j:=4) (by omega);simpa using this)
 have HC:Hid (∀i x,l[i]?=some x→∃g a Q R Y b I L J k,Z=some ⟨g,0,none⟩∧g<w.heap.size∧i<n∧n≤G∧G≤maxLen∧z8 S w x.body (.slice I L J) ∧
   w.cell? ⟨g,i*5,none⟩=some (.string a)∧w.cell? ⟨g,i*5+1,none⟩=some (.slice Q R Y)∧w.cell? ⟨g,i*5+2,none⟩=some (.string b)∧w.cell? ⟨g,i*5+3,none⟩=some (.slice I L J)∧w.cell? ⟨g,i*5+4,none⟩=some (.int .i64 k)):=A
 have af:n≤9223372036854775807:=by
  rcases Nat.eq_zero_or_pos n with h0 | h0
  ·omega
  ·obtain ⟨_,_,_,_,_,_,_,_,_,_,_,_,_,h1,h2,_⟩:=A 0 (l[0]'(by omega)) (List.getElem?_eq_getElem (by omega))
   unfold maxLen at h2
   omega
 have HN:Hid (n=l.length):=hn;obtain ⟨w1,O⟩:∃w1,w1=w.alloc (Ud (.slice rb rn rc) (.slice Z n G)):=⟨_,rfl⟩;have ak:Hid (Below w.heap.size w w1):=show Below _ _ _ by rw [O];exact (Below.refl _ w).alloc (Nat.le_refl _) _
 have al:=O.symm;have p1:w1.heap[w.heap.size]?=some (Ud (.slice rb rn rc) (.slice Z n G)):=by rw [O];exact World.alloc_heap_new _ _
 obtain ⟨-,y1,-⟩:=ZA p1;clear h A hn W aa O p1
 go_enter Tryz.func23,Tryz.ntmps23
 go_wp2_with fail
 go_loopw [3,9] (fun m i wr=>∃k:Nat,k≤n∧i=.int .i64 k∧m=.int .i64 (depthFs (l.take k))∧Below w.heap.size w wr) (fun _ i _=>n-(intOf i).toNat)
 case atStart=>exact ⟨0,Nat.zero_le _,rfl,rfl,ak.out⟩
 case round =>
  clear al y1 ak;obtain ⟨k,hk,rfl,rfl,z⟩:=hrel
  by_cases hlt:k<n
  ·obtain ⟨x,V⟩:∃x,l[k]?=some x:=⟨l[k]'(by rw [←HN.out];exact hlt),List.getElem?_eq_getElem (by rw [←HN.out];exact hlt)⟩
   obtain ⟨g,a,Q,R,Y,b,I,L,J,j,rfl,T,-,aq,ar,ab,m0,m1,m2,m3,m4⟩:=HC.out k x V;have n0:=(z.cell (p:=⟨g,k*5,none⟩) T).trans m0;have n1:=(z.cell (p:=⟨g,k*5+1,none⟩) T).trans m1;have n2:=(z.cell (p:=⟨g,k*5+2,none⟩) T).trans m2;have n3:=(z.cell (p:=⟨g,k*5+3,none⟩) T).trans m3;have n4:=(z.cell (p:=⟨g,k*5+4,none⟩) T).trans m4;clear m0 m1 m2 m3 m4;have ah:(k:Int)<(n:Int):=by omega
   have N:Below w.heap.size w (wr.alloc (.cells #[.string a,.slice Q R Y,.string b,.slice I L J,.int .i64 j] 72)):=z.alloc z.size _;have aj:=ab.kept N.size fun k' _ hlt=>N.block k' hlt
   have ag:Hid (depthFs (l.take (k+1))=max (depthFs (l.take k)) (depthSs x.body)):=show _=_ by
    rw [List.take_add_one,V,xC];simp [depthFs]
   have aw:depthFs (l.take (k+1))≤depthFs l:=by
    have:=xC (l.take (k+1)) (l.drop (k+1))
    rw [List.take_append_drop] at this;omega
   have am:depthSs x.body≤4611686018427387904:=by have:=uH (List.mem_of_getElem? V);omega
   have au:depthFs (l.take k)≤4611686018427387904:=by have:=ag.out;omega
   have c4:=qA S _ x.body _ aj am;have an:Hid (Below w.heap.size w (wr.alloc (.cells #[.string a,.slice Q R Y,.string b,.slice I L J,.int .i64 j] 72))):=N;clear N aj ab z HC;generalize depthFs (l.take k)=M at *;generalize hD:depthSs x.body=D at *;go_wp2_with fail
   refine c4.mono ?_;clear c4;rintro e w5 ⟨rfl,ad⟩;have U:Hid (Below w.heap.size w w5):=Yr an.out ad;clear ad;go_wp2
   refine ⟨⟨k+1,by omega,by go_num,?_,U.out⟩,by simp [intOf];omega⟩
   rw [ag.out];congr 1;omega
  ·have ax:k=n:=by omega
   have ah:¬(k:Int)<(n:Int):=by omega
   have ae:l.take k=l:=List.take_of_length_le (by have:=HN.out;omega)
   have U:Hid (Below w.heap.size w wr):=z;clear z HC;rw [ae];clear ae;go_wp2
   refine bodyPost_ret (v:=.int .i64 (depthFs l)) (by simp [results,Tryz.results23,go_sem]) rfl ⟨rfl,U.out⟩
end Go.Proofs.YtpejpbbdgblbeaaGreatDoor
