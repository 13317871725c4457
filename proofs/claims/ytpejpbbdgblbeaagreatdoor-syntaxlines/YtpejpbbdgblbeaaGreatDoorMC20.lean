import Derived.Test.YtpejpbbdgblbeaaGreatDoorMC16
import Derived.Test.YtpejpbbdgblbeaaGreatDoorMC18
import Derived.Test.YtpejpbbdgblbeaaGreatDoorSProg
import Derived.Test.YtpejpbbdgblbeaaGreatDoorMC24
namespace Go.Proofs.YtpejpbbdgblbeaaGreatDoor
open Go.RowKit Go.Shelf
set_option maxHeartbeats 16000000
set_option maxRecDepth 100000
mutual
def zN:Ex→Nat
 | .mk _ _ _ kids _=>1+depthL kids
def depthL:List Ex→Nat
 | []=>0
 | x::xs=>max (zN x) (depthL xs)
end
theorem YD (a b:List Ex):depthL (a++b)=max (depthL a) (depthL b):=by
 induction a with
 | nil=>simp [depthL]
 | cons x xs ih=>simp [depthL,ih,Nat.max_assoc]
theorem vJ {l:List Ex} {x:Ex} (h:x∈l):zN x≤depthL l:=by
 induction l with
 | nil=>cases h
 | cons y ys ih =>
  simp only [depthL];rcases List.mem_cons.1 h with rfl | h
  ·omega
  ·have:=ih h;omega
theorem QX {us:List (List Value)} (hfive:∀c∈us,c.length=5) {i j:Nat} {c:List Value} (hc:us[i]?=some c) (hj:j<5):us.flatten[i*5+j]?=c[j]?:=by
 induction us generalizing i with
 | nil=>simp at hc
 | cons d ds ih =>
  have hd:=hfive d (by simp)
  cases i with
  | zero =>
   simp only [List.getElem?_cons_zero,Option.some.injEq] at hc;subst hc;rw [List.flatten_cons,List.getElem?_append_left (by omega)];simp
  | succ i =>
   rw [List.flatten_cons,List.getElem?_append_right (by omega)]
   rw [show (i+1)*5+j-d.length=i*5+j by omega]
   exact ih (fun c hc=>hfive c (by simp [hc])) (by simpa using hc)
theorem v6 (S:Nat→Prop) (w:World) (l:List Ex) (v:Value) (h:zI S w l v) (hd:depthL l≤4611686018427387904)
  (hone:∀x∈l,∀c w',Below w.heap.size w w'→zV S w' x c→Calls Tryz.prog 45 #[c] w' fun e w''=>e=.returned (.int .i64 (zN x))∧Below w.heap.size w w'') :
  Calls Tryz.prog 87 #[v,.func (.func 45) #[] #[]] w fun e w'=>e=.returned (.int .i64 (depthL l))∧Below w.heap.size w w':=by
 obtain ⟨d0,n,A,rfl,hn⟩:∃d0 n A,v=.slice d0 n A∧n=l.length:=by
  rcases h with ⟨rfl,rfl⟩ | ⟨g,A,us,rfl,_⟩
  ·exact ⟨_,_,_,rfl,rfl⟩
  ·exact ⟨_,_,_,rfl,rfl⟩
 have z:∀i x,l[i]?=some x→∃g a b c K L J k,d0=some ⟨g,0,none⟩∧g<w.heap.size∧i<n∧n≤A∧A≤maxLen∧zV S w x (.agg #[.int .i64 a,.string b,.int .i64 c,.slice K L J,.int .i64 k]) ∧
   w.cell? ⟨g,i*5,none⟩=some (.int .i64 a)∧w.cell? ⟨g,i*5+1,none⟩=some (.string b)∧w.cell? ⟨g,i*5+2,none⟩=some (.int .i64 c)∧w.cell? ⟨g,i*5+3,none⟩=some (.slice K L J)∧w.cell? ⟨g,i*5+4,none⟩=some (.int .i64 k):=by
  intro i x O;rcases h with ⟨rfl,_⟩ | ⟨g,ad,us,hv,aj,Z,hS,R,hc,hm,o,s,hk⟩
  ·simp at O
  ·cases hv
   have hi:i<l.length:=(List.getElem?_eq_some_iff.1 O).1;obtain ⟨c,G⟩:∃c,us[i]?=some c:=⟨us[i]'(by omega),List.getElem?_eq_getElem (by omega)⟩
   have I:=hk i x c O G;obtain ⟨a,b,cc,K,L,J,k,aa⟩:=I.agg
   have ab:c=[.int .i64 a,.string b,.int .i64 cc,.slice K L J,.int .i64 k]:=by
    have:=congrArg (fun v=>match v with | .agg a=>a.toList | _=>[]) aa
    simpa using this
   subst ab;refine ⟨g,a,b,cc,K,L,J,k,rfl,R,by omega,by omega,hm,I,?_,?_,?_,?_,?_⟩
   ·exact o _ _ (by have:=QX s G (j:=0) (by omega);simpa using this)
   ·exact o _ _ (by have:=QX s G (j:=1) (by omega);simpa using this)
   ·exact o _ _ (by have:=QX s G (j:=2) (by omega);simpa using this)
   ·exact o _ _ (by have:=QX s G (j:=3) (by omega);simpa using this)
   ·exact o _ _ (by have:=QX s G (j:=4) (by omega);simpa using this)
 have HC:Hid (∀i x,l[i]?=some x→∃g a b c K L J k,d0=some ⟨g,0,none⟩∧g<w.heap.size∧i<n∧n≤A∧A≤maxLen∧zV S w x (.agg #[.int .i64 a,.string b,.int .i64 c,.slice K L J,.int .i64 k]) ∧
   w.cell? ⟨g,i*5,none⟩=some (.int .i64 a)∧w.cell? ⟨g,i*5+1,none⟩=some (.string b)∧w.cell? ⟨g,i*5+2,none⟩=some (.int .i64 c)∧w.cell? ⟨g,i*5+3,none⟩=some (.slice K L J)∧w.cell? ⟨g,i*5+4,none⟩=some (.int .i64 k)):=z
 have H:Hid (∀x∈l,∀c w',Below w.heap.size w w'→zV S w' x c→Calls Tryz.prog 45 #[c] w' fun e w''=>e=.returned (.int .i64 (zN x))∧Below w.heap.size w w''):=hone
 have Z:n≤9223372036854775807:=by
  rcases Nat.eq_zero_or_pos n with h0 | h0
  ·omega
  ·obtain ⟨_,_,_,_,_,_,_,_,_,_,_,h1,h2,_⟩:=z 0 (l[0]'(by omega)) (List.getElem?_eq_getElem (by omega))
   unfold maxLen at h2
   omega
 have HN:Hid (n=l.length):=hn;clear h hone z hn
 go_enter Tryz.func87,Tryz.ntmps87
 go_wp2_with fail
 go_loopw [5,10] (fun m i wr=>∃k:Nat,k≤n∧i=.int .i64 k∧m=.int .i64 (depthL (l.take k))∧Below w.heap.size w wr) (fun _ i _=>n-(intOf i).toNat)
 case atStart=>exact ⟨0,Nat.zero_le _,rfl,rfl,Below.refl _ _⟩
 case round =>
  obtain ⟨k,hk,rfl,rfl,y⟩:=hrel
  by_cases hlt:k<n
  ·obtain ⟨x,O⟩:∃x,l[k]?=some x:=⟨l[k]'(by rw [←HN.out];exact hlt),List.getElem?_eq_getElem (by rw [←HN.out];exact hlt)⟩
   obtain ⟨g,a,b,c,K,L,J,j,rfl,R,-,ag,ai,I,m0,m1,m2,m3,m4⟩:=HC.out k x O;have n0:=(y.cell (p:=⟨g,k*5,none⟩) R).trans m0;have n1:=(y.cell (p:=⟨g,k*5+1,none⟩) R).trans m1;have n2:=(y.cell (p:=⟨g,k*5+2,none⟩) R).trans m2;have n3:=(y.cell (p:=⟨g,k*5+3,none⟩) R).trans m3;have n4:=(y.cell (p:=⟨g,k*5+4,none⟩) R).trans m4;clear m0 m1 m2 m3 m4;have V:(k:Int)<(n:Int):=by omega
   have N:Below w.heap.size w (wr.alloc (.cells #[.int .i64 a,.string b,.int .i64 c,.slice K L J,.int .i64 j] 45)):=y.alloc y.size _;have U:=zV.kept I N.size fun k' _ hlt=>N.block k' hlt
   have c4:=H.out x (List.mem_of_getElem? O) _ _ N U
   have Y:Hid (depthL (l.take (k+1))=max (depthL (l.take k)) (zN x)):=show _=_ by
    rw [List.take_add_one,O,YD];simp [depthL]
   have af:depthL (l.take (k+1))≤depthL l:=by
    have:=YD (l.take (k+1)) (l.drop (k+1))
    rw [List.take_append_drop] at this;omega
   have ak:zN x≤4611686018427387904:=by have:=vJ (List.mem_of_getElem? O);omega
   have ah:depthL (l.take k)≤4611686018427387904:=by have:=Y.out;omega
   clear N U I y HC H;generalize depthL (l.take k)=M at *;generalize hD:zN x=D at *;go_wp2_with fail
   refine c4.mono ?_;clear c4;rintro e w5 ⟨rfl,W⟩;have Q:Hid (Below w.heap.size w w5):=W;clear W;go_wp2
   refine ⟨⟨k+1,by omega,by go_num,?_,Q.out⟩,by simp [intOf];omega⟩
   rw [Y.out];congr 1;omega
  ·have ae:k=n:=by omega
   have V:¬(k:Int)<(n:Int):=by omega
   have T:l.take k=l:=List.take_of_length_le (by have:=HN.out;omega)
   have Q:Hid (Below w.heap.size w wr):=y;clear y HC H;rw [T];clear T;go_wp2
   refine bodyPost_ret (v:=.int .i64 (depthL l)) (by simp [results,Tryz.results87,go_sem]) rfl ⟨rfl,Q.out⟩
theorem zV.rowOf {S:Nat→Prop} {w:World} {x:Ex} {v:Value} (h:zV S w x v):∃(k:Nat) (s:List UInt8) (n:Int) (l:List Ex) (line:Nat) (d:Value),x=.mk k s n l line∧v=.agg #[.int .i64 k,.string (zb s),.int .i64 n,d,.int .i64 line]∧zI S w l d:=by
 cases h with
 | leaf k s n line=>exact ⟨k,s,n,[],line,_,rfl,rfl,.inl ⟨rfl,rfl⟩⟩
 | node k s n kids line g cap us hne hlen hB hg hc hm hcell hfive hk=>exact ⟨k,s,n,kids,line,_,rfl,rfl,.inr ⟨g,cap,us,rfl,hne,hlen,hB,hg,hc,hm,hcell,hfive,hk⟩⟩
theorem UB (S:Nat→Prop) (w w1:World) (x:Ex) (v:Value) (hb:Below w.heap.size w w1) (hx:zV S w1 x v) (hd:zN x≤4611686018427387904)
  (hg:∀l v' w2,(∀y∈l,zN y<zN x)→depthL l+1=zN x→Below w.heap.size w w2→zI S w2 l v'→Calls Tryz.prog 87 #[v',.func (.func 45) #[] #[]] w2 fun e w'=>e=.returned (.int .i64 (depthL l))∧Below w.heap.size w w') :
  Calls Tryz.prog 45 #[v] w1 fun e w'=>e=.returned (.int .i64 (zN x))∧Below w.heap.size w w':=by
 obtain ⟨a,b,c,K,J,G,k,rfl⟩:=hx.agg
 obtain ⟨l,I,h⟩:∃l,zN x=1+depthL l∧zI S w1 l (.slice K J G):=by
  obtain ⟨Q,R,O,l,A,d,rfl,L,h⟩:=hx.rowOf;have o:=congrArg (fun v=>match v with | .agg a=>a.toList | _=>[]) L
  simp only [List.cons.injEq] at o;obtain ⟨_,_,_,rfl,_⟩:=o;exact ⟨l,by simp [zN],h⟩
 have z:Below w.heap.size w (w1.alloc (.cells #[.int .i64 a,.string b,.int .i64 c,.slice K J G,.int .i64 k] 45)):=hb.alloc hb.size _;have H:=hg l _ _ (fun y hy=>by have:=vJ hy;omega) (by omega) z (h.kept (by simp) fun k _ hlt=>Below.heap_alloc _ _ _ hlt)
 rw [I];clear hg hx h hb z;have T:depthL l≤4611686018427387904:=by omega
 clear I hd;generalize depthL l=M at *
 go_enter Tryz.func45,Tryz.ntmps45
 go_wp2_with fail
 refine H.mono ?_;clear H;rintro e N ⟨rfl,s⟩;have D:Hid (Below w.heap.size w N):=s;clear s;go_wp2
 refine bodyPost_ret (v:=.int .i64 (1+(M:Int))) (by simp [results,Tryz.results45,go_sem]) rfl ⟨by simp,D.out⟩
theorem X7 (S:Nat→Prop):∀(d:Nat) (w:World) (x:Ex) (v:Value) (o:World),zN x≤d→d≤4611686018427387904→Below w.heap.size w o→zV S o x v →
  Calls Tryz.prog 45 #[v] o fun e w'=>e=.returned (.int .i64 (zN x))∧Below w.heap.size w w':=by
 intro d
 induction d with
 | zero=>intro w x v o h;cases x;simp [zN] at h
 | succ d ih =>
  intro w x v o D hd A z;refine UB S w o x v A z (by omega) fun l v' w2 hl hs hb2 hrow=>?_
  refine (v6 S w2 l v' hrow (by omega) fun y hy c w' hb' hy'=>ih w2 y c w' (by have:=hl y hy;omega) (by omega) hb' hy').mono fun e w' h=>⟨h.1,?_⟩
  have s:=h.2;exact ⟨s.os.trans hb2.os,s.tape.trans hb2.tape,s.output.trans hb2.output,Nat.le_trans hb2.size s.size,fun k hk=>(s.block k (Nat.lt_of_lt_of_le hk hb2.size)).trans (hb2.block k hk)⟩
def y9 (res:PR Ex):Except Nat Ex :=
 match res with
 | .error a=>.error a
 | .ok (x,us)=>if (zw us).k=0 then .ok x else .error (zw us).at0
structure YQ (r B2:Nat) (w w':World):Prop where
 os:w'.os=w.os
 tape:w'.tape=w.tape
 output:w'.output=w.output
 size:w.heap.size≤w'.heap.size
 block:∀k,k<w.heap.size→k≠r→k≠B2→w'.heap[k]?=w.heap[k]?
def U8 (r B2:Nat) (w:World) (res:Except Nat Ex) (e:Ending) (w':World):Prop :=
 YQ r B2 w w'∧match res with
  | .error a=>e=ZH a
  | .ok x=>e=.returned (.tuple #[])∧∃(a:Int) (b:ByteArray) (c:Int) (d0:Option Addr) (d1 d2:Nat) (l:Int),w'.heap[B2]?=some (.cells #[.int .i64 a,.string b,.int .i64 c,.slice d0 d1 d2,.int .i64 l] 45 (0,0))∧ZL w.heap.size w' x (.agg #[.int .i64 a,.string b,.int .i64 c,.slice d0 d1 d2,.int .i64 l])
theorem zf1 (r g o cap B0 B1 B2 f ty0 ty1:Nat) (ts:List Tk) (w:World) (res:PR Ex) (h:zf r g o cap ts w) (hE:zg ts) (hl:Zz w) (hrl:r≠1) (hp:zh f 1 ts=some res)
  (b0:w.heap[B0]?=some (.cells #[.func (.func 44) #[] #[]] ty0 (0,0))) (b1:w.heap[B1]?=some (.cells #[.pointer (some ⟨r,0,none⟩)] ty1 (0,0))) (b2:w.heap[B2]?=some Zu) (h1:B1≠r) (h2:B2≠r) (h3:B2≠g) (h4:B1≠B2) :
  Calls Tryz.prog 85 #[.pointer (some ⟨B0,0,none⟩),.pointer (some ⟨B1,0,none⟩),.pointer (some ⟨B2,0,none⟩)] w (U8 r B2 w (y9 res)):=by
 generalize hres:y9 res=R;obtain ⟨t0,ag,rfl⟩:=hE.cons;have H:=(zdE r g hrl f).expr hrl w o cap _ res hp hE h hl;have c0:w.cell? ⟨B0,0,none⟩=some (.func (.func 44) #[] #[]):=by simp only [World.cell?,b0];rfl
 have c1:w.cell? ⟨B1,0,none⟩=some (.pointer (some ⟨r,0,none⟩)):=by simp only [World.cell?,b1];rfl
 have ab:B2<w.heap.size:=(Array.getElem?_eq_some_iff.1 b2).1;have ad:B1<w.heap.size:=(Array.getElem?_eq_some_iff.1 b1).1
 go_enter Tryz.func85,Tryz.ntmps85
 go_wp2_with fail
 refine H.mono ?_;clear H;rintro e w1 ⟨y,G⟩;rcases res with a | ⟨x,us⟩
 ·obtain rfl:=G
  obtain rfl:R=.error a:=by rw [←hres];rfl
  exact ⟨rfl,⟨y.os,y.tape,y.output,y.size,fun k hk hr _=>y.block k hk hr⟩,rfl⟩
 ·obtain ⟨v,o1,J,rfl,hx,Q⟩:=G
  obtain ⟨a,b,c,L,K,N,l,rfl⟩:=hx.agg;have aa:=(Ze f).1 _ _ _ _ hp hE;obtain ⟨Z,T,rfl⟩:=aa.cons;have p1:=(y.block _ ad h1).trans b1;have p2:=(y.block _ ab h2).trans b2;obtain ⟨q0,q1,q2,q3,q4,qf⟩:=zR p2;obtain ⟨w2,D⟩:∃w2,w2=set5 w1 B2 (.int .i64 a) (.string b) (.int .i64 c) (.slice L K N) (.int .i64 l):=⟨_,rfl⟩;have z:∀k,k≠B2→w2.heap[k]?=w1.heap[k]?:=fun k hk=>by rw [D];exact zr _ _ _ _ _ _ _ hk
  have I:zf r g o1 J (Z::T) w2:=Q.keep (z r (fun e=>h2 e.symm)) (z g (fun e=>h3 e.symm))
  have V:w1.heap.size≤w2.heap.size:=by rw [D];simp
  have U:ZL w.heap.size w2 x (.agg #[.int .i64 a,.string b,.int .i64 c,.slice L K N,.int .i64 l]):=ZL.kept hx V fun k hB _=>z k (by omega)
  have pB:w2.heap[B2]?=some (.cells #[.int .i64 a,.string b,.int .i64 c,.slice L K N,.int .i64 l] 45 (0,0)):=by rw [D];exact y7 p2 _ _ _ _ _
  have af:w2.cell? ⟨B1,0,none⟩=some (.pointer (some ⟨r,0,none⟩)):=by
   have p3:=(z B1 h4).trans p1;simp only [World.cell?,p3];rfl
  have A:Hid (YQ r B2 w w2):=⟨by rw [D];exact y.os,by rw [D];exact y.tape,by rw [D];exact y.output,Nat.le_trans y.size V,fun k hk hr hb=>(z k hb).trans (y.block k hk hr)⟩
  have H:=zfi r g o1 J Z T w2 I;have W:Hid (ZL w.heap.size w2 x (.agg #[.int .i64 a,.string b,.int .i64 c,.slice L K N,.int .i64 l])):=U;have Y:Hid (w2.heap[B2]?=some (.cells #[.int .i64 a,.string b,.int .i64 c,.slice L K N,.int .i64 l] 45 (0,0))):=pB;have ae:=D.symm;have ah:=y.size;have O:B2<w2.heap.size:=(Array.getElem?_eq_some_iff.1 pB).1;clear U pB I z hx Q p1 p2 y D
  by_cases hk:Z.k=0
  ·simp only [if_pos hk] at H
   obtain rfl:R=.ok x:=by rw [←hres];unfold y9;simp only [zz,if_pos hk]
   go_wp2_with fail
   refine H.mono ?_;clear H;rintro e w3 ⟨s,rfl⟩
   have hP:U8 r B2 w (.ok x) (.returned (.tuple #[])) w3:=by
    refine ⟨⟨s.os.trans A.out.os,s.tape.trans A.out.tape,s.output.trans A.out.output,Nat.le_trans A.out.size s.size,fun k hk hr hb=>(s.block k (Nat.lt_of_lt_of_le hk A.out.size) hr).trans (A.out.block k hk hr hb)⟩,rfl,a,b,c,L,K,N,l,(s.block _ O h2).trans Y.out,?_⟩
    exact ZL.kept W.out s.size fun k hB hlt=>s.block k hlt (by have:=h.lt.1;omega)
   have HP:Hid (U8 r B2 w (.ok x) (.returned (.tuple #[])) w3):=hP;clear hP s A W Y;go_wp2
   exact bodyPost_ret (v:=.tuple #[]) (by simp [results,Tryz.results85,go_sem]) rfl HP.out
  ·simp only [if_neg hk] at H
   obtain rfl:R=.error Z.at0:=by rw [←hres];unfold y9;simp only [zz,if_neg hk]
   go_wp2_with fail
   refine H.mono ?_;clear H;rintro e w3 ⟨s,rfl⟩;exact ⟨rfl,⟨s.os.trans A.out.os,s.tape.trans A.out.tape,s.output.trans A.out.output,Nat.le_trans A.out.size s.size,fun k hk hr hb=>(s.block k (Nat.lt_of_lt_of_le hk A.out.size) hr).trans (A.out.block k hk hr hb)⟩,rfl⟩
mutual
def Zo:St→Nat
 | .mk _ _ es b e _=>1+max (depthL es) (max (depthSs b) (depthSs e))
def depthSs:List St→Nat
 | []=>0
 | x::xs=>max (Zo x) (depthSs xs)
end
theorem xi (a b:List St):depthSs (a++b)=max (depthSs a) (depthSs b):=by
 induction a with
 | nil=>simp [depthSs]
 | cons x xs ih=>simp [depthSs,ih,Nat.max_assoc]
theorem xC {l:List St} {x:St} (h:x∈l):Zo x≤depthSs l:=by
 induction l with
 | nil=>cases h
 | cons y ys ih =>
  simp only [depthSs];rcases List.mem_cons.1 h with rfl | h
  ·omega
  ·have:=ih h;omega
theorem XH {sz:Nat} {us:List (List Value)} (hfive:∀c∈us,c.length=sz) {i j:Nat} {c:List Value} (hc:us[i]?=some c) (hj:j<sz):us.flatten[i*sz+j]?=c[j]?:=by
 induction us generalizing i with
 | nil=>simp at hc
 | cons d ds ih =>
  have hd:=hfive d (by simp)
  cases i with
  | zero =>
   simp only [List.getElem?_cons_zero,Option.some.injEq] at hc;subst hc;rw [List.flatten_cons,List.getElem?_append_left (by omega)];simp
  | succ i =>
   have e:(i+1)*sz=i*sz+sz:=by rw [Nat.add_mul];simp
   rw [List.flatten_cons,List.getElem?_append_right (by omega)]
   rw [show (i+1)*sz+j-d.length=i*sz+j by omega]
   exact ih (fun c hc=>hfive c (by simp [hc])) (by simpa using hc)
theorem X8 (S:Nat→Prop) (w:World) (l:List St) (v:Value) (h:z6 S w l v) (hd:depthSs l≤4611686018427387904)
  (hone:∀x∈l,∀c w',Below w.heap.size w w'→yg S w' x c→Calls Tryz.prog 57 #[c] w' fun e w''=>e=.returned (.int .i64 (Zo x))∧Below w.heap.size w w'') :
  Calls Tryz.prog 56 #[v,.func (.func 57) #[] #[]] w fun e w'=>e=.returned (.int .i64 (depthSs l))∧Below w.heap.size w w':=by
 obtain ⟨d0,n,A,rfl,hn⟩:∃d0 n A,v=.slice d0 n A∧n=l.length:=by
  obtain ⟨g,A,us,⟨rfl,rfl⟩ | ⟨rfl,_⟩,_⟩:=h
  ·exact ⟨_,_,_,rfl,rfl⟩
  ·exact ⟨_,_,_,rfl,rfl⟩
 have z:∀i x,l[i]?=some x→∃g a b Q N O T L K U R J k,d0=some ⟨g,0,none⟩∧g<w.heap.size∧i<n∧n≤A∧A≤maxLen∧yg S w x (.agg #[.int .i64 a,.string b,.slice Q N O,.slice T L K,.slice U R J,.int .i64 k]) ∧
   w.cell? ⟨g,i*6,none⟩=some (.int .i64 a)∧w.cell? ⟨g,i*6+1,none⟩=some (.string b)∧w.cell? ⟨g,i*6+2,none⟩=some (.slice Q N O)∧w.cell? ⟨g,i*6+3,none⟩=some (.slice T L K)∧w.cell? ⟨g,i*6+4,none⟩=some (.slice U R J)∧w.cell? ⟨g,i*6+5,none⟩=some (.int .i64 k):=by
  intro i x W;obtain ⟨g,aj,us,⟨rfl,_⟩ | ⟨hv,ap,ad,hS,Y,hc,hm,o,y⟩,hk⟩:=h
  ·simp at W
  ·cases hv
   have hi:i<l.length:=(List.getElem?_eq_some_iff.1 W).1;obtain ⟨c,G⟩:∃c,us[i]?=some c:=⟨us[i]'(by omega),List.getElem?_eq_getElem (by omega)⟩
   have I:=hk i x c W G;obtain ⟨a,b,Q,N,O,T,L,K,U,R,J,k,ai⟩:=I.agg
   have ah:c=[.int .i64 a,.string b,.slice Q N O,.slice T L K,.slice U R J,.int .i64 k]:=by
    have:=congrArg (fun v=>match v with | .agg a=>a.toList | _=>[]) ai
    simpa using this
   subst ah;refine ⟨g,a,b,Q,N,O,T,L,K,U,R,J,k,rfl,Y,by omega,by omega,hm,I,?_,?_,?_,?_,?_,?_⟩
   ·exact o _ _ (by have:=XH y G (j:=0) (by omega);simpa using this)
   ·exact o _ _ (by have:=XH y G (j:=1) (by omega);simpa using this)
   ·exact o _ _ (by have:=XH y G (j:=2) (by omega);simpa using this)
   ·exact o _ _ (by have:=XH y G (j:=3) (by omega);simpa using this)
   ·exact o _ _ (by have:=XH y G (j:=4) (by omega);simpa using this)
   ·exact o _ _ (by have:=XH y G (j:=5) (by omega);simpa using this)
 have HC:Hid (∀i x,l[i]?=some x→∃g a b Q N O T L K U R J k,d0=some ⟨g,0,none⟩∧g<w.heap.size∧i<n∧n≤A∧A≤maxLen∧yg S w x (.agg #[.int .i64 a,.string b,.slice Q N O,.slice T L K,.slice U R J,.int .i64 k]) ∧
   w.cell? ⟨g,i*6,none⟩=some (.int .i64 a)∧w.cell? ⟨g,i*6+1,none⟩=some (.string b)∧w.cell? ⟨g,i*6+2,none⟩=some (.slice Q N O)∧w.cell? ⟨g,i*6+3,none⟩=some (.slice T L K)∧w.cell? ⟨g,i*6+4,none⟩=some (.slice U R J)∧w.cell? ⟨g,i*6+5,none⟩=some (.int .i64 k)):=z
 have H:Hid (∀x∈l,∀c w',Below w.heap.size w w'→yg S w' x c→Calls Tryz.prog 57 #[c] w' fun e w''=>e=.returned (.int .i64 (Zo x))∧Below w.heap.size w w''):=hone
 have ad:n≤9223372036854775807:=by
  rcases Nat.eq_zero_or_pos n with h0 | h0
  ·omega
  ·obtain ⟨_,_,_,_,_,_,_,_,_,_,_,_,_,_,_,_,h1,h2,_⟩:=z 0 (l[0]'(by omega)) (List.getElem?_eq_getElem (by omega))
   unfold maxLen at h2
   omega
 have HN:Hid (n=l.length):=hn;clear h hone z hn
 go_enter Tryz.func56,Tryz.ntmps56
 go_wp2_with fail
 go_loopw [5,10] (fun m i wr=>∃k:Nat,k≤n∧i=.int .i64 k∧m=.int .i64 (depthSs (l.take k))∧Below w.heap.size w wr) (fun _ i _=>n-(intOf i).toNat)
 case atStart=>exact ⟨0,Nat.zero_le _,rfl,rfl,Below.refl _ _⟩
 case round =>
  obtain ⟨k,hk,rfl,rfl,s⟩:=hrel
  by_cases hlt:k<n
  ·obtain ⟨x,W⟩:∃x,l[k]?=some x:=⟨l[k]'(by rw [←HN.out];exact hlt),List.getElem?_eq_getElem (by rw [←HN.out];exact hlt)⟩
   obtain ⟨g,a,b,Q,N,O,T,L,K,U,R,J,j,rfl,Y,-,al,aq,I,m0,m1,m2,m3,m4,m5⟩:=HC.out k x W;have n0:=(s.cell (p:=⟨g,k*6,none⟩) Y).trans m0;have n1:=(s.cell (p:=⟨g,k*6+1,none⟩) Y).trans m1;have n2:=(s.cell (p:=⟨g,k*6+2,none⟩) Y).trans m2;have n3:=(s.cell (p:=⟨g,k*6+3,none⟩) Y).trans m3;have n4:=(s.cell (p:=⟨g,k*6+4,none⟩) Y).trans m4;have n5:=(s.cell (p:=⟨g,k*6+5,none⟩) Y).trans m5;clear m0 m1 m2 m3 m4 m5;have af:(k:Int)<(n:Int):=by omega
   have V:Below w.heap.size w (wr.alloc (.cells #[.int .i64 a,.string b,.slice Q N O,.slice T L K,.slice U R J,.int .i64 j] 108)):=s.alloc s.size _;have aa:=yg.kept I V.size fun k' _ hlt=>V.block k' hlt
   have c4:=H.out x (List.mem_of_getElem? W) _ _ V aa
   have ag:Hid (depthSs (l.take (k+1))=max (depthSs (l.take k)) (Zo x)):=show _=_ by
    rw [List.take_add_one,W,xi];simp [depthSs]
   have ao:depthSs (l.take (k+1))≤depthSs l:=by
    have:=xi (l.take (k+1)) (l.drop (k+1))
    rw [List.take_append_drop] at this;omega
   have an:Zo x≤4611686018427387904:=by have:=xC (List.mem_of_getElem? W);omega
   have am:depthSs (l.take k)≤4611686018427387904:=by have:=ag.out;omega
   clear V aa I s HC H;generalize depthSs (l.take k)=M at *;generalize hD:Zo x=D at *;go_wp2_with fail
   refine c4.mono ?_;clear c4;rintro e w5 ⟨rfl,ab⟩;have Z:Hid (Below w.heap.size w w5):=ab;clear ab;go_wp2
   refine ⟨⟨k+1,by omega,by go_num,?_,Z.out⟩,by simp [intOf];omega⟩
   rw [ag.out];congr 1;omega
  ·have ak:k=n:=by omega
   have af:¬(k:Int)<(n:Int):=by omega
   have ae:l.take k=l:=List.take_of_length_le (by have:=HN.out;omega)
   have Z:Hid (Below w.heap.size w wr):=s;clear s HC H;rw [ae];clear ae;go_wp2
   refine bodyPost_ret (v:=.int .i64 (depthSs l)) (by simp [results,Tryz.results56,go_sem]) rfl ⟨rfl,Z.out⟩
theorem yg.rowsOf {S:Nat→Prop} {w:World} {x:St} {a:Int} {b:ByteArray} {ve vb vl:Value} {c:Int} (h:yg S w x (.agg #[.int .i64 a,.string b,ve,vb,vl,.int .i64 c])):∃k s es body els line,x=.mk k s es body els line∧a=(k:Int)∧b=zb s∧c=(line:Int)∧zI S w es ve∧z6 S w body vb∧z6 S w els vl:=by
 cases h with
 | mk k s es body els line _ _ _ gb cb gl cl ub ul he hb hbk hl hlk=>exact ⟨k,s,es,body,els,line,rfl,rfl,rfl,rfl,he,⟨gb,cb,ub,hb,hbk⟩,⟨gl,cl,ul,hl,hlk⟩⟩
theorem Yf {w w2 w':World} (hb2:Below w.heap.size w w2) (h2:Below w2.heap.size w2 w'):Below w.heap.size w w':=hb2.trans (h2.mono hb2.size)
theorem UC (S:Nat→Prop) (w1:World) (x:St) (v:Value) (hx:yg S w1 x v) (hd:Zo x≤4611686018427387904)
  (hg:∀l v' w2,(∀y∈l,Zo y<Zo x)→depthSs l<Zo x→z6 S w2 l v'→Calls Tryz.prog 56 #[v',.func (.func 57) #[] #[]] w2 fun e w'=>e=.returned (.int .i64 (depthSs l))∧Below w2.heap.size w2 w') :
  Calls Tryz.prog 57 #[v] w1 fun e w'=>e=.returned (.int .i64 (Zo x))∧Below w1.heap.size w1 w':=by
 obtain ⟨a,b,e0,e1,e2,b0,b1,b2,l0,l1,l2,c,rfl⟩:=hx.agg;obtain ⟨k,s,J,o,A,line,rfl,rfl,rfl,rfl,Q,R,N⟩:=hx.rowsOf;have hD:Zo (.mk k s J o A line)=1+max (depthL J) (max (depthSs o) (depthSs A)):=by simp [Zo]
 obtain ⟨sB,T⟩:∃sB,sB=zb s:=⟨_,rfl⟩;rw [←T];obtain ⟨w2,H⟩:∃w2,w2=w1.alloc (.cells #[.int .i64 (k:Int),.string sB,.slice e0 e1 e2,.slice b0 b1 b2,.slice l0 l1 l2,.int .i64 (line:Int)] 108):=⟨_,rfl⟩;have D:Below w1.heap.size w1 w2:=by rw [H];exact (Below.refl _ w1).alloc (Nat.le_refl _) _
 have p2:w2.heap[w1.heap.size]?=some (.cells #[.int .i64 (k:Int),.string sB,.slice e0 e1 e2,.slice b0 b1 b2,.slice l0 l1 l2,.int .i64 (line:Int)] 108 (0,0)):=by rw [H];exact World.alloc_heap_new _ _
 have hN:w1.heap.size<w2.heap.size:=(Array.getElem?_eq_some_iff.1 p2).1;obtain ⟨-,-,q2,q3,q4,-,-⟩:=zJ p2
 have CE:Hid (∀W,Below w2.heap.size w2 W→Calls Tryz.prog 87 #[.slice e0 e1 e2,.func (.func 45) #[] #[]] W fun e w'=>e=.returned (.int .i64 (depthL J))∧Hid (Below w2.heap.size w2 w')):=fun W hW=>by
  have z:Below w1.heap.size w1 W:=Yf D hW;refine (v6 S W J _ (Q.kept z.size fun k _ hlt=>z.block k hlt) (by omega) fun y hy c w' hb' hy'=>X7 S (zN y) W y c w' (Nat.le_refl _) (by have:=vJ hy;omega) hb' hy').mono fun e w' h=>⟨h.1,Yf hW h.2⟩
 have CG:∀(l:List St) (v':Value),z6 S w1 l v'→(∀y∈l,Zo y<Zo (.mk k s J o A line))→depthSs l<Zo (.mk k s J o A line)→∀W,Below w2.heap.size w2 W→Calls Tryz.prog 56 #[v',.func (.func 57) #[] #[]] W fun e w'=>e=.returned (.int .i64 (depthSs l))∧Hid (Below w2.heap.size w2 w'):=fun l v' hl h1 h2 W hW=>by
  have z:Below w1.heap.size w1 W:=Yf D hW;exact (hg l v' W h1 h2 (hl.kept z.size fun k _ hlt=>z.block k hlt)).mono fun e w' h=>⟨h.1,Yf hW h.2⟩
 have CB:Hid (∀W,Below w2.heap.size w2 W→Calls Tryz.prog 56 #[.slice b0 b1 b2,.func (.func 57) #[] #[]] W fun e w'=>e=.returned (.int .i64 (depthSs o))∧Hid (Below w2.heap.size w2 w')):=CG o _ R (fun y hy=>by have:=xC hy;omega) (by omega)
 have CL:Hid (∀W,Below w2.heap.size w2 W→Calls Tryz.prog 56 #[.slice l0 l1 l2,.func (.func 57) #[] #[]] W fun e w'=>e=.returned (.int .i64 (depthSs A))∧Hid (Below w2.heap.size w2 w')):=CG A _ N (fun y hy=>by have:=xC hy;omega) (by omega)
 rw [hD] at hd ⊢;generalize depthL J=M1 at *;generalize depthSs o=M2 at *;generalize depthSs A=M3 at *;have aa:Hid (Below w1.heap.size w1 w2):=D;have ae:M1≤4611686018427387904:=by omega
 have af:M2≤4611686018427387904:=by omega
 have ag:M3≤4611686018427387904:=by omega
 have Y:=H.symm;clear CG hg hx Q R N D p2 H hD hd T
 go_enter Tryz.func57,Tryz.ntmps57
 go_wp2_with fail
 have z2:∀c:vN (fun W=>Below w2.heap.size w2 W),c.1.cell? ⟨w1.heap.size,2,none⟩=some (.slice e0 e1 e2):=fun c=>(c.2.cell (p:=⟨w1.heap.size,2,none⟩) hN).trans q2
 have z3:∀c:vN (fun W=>Below w2.heap.size w2 W),c.1.cell? ⟨w1.heap.size,3,none⟩=some (.slice b0 b1 b2):=fun c=>(c.2.cell (p:=⟨w1.heap.size,3,none⟩) hN).trans q3
 have z4:∀c:vN (fun W=>Below w2.heap.size w2 W),c.1.cell? ⟨w1.heap.size,4,none⟩=some (.slice l0 l1 l2):=fun c=>(c.2.cell (p:=⟨w1.heap.size,4,none⟩) hN).trans q4
 have Z:Hid (Below w2.heap.size w2 w2.drew):=(Below.refl _ _).drew;refine xZ (n:=12) (S:=fun w'=>∃c:vN (fun W=>Below w2.heap.size w2 W),w'=c.1) (by kernel_rfl) rfl rfl ?_
 refine Z8 (fuel:=6) (fuel':=12) (idx:=[0,1,3,4,6,7]) (by decide +kernel) rfl rfl rfl (fun _ _ _ _ _ h=>h) ⟨⟨w2.drew,Z.out⟩,rfl⟩ ?_
 show wpQuiet _ _ _ _ [_,_,_,_,_,_] _
 iterate 6 (go_big_quiet_step (exact rfl))
 refine wpQuiet_nil ?_;refine Za (fuel:=5) (fuel':=6) (i:=2) rfl (by decide +kernel) rfl rfl (by rfl) ?_
 intro K G;go_simp;refine (CE.out w2.drew Z.out).mono ?_;rintro e w3 ⟨rfl,U⟩
 (try go_simp)
 refine G.out _ _ ⟨⟨w3,U.out⟩,rfl⟩ ?_;clear G K;refine Za (fuel:=4) (fuel':=5) (i:=5) rfl (by decide +kernel) rfl rfl (by rfl) ?_
 intro K G;go_simp;refine (CB.out w3 U.out).mono ?_;rintro e w4 ⟨rfl,O⟩
 (try go_simp)
 refine G.out _ _ ⟨⟨w4,O.out⟩,rfl⟩ ?_;clear G K;refine Za (fuel:=3) (fuel':=4) (i:=8) rfl (by decide +kernel) rfl rfl (by rfl) ?_
 intro K G;go_simp;refine (CL.out w4 O.out).mono ?_;rintro e w5 ⟨rfl,I⟩
 (try go_simp)
 refine G.out _ _ ⟨⟨w5,I.out⟩,rfl⟩ ?_;clear G K;refine Za (fuel:=2) (fuel':=3) (i:=9) rfl (by decide +kernel) rfl rfl (by rfl) ?_
 intro K G;go_simp;refine G.out _ _ ⟨⟨w5,I.out⟩,rfl⟩ ?_;clear G K;simp only [Act.put,List.setIfInBounds_toArray,List.set_cons_zero,List.set_cons_succ];refine Z8 (fuel:=0) (fuel':=2) (idx:=[10,11]) (by decide +kernel) rfl rfl rfl (fun _ _ _ _ _ h=>h) ⟨⟨w5,I.out⟩,rfl⟩ ?_
 show wpQuiet _ _ _ _ [_,_] _
 iterate 2 (go_big_quiet_step (exact rfl))
 refine wpQuiet_nil ?_;refine yQ (by decide +kernel) ?_
 have hV:(1+if (if M1<M2 then (M2:Int) else M1)<(M3:Int) then (M3:Int) else if M1<M2 then (M2:Int) else M1)=((1+max M1 (max M2 M3):Nat):Int):=by
  by_cases h1:M1<M2
  ·simp only [if_pos h1]
   split <;> omega
  ·simp only [if_neg h1]
   split <;> omega
 rw [hV];obtain ⟨V,L⟩:∃V,V=1+max M1 (max M2 M3):=⟨_,rfl⟩;rw [←L];have ab:Hid (V=1+max M1 (max M2 M3)):=L;have ad:Hid (Below w1.heap.size w1 w5):=Yf aa.out I.out;clear hV L z2 z3 z4 q2 q3 q4 Y;go_wp2
 all_goals exact bodyPost_ret (v:=.int .i64 (V:Int)) (by simp [results,Tryz.results57,go_sem]) rfl ⟨by rw [show (V:Int)=1+((max M1 (max M2 M3):Nat):Int) by have:=ab.out;omega],ad.out⟩
theorem UD (S:Nat→Prop):∀(d:Nat) (x:St) (v:Value) (o:World),Zo x≤d→d≤4611686018427387904→yg S o x v →
  Calls Tryz.prog 57 #[v] o fun e w'=>e=.returned (.int .i64 (Zo x))∧Below o.heap.size o w':=by
 intro d
 induction d with
 | zero=>intro x v o h;cases x;simp [Zo] at h
 | succ d ih =>
  intro x v o z hd s;refine UC S o x v s (by omega) fun l v' w2 hl hs hrow=>?_
  exact X8 S w2 l v' hrow (by omega) fun y hy c w' hb' hy'=>(ih y c w' (by have:=hl y hy;omega) (by omega) hy').mono fun e w'' h=>⟨h.1,Yf hb' h.2⟩
theorem UE (S:Nat→Prop) (w:World) (l:List St) (v:Value) (h:z6 S w l v) (hd:depthSs l≤4611686018427387904) :
  Calls Tryz.prog 56 #[v,.func (.func 57) #[] #[]] w fun e w'=>e=.returned (.int .i64 (depthSs l))∧Below w.heap.size w w' :=
 X8 S w l v h hd fun y hy c w' hb' hy'=>(UD S (Zo y) y c w' (Nat.le_refl _) (by have:=xC hy;omega) hy').mono fun e w'' h=>⟨h.1,Yf hb' h.2⟩
def depthFs:List Fc→Nat
 | []=>0
 | x::xs=>max (depthSs x.body) (depthFs xs)
theorem xj (a b:List Fc):depthFs (a++b)=max (depthFs a) (depthFs b):=by
 induction a with
 | nil=>simp [depthFs]
 | cons x xs ih=>simp [depthFs,ih,Nat.max_assoc]
theorem QY {l:List Fc} {x:Fc} (h:x∈l):depthSs x.body≤depthFs l:=by
 induction l with
 | nil=>cases h
 | cons y ys ih =>
  simp only [depthFs];rcases List.mem_cons.1 h with rfl | h
  ·omega
  ·have:=ih h;omega
theorem VC (S:Nat→Prop) (w:World) (p:Pg) (v:Value) (h:xu S w p v) (hd:depthFs p.funs≤4611686018427387904) :
  Calls Tryz.prog 23 #[v] w fun e w'=>e=.returned (.int .i64 (depthFs p.funs))∧Below w.heap.size w w':=by
 obtain ⟨rs,l⟩:=p;simp only at hd ⊢;obtain ⟨vr,vf,rfl,U,h⟩:=h;simp only at h U;obtain ⟨rb,rc,rfl⟩:=U.slice
 obtain ⟨V,n,A,rfl,hn⟩:∃V n A,vf=.slice V n A∧n=l.length:=by
  obtain ⟨b,c,rfl⟩:=h.slice;exact ⟨_,_,_,rfl,rfl⟩
 obtain ⟨rn,Y⟩:∃rn,rn=rs.length:=⟨_,rfl⟩;rw [←Y]
 have z:∀i x,l[i]?=some x→∃g a O N W b J I H k,V=some ⟨g,0,none⟩∧g<w.heap.size∧i<n∧n≤A∧A≤maxLen∧z6 S w x.body (.slice J I H) ∧
   w.cell? ⟨g,i*5,none⟩=some (.string a)∧w.cell? ⟨g,i*5+1,none⟩=some (.slice O N W)∧w.cell? ⟨g,i*5+2,none⟩=some (.string b)∧w.cell? ⟨g,i*5+3,none⟩=some (.slice J I H)∧w.cell? ⟨g,i*5+4,none⟩=some (.int .i64 k):=by
  intro i x R;rcases h with ⟨rfl,_⟩ | ⟨g,an,us,hv,av,ae,hS,T,hc,hm,o,s,hk⟩
  ·simp at R
  ·cases hv
   have hi:i<l.length:=(List.getElem?_eq_some_iff.1 R).1;obtain ⟨c,G⟩:∃c,us[i]?=some c:=⟨us[i]'(by omega),List.getElem?_eq_getElem (by omega)⟩
   obtain ⟨vp,vb,rfl,al,ad⟩:=hk i x c R G;obtain ⟨O,N,rfl⟩:=al.slice;obtain ⟨J,I,H,rfl⟩:=ad.slice;refine ⟨g,zb x.name,O,x.params.length,N,zb x.result,J,I,H,(x.line:Int),rfl,T,by omega,by omega,hm,ad,?_,?_,?_,?_,?_⟩
   ·exact o _ _ (by have:=XH s G (j:=0) (by omega);simpa using this)
   ·exact o _ _ (by have:=XH s G (j:=1) (by omega);simpa using this)
   ·exact o _ _ (by have:=XH s G (j:=2) (by omega);simpa using this)
   ·exact o _ _ (by have:=XH s G (j:=3) (by omega);simpa using this)
   ·exact o _ _ (by have:=XH s G (j:=4) (by omega);simpa using this)
 have HC:Hid (∀i x,l[i]?=some x→∃g a O N W b J I H k,V=some ⟨g,0,none⟩∧g<w.heap.size∧i<n∧n≤A∧A≤maxLen∧z6 S w x.body (.slice J I H) ∧
   w.cell? ⟨g,i*5,none⟩=some (.string a)∧w.cell? ⟨g,i*5+1,none⟩=some (.slice O N W)∧w.cell? ⟨g,i*5+2,none⟩=some (.string b)∧w.cell? ⟨g,i*5+3,none⟩=some (.slice J I H)∧w.cell? ⟨g,i*5+4,none⟩=some (.int .i64 k)):=z
 have ae:n≤9223372036854775807:=by
  rcases Nat.eq_zero_or_pos n with h0 | h0
  ·omega
  ·obtain ⟨_,_,_,_,_,_,_,_,_,_,_,_,_,h1,h2,_⟩:=z 0 (l[0]'(by omega)) (List.getElem?_eq_getElem (by omega))
   unfold maxLen at h2
   omega
 have HN:Hid (n=l.length):=hn;obtain ⟨w1,K⟩:∃w1,w1=w.alloc (uj (.slice rb rn rc) (.slice V n A)):=⟨_,rfl⟩;have ag:Hid (Below w.heap.size w w1):=show Below _ _ _ by rw [K];exact (Below.refl _ w).alloc (Nat.le_refl _) _
 have aj:=K.symm;have p1:w1.heap[w.heap.size]?=some (uj (.slice rb rn rc) (.slice V n A)):=by rw [K];exact World.alloc_heap_new _ _
 obtain ⟨-,y1,-⟩:=Zv p1;clear h z hn U Y K p1
 go_enter Tryz.func23,Tryz.ntmps23
 go_wp2_with fail
 go_loopw [3,9] (fun m i wr=>∃k:Nat,k≤n∧i=.int .i64 k∧m=.int .i64 (depthFs (l.take k))∧Below w.heap.size w wr) (fun _ i _=>n-(intOf i).toNat)
 case atStart=>exact ⟨0,Nat.zero_le _,rfl,rfl,ag.out⟩
 case round =>
  clear aj y1 ag;obtain ⟨k,hk,rfl,rfl,y⟩:=hrel
  by_cases hlt:k<n
  ·obtain ⟨x,R⟩:∃x,l[k]?=some x:=⟨l[k]'(by rw [←HN.out];exact hlt),List.getElem?_eq_getElem (by rw [←HN.out];exact hlt)⟩
   obtain ⟨g,a,O,N,W,b,J,I,H,j,rfl,T,-,ap,au,aa,m0,m1,m2,m3,m4⟩:=HC.out k x R;have n0:=(y.cell (p:=⟨g,k*5,none⟩) T).trans m0;have n1:=(y.cell (p:=⟨g,k*5+1,none⟩) T).trans m1;have n2:=(y.cell (p:=⟨g,k*5+2,none⟩) T).trans m2;have n3:=(y.cell (p:=⟨g,k*5+3,none⟩) T).trans m3;have n4:=(y.cell (p:=⟨g,k*5+4,none⟩) T).trans m4;clear m0 m1 m2 m3 m4;have ah:(k:Int)<(n:Int):=by omega
   have L:Below w.heap.size w (wr.alloc (.cells #[.string a,.slice O N W,.string b,.slice J I H,.int .i64 j] 72)):=y.alloc y.size _;have Z:=aa.kept L.size fun k' _ hlt=>L.block k' hlt
   have ai:Hid (depthFs (l.take (k+1))=max (depthFs (l.take k)) (depthSs x.body)):=show _=_ by
    rw [List.take_add_one,R,xj];simp [depthFs]
   have ar:depthFs (l.take (k+1))≤depthFs l:=by
    have:=xj (l.take (k+1)) (l.drop (k+1))
    rw [List.take_append_drop] at this;omega
   have am:depthSs x.body≤4611686018427387904:=by have:=QY (List.mem_of_getElem? R);omega
   have aq:depthFs (l.take k)≤4611686018427387904:=by have:=ai.out;omega
   have c4:=UE S _ x.body _ Z am;have ak:Hid (Below w.heap.size w (wr.alloc (.cells #[.string a,.slice O N W,.string b,.slice J I H,.int .i64 j] 72))):=L;clear L Z aa y HC;generalize depthFs (l.take k)=M at *;generalize hD:depthSs x.body=D at *;go_wp2_with fail
   refine c4.mono ?_;clear c4;rintro e w5 ⟨rfl,ab⟩;have Q:Hid (Below w.heap.size w w5):=Yf ak.out ab;clear ab;go_wp2
   refine ⟨⟨k+1,by omega,by go_num,?_,Q.out⟩,by simp [intOf];omega⟩
   rw [ai.out];congr 1;omega
  ·have ao:k=n:=by omega
   have ah:¬(k:Int)<(n:Int):=by omega
   have af:l.take k=l:=List.take_of_length_le (by have:=HN.out;omega)
   have Q:Hid (Below w.heap.size w wr):=y;clear y HC;rw [af];clear af;go_wp2
   refine bodyPost_ret (v:=.int .i64 (depthFs l)) (by simp [results,Tryz.results23,go_sem]) rfl ⟨rfl,Q.out⟩
end Go.Proofs.YtpejpbbdgblbeaaGreatDoor
