import Derived.Test.YtcphojjpapgblaaGreatDoorMC10
import Derived.Test.YtcphojjpapgblaaGreatDoorMC11
import Derived.Test.YtcphojjpapgblaaGreatDoorMC27
namespace Go.Proofs.YtcphojjpapgblaaGreatDoor
open Go.RowKit Go.Shelf
set_option maxHeartbeats 16000000
set_option maxRecDepth 100000
def Zj {α:Type} (P:α→List Value→Prop) (sz B:Nat) (w:World) (l:List α) (base:Option Addr) (m cap:Nat):Prop :=
 m=l.length∧l.length≤cap∧cap≤maxLen∧∀i x,l[i]?=some x→∃b o c,base=some ⟨b,o,none⟩∧b<B∧b<w.heap.size∧c.length=sz∧P x c∧∀j u,c[j]?=some u→w.cell? ⟨b,o+i*sz+j,none⟩=some u
theorem Zj.kept {α:Type} {P P':α→List Value→Prop} {sz B:Nat} {w w':World} {l:List α} {base:Option Addr} {m cap:Nat} (h:Zj P sz B w l base m cap) (hb:Below B w w') (hP:∀x c,P x c→P' x c):Zj P' sz B w' l base m cap:=by
 obtain ⟨G,D,L,J⟩:=h;refine ⟨G,D,L,fun i x hx=>?_⟩
 obtain ⟨b,o,c,e,A,z,H,I,y⟩:=J i x hx;exact ⟨b,o,c,e,A,Nat.lt_of_lt_of_le z hb.size,H,hP x c I,fun j u hj=>by rw [World.cell?_of_block (hb.block b A)];exact y j u hj⟩
theorem Zj.wide {α:Type} {P P':α→List Value→Prop} {sz B B':Nat} {w:World} {l:List α} {base:Option Addr} {m cap:Nat} (h:Zj P sz B w l base m cap) (hB:B≤B') (hP:∀x c,P x c→P' x c):Zj P' sz B' w l base m cap:=by
 obtain ⟨H,A,L,J⟩:=h;refine ⟨H,A,L,fun i x hx=>?_⟩
 obtain ⟨b,o,c,e,D,z,G,I,y⟩:=J i x hx;exact ⟨b,o,c,e,Nat.lt_of_lt_of_le D hB,z,G,hP x c I,y⟩
inductive Sz where
 | mk (k:Int) (s:List UInt8) (es:List Ez) (body els:List Sz) (line:Int)
abbrev qN (B:Nat) (w:World) (x:Ez) (c:List Value):Prop:=Zl B w x (.agg c.toArray)
def ZE (B:Nat) (w:World):Nat→Sz→List Value→Prop
 | 0,_,_=>False
 | f+1,.mk k s es body els line,c=>∃be me ce bb mb cb bl ml cl,c=[.int .i64 k,.string (zb s),.slice be me ce,.slice bb mb cb,.slice bl ml cl,.int .i64 line]∧s.length≤100000000∧Zj (qN B w) 5 B w es be me ce∧Zj (ZE B w f) 6 B w body bb mb cb∧Zj (ZE B w f) 6 B w els bl ml cl
theorem ZE.kept {B:Nat} {w w':World} (hb:Below B w w'):∀(f:Nat) (x:Sz) (c:List Value),ZE B w f x c→ZE B w' f x c
 | 0,_,_,h=>h.elim
 | f+1,.mk k s es body els line,c,h=>by
  obtain ⟨G,Q,y,H,z,L,bl,A,I,D,o,O,N,J⟩:=h;exact ⟨G,Q,y,H,z,L,bl,A,I,D,o,O.kept hb fun x c h=>Zl.kept h hb,N.kept hb (ZE.kept hb f),J.kept hb (ZE.kept hb f)⟩
theorem ZE.wide {B B':Nat} {w:World} (hB:B≤B'):∀(f:Nat) (x:Sz) (c:List Value),ZE B w f x c→ZE B' w f x c
 | 0,_,_,h=>h.elim
 | f+1,.mk k s es body els line,c,h=>by
  obtain ⟨G,Q,y,H,z,L,bl,A,I,D,o,O,N,J⟩:=h;exact ⟨G,Q,y,H,z,L,bl,A,I,D,o,O.wide hB fun x c h=>Zl.wide h hB,N.wide hB (ZE.wide hB f),J.wide hB (ZE.wide hB f)⟩
abbrev PmZ (x:List UInt8 × List UInt8) (c:List Value):Prop:=c=[.string (zb x.1),.string (zb x.2)]∧x.1.length≤100000000∧x.2.length≤100000000
structure Rz where
 name:List UInt8
 fields:List (List UInt8 × List UInt8)
 line:Int
structure Fz where
 name:List UInt8
 params:List (List UInt8 × List UInt8)
 result:List UInt8
 body:List Sz
 line:Int
structure Pz where
 recs:List Rz
 funs:List Fz
def xD (B:Nat) (w:World) (x:Rz) (c:List Value):Prop:=∃b m cap,c=[.string (zb x.name),.slice b m cap,.int .i64 x.line]∧x.name.length≤100000000∧Zj PmZ 2 B w x.fields b m cap
def xE (B:Nat) (w:World) (f:Nat) (x:Fz) (c:List Value):Prop:=∃b m cap b2 m2 cap2,c=[.string (zb x.name),.slice b m cap,.string (zb x.result),.slice b2 m2 cap2,.int .i64 x.line]∧x.name.length≤100000000∧x.result.length≤100000000∧Zj PmZ 2 B w x.params b m cap∧Zj (ZE B w f) 6 B w x.body b2 m2 cap2
def Xn (B:Nat) (w:World) (f:Nat) (x:Pz) (v:Value):Prop:=∃b m cap b2 m2 cap2,v=.agg #[.slice b m cap,.slice b2 m2 cap2]∧Zj (xD B w) 3 B w x.recs b m cap∧Zj (xE B w f) 5 B w x.funs b2 m2 cap2
theorem xD.kept {B:Nat} {w w':World} (hb:Below B w w') (x:Rz) (c:List Value) (h:xD B w x c):xD B w' x c:=by
 obtain ⟨b,m,o,z,y,A⟩:=h;exact ⟨b,m,o,z,y,A.kept hb fun _ _ h=>h⟩
theorem xD.wide {B B':Nat} {w:World} (hB:B≤B') (x:Rz) (c:List Value) (h:xD B w x c):xD B' w x c:=by
 obtain ⟨b,m,o,z,y,A⟩:=h;exact ⟨b,m,o,z,y,A.wide hB fun _ _ h=>h⟩
theorem xE.kept {B:Nat} {w w':World} (hb:Below B w w') (f:Nat) (x:Fz) (c:List Value) (h:xE B w f x c):xE B w' f x c:=by
 obtain ⟨b,m,y,D,z,o,G,A,J,I,H⟩:=h;exact ⟨b,m,y,D,z,o,G,A,J,I.kept hb fun _ _ h=>h,H.kept hb (ZE.kept hb f)⟩
theorem xE.wide {B B':Nat} {w:World} (hB:B≤B') (f:Nat) (x:Fz) (c:List Value) (h:xE B w f x c):xE B' w f x c:=by
 obtain ⟨b,m,y,D,z,o,G,A,J,I,H⟩:=h;exact ⟨b,m,y,D,z,o,G,A,J,I.wide hB fun _ _ h=>h,H.wide hB (ZE.wide hB f)⟩
theorem Xn.kept {B:Nat} {w w':World} (hb:Below B w w') {f:Nat} {x:Pz} {v:Value} (h:Xn B w f x v):Xn B w' f x v:=by
 obtain ⟨b,m,y,D,z,o,G,A,H⟩:=h;exact ⟨b,m,y,D,z,o,G,A.kept hb (xD.kept hb),H.kept hb (xE.kept hb f)⟩
theorem Xn.wide {B B':Nat} {w:World} (hB:B≤B') {f:Nat} {x:Pz} {v:Value} (h:Xn B w f x v):Xn B' w f x v:=by
 obtain ⟨b,m,y,D,z,o,G,A,H⟩:=h;exact ⟨b,m,y,D,z,o,G,A.wide hB (xD.wide hB),H.wide hB (xE.wide hB f)⟩
def yL (l:List (Option (List UInt8))):Nat→Option (List UInt8)
 | 0=>some []
 | i+1=>zd (yL l i) ((l[i]?).getD none)
theorem Qp (l:List (Option (List UInt8))) {i:Nat} (h:yL l i=none):∀k,yL l (i+k)=none
 | 0=>h
 | k+1=>by
  show yL l (i+k+1)=none
  rw [yL,Qp l h k];rfl
theorem uh (l:List (Option (List UInt8))) {i m:Nat} (hi:i<m) (h:(l[i]?).getD none=none):yL l m=none:=by
 have o:yL l (i+1)=none:=by
  rw [yL,h]
  cases yL l i <;> rfl
 have:=Qp l o (m-(i+1))
 rwa [show i+1+(m-(i+1))=m by omega] at this
def US:Ez→Int | .mk k _ _ _ _=>k
def ui (x:Ez):Bool:=US x==4||US x==8||US x==9
def hasX (k:Int) (es:List Ez):Bool :=
 if k=1∨k=3∨k=4∨k=5∨k=7 then es.length==1
 else if k=2 then (match es with | [a,_]=>ui a | _=>false)
 else if k=6 then decide (es.length≤1)
 else false
def xg (k:Int) (s:List UInt8) (es:List Ez) (mb ml:Nat):Bool :=
 hasX k es&&(k==1||s==[])&&(k==4||k==3||k==5||mb==0)&&(k==4||ml==0)
def blkO (f:Sz→Option (List UInt8)) (l:List Sz):Option (List UInt8):=zd (some [123,10]) (zd (yL (l.map f) l.length) (some [125]))
def prS:Nat→Sz→Option (List UInt8)
 | 0,_=>none
 | d+1,.mk k s es body els _ =>
  if xg k s es body.length els.length=true then
   if k=1 then match es with
    | a::_=>zd (some [108,101,116,32]) (zd (tokO 1 0 s) (zd (some [32,61,32]) (zd (prE d a) (some [59,10]))))
    | _=>none
   else if k=2 then match es with
    | a::b::_=>zd (prE d a) (zd (some [32,61,32]) (zd (prE d b) (some [59,10])))
    | _=>none
   else if k=6 then match es with
    | []=>zd (some [114,101,116,117,114,110]) (some [59,10])
    | a::_=>zd (some [114,101,116,117,114,110]) (zd (some [32]) (zd (prE d a) (some [59,10])))
   else if k=7 then match es with
    | a::_=>zd (prE d a) (some [59,10])
    | _=>none
   else if k=4 then match es with
    | a::_=>zd (some [105,102,32]) (zd (prE d a) (zd (some [32]) (zd (blkO (prS d) body) (zd (some [32,101,108,115,101,32]) (zd (blkO (prS d) els) (some [10]))))))
    | _=>none
   else match es with
    | a::_=>zd (some (if k=5 then [119,104,105,108,101,32] else [105,102,32])) (zd (prE d a) (zd (some [32]) (zd (blkO (prS d) body) (some [10]))))
    | _=>none
  else none
def funO (x:Fz):Option (List UInt8):=zd (some [102,110,32]) (zd (tokO 1 0 x.name) (zd (some [40]) (zd (rowO (x.params.map parO) x.params.length) (zd (some [41]) (zd (if x.result=[] then some [] else zd (some [58,32]) (typeO x.result)) (zd (some [32]) (zd (blkO (prS 24) x.body) (some [10]))))))))
def XN (x:Pz):Option (List UInt8):=zd (yL (x.recs.map fun r=>recO r.name r.fields) x.recs.length) (yL (x.funs.map funO) x.funs.length)
def yM (l:List UInt8) (x:Pg) (at0 err:Nat):Prop :=
 if (zW l).2.2≠0 then x=xf∧at0=(zW l).2.1∧err=(zW l).2.2 else
 ∃f res,Zp f [] [] (zW l).1=some res∧match yx res with
  | .error a=>x=xf∧at0=a∧err=6
  | .ok y=>if 24<depthFs y.funs then x=xf∧at0=0∧err=7 else x=y∧at0=0∧err=0
theorem zfr (ts:List Tk) (g cap B0 B2 f:Nat) (w0 w2:World) (res:PR Pg) (hE:zi ts) (hlen:ts.length≤4097) (hp:Zp f [] [] ts=some res) (hgl:g<w2.heap.size) (hcap:ts.length≤cap) (hmax:cap≤maxLen) (hcell:∀j u,(ZD ts)[j]?=some u→w2.cell? ⟨g,j,none⟩=some u)
  (hb:Below w0.heap.size w0 w2) (hl:ZA w0) (he:xp w0) (hB0:w0.heap.size≤B0) (hB2:w0.heap.size≤B2) (hB2g:B2≠g)
  (b0:w2.heap[B0]?=some (.cells #[.func (.func 20) #[] #[]] 53 (0,0))) (b2:w2.heap[B2]?=some Xq) :
  Calls Tryz.prog 46 #[.func (.func 47) #[] #[.pointer (some ⟨B0,0,none⟩),.pointer (some ⟨w2.heap.size+1,0,none⟩),.pointer (some ⟨B2,0,none⟩)]] (rdW w2 (.slice (some ⟨g,0,none⟩) ts.length cap)) fun e w' =>
   ∃G,Below (w2.heap.size+1+1) G w'∧Y3 w2.heap.size B2 w2 G∧match yx res with
    | .error a=>e=.returned (.tuple #[.int .i64 a,.int .i64 6])
    | .ok x=>e=.returned (.tuple #[.int .i64 0,.int .i64 0])∧∃(X:Option Addr) (Y s2:Nat) (d0:Option Addr) (d1 Z:Nat),G.heap[B2]?=some (.cells #[.slice X Y s2,.slice d0 d1 Z] 25 (0,0))∧Yz (w2.heap.size+1+1) w' x (.agg #[.slice X Y s2,.slice d0 d1 Z]):=by
 obtain ⟨N,A,rfl⟩:=hE.cons;have hs:w0.heap.size≤w2.heap.size:=hb.size;have ag:1<w0.heap.size:=World.block_lt_of_cell? w0 _ (hl 0 _ rfl);have ae:0<w0.heap.size:=World.block_lt_of_cell? w0 _ he;have V:B0<w2.heap.size:=(Array.getElem?_eq_some_iff.1 b0).1;have O:B2<w2.heap.size:=(Array.getElem?_eq_some_iff.1 b2).1;obtain ⟨w3,y⟩:∃w3,w3=rdW w2 (.slice (some ⟨g,0,none⟩) (N::A).length cap):=⟨_,rfl⟩;have J:w3.heap.size=w2.heap.size+1+1:=by rw [y];simp
 obtain ⟨W,D⟩:∃W,W=zgF w3:=⟨_,rfl⟩;have ah:W.heap.size=w2.heap.size+1+1+1+1:=by rw [D];simp [J]
 have I:∀k,k<w3.heap.size→W.heap[k]?=w3.heap[k]?:=fun k hk=>by rw [D,Below.heap_alloc _ _ _ (by simp;omega),Below.heap_alloc _ _ _ hk]
 have ab:∀k,k<w2.heap.size→w3.heap[k]?=w2.heap[k]?:=fun k hk=>by rw [y,Below.heap_alloc _ _ _ (by simp;omega),Below.heap_alloc _ _ _ hk]
 have z:∀k,k<w2.heap.size→W.heap[k]?=w2.heap[k]?:=fun k hk=>(I k (by omega)).trans (ab k hk)
 have pr:W.heap[w2.heap.size]?=some (.cells #[.slice (some ⟨g,0,none⟩) (N::A).length cap] 99 (0,0)):=by
  rw [I _ (by omega),y,Below.heap_alloc _ _ _ (by simp)];exact World.alloc_heap_new _ _
 have p1:W.heap[w2.heap.size+1]?=some (.cells #[.pointer (some ⟨w2.heap.size,0,none⟩)] 55 (0,0)):=by
  rw [I _ (by omega),y]
  have:=World.alloc_heap_new (w2.alloc (.cells #[.slice (some ⟨g,0,none⟩) (N::A).length cap] 99)) (.cells #[.pointer (some ⟨w2.heap.size,0,none⟩)] 55)
  simpa using this
 have pa:W.heap[w3.heap.size]?=some (.cells #[.int .i64 0] 3 (0,0)):=by
  rw [D,Below.heap_alloc _ _ _ (by simp)];exact World.alloc_heap_new _ _
 have pb:W.heap[w3.heap.size+1]?=some (.cells #[.int .i64 0] 26 (0,0)):=by
  rw [D]
  have:=World.alloc_heap_new (w3.alloc (.cells #[.int .i64 0] 3)) (.cells #[.int .i64 0] 26)
  simpa using this
 have ad:zf w2.heap.size g 0 cap (N::A) W :=
  { cell:=by simp only [World.cell?,pr];rfl
    soft:=by simp only [World.frozen?,pr];simp
    hcap:=hcap
    hmax:=hmax
    other:=by omega
    toks:=fun j u hj=>by rw [Nat.zero_add,World.cell?_of_block (z g hgl)];exact hcell j u hj
    few:=by omega }
 have R:ZA W:=fun j v hj=>by
  rw [World.cell?_of_block ((z 1 (by omega)).trans (hb.block _ ag))];exact hl j v hj
 have af:=zg0 w2.heap.size g 0 cap B0 (w2.heap.size+1) B2 f _ _ (N::A) W res ad hE R (by omega) hp ((z _ V).trans b0) p1 ((z _ O).trans b2) (by omega) (by omega) hB2g (by omega)
 rw [←y];refine (xZ 47 #[.pointer (some ⟨B0,0,none⟩),.pointer (some ⟨w2.heap.size+1,0,none⟩),.pointer (some ⟨B2,0,none⟩)] w3 (fun w'=>ug w2.heap.size B2 W (yx res) (.returned (.tuple #[])) w') (fun T at0 w'=>T=6∧∃a:Nat,at0=(a:Int)∧yx res=.error a∧Y3 w2.heap.size B2 W w') (fun _=>rfl) ?_).mono ?_
 ·rw [←D]
  refine af.mono fun e w' o=>⟨(o.1.block _ (by omega) (by omega) (by omega)).trans pa,(o.1.block _ (by omega) (by omega) (by omega)).trans pb,?_,?_⟩
  ·unfold xp
   rw [World.cell?_of_block ((o.1.block 0 (by omega) (by omega) (by omega)).trans ((z 0 (by omega)).trans (hb.block _ ae)))];exact he
  ·have U:=o
   unfold ug at o
   cases H:yx res with
   | error a=>rw [H] at o;exact .inr ⟨6,a,o.2,rfl,a,rfl,rfl,o.1⟩
   | ok x=>rw [H] at o U;have:=o.2.1;subst this;exact .inl ⟨rfl,U⟩
 ·have Q:∀w',Y3 w2.heap.size B2 W w'→Y3 w2.heap.size B2 w2 w':=fun w' h=>⟨by rw [h.os,D,y];rfl,by rw [h.tape,D,y];rfl,by rw [h.output,D,y];rfl,by have:=h.size;omega,fun k hk hr hb'=>(h.block k (by omega) hr hb').trans (z k hk)⟩
  rintro e w' (⟨G,rfl,o,L,aa⟩ | ⟨T,at0,G,rfl,⟨rfl,a,rfl,H,hK⟩,L⟩)
  ·rw [J] at L
   refine ⟨G,L,Q _ o.1,?_⟩
   unfold ug at o
   cases H:yx res with
   | error a=>rw [H] at o;exact absurd o.2 (by simp [ZG])
   | ok x =>
    rw [H] at o;obtain ⟨-,-,X,Y,s2,d0,d1,Z,h1,h2⟩:=o;exact ⟨rfl,X,Y,s2,d0,d1,Z,h1,Yz.mono (Yz.kept h2 L.size fun k hk _=>aa k (by omega) (by omega)) (by omega)⟩
  ·rw [J] at L
   refine ⟨G,L,Q _ hK,?_⟩;rw [H]
theorem zi4 (l:List UInt8) (w:World) (ht:yH w) (hl:ZA w) (he:xp w) :
  Calls Tryz.prog 19 #[.string (zb l),.func (.func 20) #[] #[],.func (.func 21) #[] #[]] w fun e w' =>
   ∃(x:Pg) (at0 err:Nat) (v:Value),e=.returned (.tuple #[v,.int .i64 at0,.int .i64 err])∧yM l x at0 err∧Yz w.heap.size w' x v∧Below w.heap.size w w':=by
 obtain ⟨w1,I⟩:∃w1,w1=(((w.alloc (.cells #[.func (.func 20) #[] #[]] 53)).alloc Xq).alloc Xq).alloc Xq:=⟨_,rfl⟩;have aB:w1.heap.size=w.heap.size+1+1+1+1:=by rw [I];simp
 have ai:Below w.heap.size w w1:=by
  rw [I];exact ((((Below.refl w.heap.size w).alloc (Nat.le_refl _) _).alloc (by simp) _).alloc (by simp <;> omega) _).alloc (by simp <;> omega) _
 have m0:w1.heap[w.heap.size]?=some (.cells #[.func (.func 20) #[] #[]] 53 (0,0)):=by
  rw [I,Below.heap_alloc _ _ _ (by simp <;> omega),Below.heap_alloc _ _ _ (by simp <;> omega),Below.heap_alloc _ _ _ (by simp)];exact World.alloc_heap_new _ _
 have m1:w1.heap[w.heap.size+1]?=some Xq:=by
  rw [I,Below.heap_alloc _ _ _ (by simp <;> omega),Below.heap_alloc _ _ _ (by simp)]
  have:=World.alloc_heap_new (w.alloc (.cells #[.func (.func 20) #[] #[]] 53)) Xq
  simpa using this
 have m2:w1.heap[w.heap.size+1+1]?=some Xq:=by
  rw [I,Below.heap_alloc _ _ _ (by simp)]
  have:=World.alloc_heap_new ((w.alloc (.cells #[.func (.func 20) #[] #[]] 53)).alloc Xq) Xq
  simpa using this
 have m3:w1.heap[w.heap.size+1+1+1]?=some Xq:=by
  rw [I]
  have:=World.alloc_heap_new (((w.alloc (.cells #[.func (.func 20) #[] #[]] 53)).alloc Xq).alloc Xq) Xq
  simpa using this
 have cs:=zaJ l w1 (ht.below ai (Nat.le_refl _));have ax:Hid (w1=(((w.alloc (.cells #[.func (.func 20) #[] #[]] 53)).alloc Xq).alloc Xq).alloc Xq):=I;have am:Hid (Below w.heap.size w w1):=ai;have HL:Hid (ZA w):=hl;have HE:Hid (xp w):=he;have HM:Hid (w1.heap[w.heap.size]?=some (.cells #[.func (.func 20) #[] #[]] 53 (0,0))∧w1.heap[w.heap.size+1]?=some Xq∧w1.heap[w.heap.size+1+1]?=some Xq∧w1.heap[w.heap.size+1+1+1]?=some Xq):=⟨m0,m1,m2,m3⟩;clear I ai hl he m0 m1 m2 m3 ht
 go_enter Tryz.func19,Tryz.ntmps19
 go_wp2_with fail
 rw [←ax.out];refine cs.mono ?_;clear cs ax;rintro e w2 ⟨v,rfl,Z,aa⟩;have z:∀k,k<w1.heap.size→w2.heap[k]?=w1.heap[k]?:=fun k hk=>aa.block k hk
 have p0:=(z _ (by omega)).trans HM.out.1
 have p1:=(z _ (by omega)).trans HM.out.2.1
 have p2:=(z _ (by omega)).trans HM.out.2.2.1
 have p3:=(z _ (by omega)).trans HM.out.2.2.2
 have o:Below w.heap.size w w2:=am.out.trans (aa.mono (by omega))
 have ap:Hid (Below w.heap.size w w2):=o;obtain ⟨a0,a1,af⟩:=ZJ p1;obtain ⟨c0,c1,-⟩:=ZJ p2;have aF:=aa.size
 by_cases herr:(zW l).2.2≠0
 ·have HI:Hid (yM l xf (zW l).2.1 (zW l).2.2):=show yM _ _ _ _ by unfold yM;rw [if_pos herr];exact ⟨rfl,rfl,rfl⟩
  have ab:¬((zW l).2.2:Int)=0:=by omega
  generalize (zW l).2.1=A at *;generalize (zW l).2.2=E at *;have h1:((E:Int)==0)=false:=by rw [beq_eq_false_iff_ne];exact ab
  have h2:((E:Int) != 0)=true:=by simp [bne,h1]
  have h3:decide ((E:Int)=0)=false:=by rw [decide_eq_false_iff_not];exact ab
  have h4:(E==0)=false:=by rw [beq_eq_false_iff_ne];exact herr
  have h5:decide (E=0)=false:=by rw [decide_eq_false_iff_not];exact herr
  have h6:(E != 0)=true:=by simp [bne,h4]
  obtain ⟨z0,z1⟩:=xC p1 (.slice none 0 0) (.slice none 0 0)
  have au:Below w.heap.size w (X8 w2 (w.heap.size+1) (.slice none 0 0) (.slice none 0 0)) :=
   (o.setCell (p:=⟨w.heap.size+1,0,none⟩) (by simp) _).setCell (p:=⟨w.heap.size+1,1,none⟩) (by simp) _
  have N:Hid (Below w.heap.size w (X8 w2 (w.heap.size+1) (.slice none 0 0) (.slice none 0 0))):=au;clear au o aa Z z p0 p1 p2 p3 HM ap HL HE am;go_wp2
  refine bodyPost_ret (v:=.tuple #[.agg #[.slice none 0 0,.slice none 0 0],.int .i64 A,.int .i64 E]) (by simp [results,Tryz.results19,go_sem,z0,z1]) rfl ⟨xf,A,E,_,rfl,HI.out,zfq _ _,N.out⟩
 ·have ad:(zW l).2.2=0:=by simpa using herr
  have hE:=xB l ad;obtain ⟨t0,aE,av⟩:=hE.cons;obtain ⟨g,J,rfl,hg,ay,ar,ao,ae⟩:∃g J,v=.slice (some ⟨g,0,none⟩) (zW l).1.length J∧w1.heap.size≤g∧g<w2.heap.size∧(zW l).1.length≤J∧J≤maxLen∧∀j u,(ZD (zW l).1)[j]?=some u→w2.cell? ⟨g,j,none⟩=some u:=zdk Z (by rw [av];simp)
  have aq:=vD l;obtain ⟨f,res,hf,-⟩:=zcp (zW l).1.length (zW l).1 (Nat.le_refl _) hE [] [];have hp:Zp f [] [] (zW l).1=some res:=hf 0;have ca:=zfr (zW l).1 g J w.heap.size (w.heap.size+1+1+1) f w w2 res hE aq hp ay ar ao ae o HL.out HE.out (Nat.le_refl _) (by omega) (by omega) p0 p3
  have aD:∀(fn:Fn) (first J:Array Value) (w:World),(Instr.makeFunc fn first J).run Tryz.prog w=.ok (.func fn first J) w:=fun _ _ _ _=>rfl
  have ah:∀x us,res=.ok (x,us)→depthFs x.funs≤4097:=fun x us h=>by
   subst h
   have:=Vo (zW l).1.length f [] [] _ us x hp hE (by simp [depthFs])
   omega
  have HI:Hid (∀x at0 err,(match yx res with | .error a=>x=xf∧at0=a∧err=6 | .ok y=>if 24<depthFs y.funs then x=xf∧at0=0∧err=7 else x=y∧at0=0∧err=0)→yM l x at0 err):=fun x at0 err h=>by
   unfold yM
   rw [if_neg herr];exact ⟨f,res,hp,h⟩
  have Q:Hid (∀k,k≤w.heap.size+1+1→∀Y G,Below (w2.heap.size+1+1) Y G→Y3 w2.heap.size (w.heap.size+1+1+1) w2 Y→G.heap[k]?=w2.heap[k]?):=fun k hk Y G h5 h6 =>
   (h5.block k (by omega)).trans (h6.block k (by omega) (by omega) (by omega))
  have an:Hid (∀Y G,Below (w2.heap.size+1+1) Y G→Y3 w2.heap.size (w.heap.size+1+1+1) w2 Y→Below w.heap.size w G):=fun Y G h5 h6 =>
   ⟨h5.os.trans (h6.os.trans o.os),h5.tape.trans (h6.tape.trans o.tape),h5.output.trans (h6.output.trans o.output),by have:=h5.size;have:=h6.size;have:=o.size;omega,fun k hk=>(h5.block k (by omega)).trans ((h6.block k (by omega) (by omega) (by omega)).trans (o.block k hk))⟩
  have ag:Hid (w2.heap[w.heap.size+1]?=some Xq∧w2.heap[w.heap.size+1+1]?=some Xq):=⟨p1,p2⟩;rw [ad];generalize (zW l).2.1=A at *;clear o aa Z z p0 p1 p2 p3 HM ap HL HE am ae hp hf hE av a0 a1 af c0 c1;go_wp2_with fail
  refine ca.mono ?_;clear ca;rintro e G ⟨Y,O,X,H⟩;have q1:=(Q.out (w.heap.size+1) (by omega) Y G O X).trans ag.out.1
  have q2:=(Q.out (w.heap.size+1+1) (by omega) Y G O X).trans ag.out.2
  have U:=an.out Y G O X;obtain ⟨a0,a1,af⟩:=ZJ q1;obtain ⟨c0,c1,-⟩:=ZJ q2
  have T:∀W,Below w.heap.size w W→∀v0 v1,Below w.heap.size w (X8 W (w.heap.size+1) v0 v1):=fun W hW v0 v1 =>
   (hW.setCell (p:=⟨w.heap.size+1,0,none⟩) (by simp) _).setCell (p:=⟨w.heap.size+1,1,none⟩) (by simp) _
  cases hR:yx res with
  | error a =>
   rw [hR] at H;obtain rfl:=H;have V:Hid (yM l xf a 6):=HI.out xf a 6 (by rw [hR];exact ⟨rfl,rfl,rfl⟩)
   obtain ⟨z0,z1⟩:=xC q1 (.slice none 0 0) (.slice none 0 0);have N:Hid (Below w.heap.size w (X8 G (w.heap.size+1) (.slice none 0 0) (.slice none 0 0))):=T G U _ _;clear T U q1 q2 O X HI Q an ag;go_wp2
   refine bodyPost_ret (v:=.tuple #[.agg #[.slice none 0 0,.slice none 0 0],.int .i64 a,.int .i64 6]) (by simp [results,Tryz.results19,go_sem,z0,z1]) rfl ⟨xf,a,6,_,rfl,V.out,zfq _ _,N.out⟩
  | ok x =>
   rw [hR] at H;obtain ⟨rfl,y0,y1,y2,x0,x1,x2,aw,hx⟩:=H
   have aA:depthFs x.funs≤4097:=by
    rcases res with a | ⟨y,us⟩
    ·cases hR
    ·unfold yx at hR
     simp only at hR
     split at hR
     ·cases hR;exact ah _ us rfl
     ·cases hR
   have aC:=O.size;have aG:=X.size;have qx:=(O.block (w.heap.size+1+1+1) (by omega)).trans aw
   obtain ⟨e0,e1,-⟩:=ZJ qx;have cd:=ud (fun k=>w2.heap.size+1+1≤k) G x _ hx (by omega)
   have HX:Hid (Yz (w2.heap.size+1+1) G x (.agg #[.slice y0 y1 y2,.slice x0 x1 x2])):=hx;have HQ:Hid (G.heap[w.heap.size+1]?=some Xq∧G.heap[w.heap.size+1+1]?=some Xq∧G.heap[w.heap.size+1+1+1]?=some (.cells #[.slice y0 y1 y2,.slice x0 x1 x2] 25 (0,0))):=⟨q1,q2,qx⟩;have aj:Hid (Below w.heap.size w G):=U;have HS:Hid (∀W,Below w.heap.size w W→∀v0 v1,Below w.heap.size w (X8 W (w.heap.size+1) v0 v1)):=T;have V:Hid (∀y at0 err,(if 24<depthFs x.funs then y=xf∧at0=0∧err=7 else y=x∧at0=0∧err=0)→yM l y at0 err):=fun y at0 err h=>HI.out y at0 err (by rw [hR];exact h)
   generalize hD:depthFs x.funs=D at *;clear T U q1 q2 qx O X HI Q an ag hx aw ah;go_wp2_with fail
   refine cd.mono ?_;clear cd a0 a1 af c0 c1 e0 e1;rintro e w7 ⟨rfl,L⟩;have r1:=(L.block _ (by omega)).trans HQ.out.1
   have r2:=(L.block _ (by omega)).trans HQ.out.2.1
   have r3:=(L.block _ (by omega)).trans HQ.out.2.2
   have R:Below w.heap.size w w7:=aj.out.trans (L.mono (by omega))
   have al:Yz (w2.heap.size+1+1) w7 x (.agg #[.slice y0 y1 y2,.slice x0 x1 x2]):=Yz.kept HX.out L.size fun k _ hlt=>L.block k hlt
   obtain ⟨a0,a1,af⟩:=ZJ r1
   by_cases hdeep:24<D
   ·obtain ⟨c0,c1,-⟩:=ZJ r2
    obtain ⟨z0,z1⟩:=xC r1 (.slice none 0 0) (.slice none 0 0);have ak:Hid (yM l xf 0 7):=V.out xf 0 7 (by rw [if_pos hdeep];exact ⟨rfl,rfl,rfl⟩)
    have N:Hid (Below w.heap.size w (X8 w7 (w.heap.size+1) (.slice none 0 0) (.slice none 0 0))):=HS.out w7 R _ _;have h1:(24:Int)<(D:Int):=by omega
    clear R al r1 r2 r3 L HQ HX aj HS V;go_wp2
    refine bodyPost_ret (v:=.tuple #[.agg #[.slice none 0 0,.slice none 0 0],.int .i64 0,.int .i64 7]) (by simp [results,Tryz.results19,go_sem,z0,z1]) rfl ⟨xf,0,7,_,rfl,ak.out,zfq _ _,N.out⟩
   ·obtain ⟨c0,c1,-⟩:=ZJ r3
    obtain ⟨z0,z1⟩:=xC r1 (.slice y0 y1 y2) (.slice x0 x1 x2);have ak:Hid (yM l x 0 0):=V.out x 0 0 (by rw [if_neg hdeep];exact ⟨rfl,rfl,rfl⟩)
    have N:Hid (Below w.heap.size w (X8 w7 (w.heap.size+1) (.slice y0 y1 y2) (.slice x0 x1 x2))):=HS.out w7 R _ _;have az:Hid (Yz w.heap.size (X8 w7 (w.heap.size+1) (.slice y0 y1 y2) (.slice x0 x1 x2)) x (.agg #[.slice y0 y1 y2,.slice x0 x1 x2])):=Yz.mono (Yz.kept al (w':=X8 w7 (w.heap.size+1) (.slice y0 y1 y2) (.slice x0 x1 x2)) (by simp) fun k hk _=>uf _ _ _ _ (by omega)) (by omega)
    have h1:¬(24:Int)<(D:Int):=by omega
    clear R al r1 r2 r3 L HQ HX aj HS V;go_wp2
    refine bodyPost_ret (v:=.tuple #[.agg #[.slice y0 y1 y2,.slice x0 x1 x2],.int .i64 0,.int .i64 0]) (by simp [results,Tryz.results19,go_sem,z0,z1]) rfl ⟨x,0,0,_,rfl,ak.out,az.out,N.out⟩
theorem zcx (l:List UInt8) (w:World) (ht:yH w) (hl:ZA w) (he:xp w) :
  Calls Tryz.prog 6 #[.string (zb l)] w fun e w' =>
   ∃(x:Pg) (at0 h:Nat) (v:Value),e=.returned (.tuple #[v,.int .i64 at0,.int .i64 h])∧yM l x at0 h∧Yz w.heap.size w' x v∧Below w.heap.size w w':=by
 have L:Below w.heap.size w (w.alloc Xq):=(Below.refl w.heap.size w).alloc (Nat.le_refl _) _;have Q:=zi4 l (w.alloc Xq) (ht.below L (Nat.le_refl _)) (fun j v hj=>zl (hl j v hj) _) (zl he _)
 go_enter Tryz.func6,Tryz.ntmps6
 go_wp2_with fail
 refine Q.mono ?_;clear Q;rintro e w1 ⟨x,at0,h,v,rfl,R,J,o⟩;obtain ⟨y,G,z,A,D,H,rfl⟩:=J.agg;have N:(w.alloc Xq).heap.size=w.heap.size+1:=by simp
 rw [N] at J o;have O:w1.heap[w.heap.size]?=some Xq:=(o.block w.heap.size (by omega)).trans (World.alloc_heap_new w _)
 obtain ⟨Y,Z,qf⟩:=ZJ O;obtain ⟨U,V⟩:=xC O (.slice y G z) (.slice A D H);have I:Below w.heap.size w w1:=L.trans (o.mono (by omega))
 have X:Hid (Below w.heap.size w (X8 w1 w.heap.size (.slice y G z) (.slice A D H))) :=
  (I.setCell (p:=⟨w.heap.size,0,none⟩) (by simp) _).setCell (p:=⟨w.heap.size,1,none⟩) (by simp) _
 have W:Hid (Yz w.heap.size (X8 w1 w.heap.size (.slice y G z) (.slice A D H)) x (.agg #[.slice y G z,.slice A D H])) :=
  Yz.mono (Yz.kept J (w':=X8 w1 w.heap.size (.slice y G z) (.slice A D H)) (by simp) fun j hj _=>uf _ _ _ _ (by omega)) (by omega)
 have T:Hid (yM l x at0 h):=R;clear L I J o R O ht hl he;go_wp2
 exact bodyPost_ret (v:=.tuple #[.agg #[.slice y G z,.slice A D H],.int .i64 at0,.int .i64 h]) (by simp [results,Tryz.results6,go_sem,U,V]) rfl ⟨x,at0,h,_,rfl,T.out,W.out,X.out⟩
theorem zfs (l:List UInt8) (w:World) (ht:yH w) (hl:ZA w) (he:xp w) :
  Calls Tryz.prog 17 #[.string (zb l)] w fun e w' =>
   ∃(x:Ex) (at0 h:Nat) (v:Value),e=.returned (.tuple #[v,.int .i64 at0,.int .i64 h])∧yK l x at0 h∧ZI w.heap.size w' x v∧Below w.heap.size w w':=by
 have H:Below w.heap.size w (w.alloc Zz):=(Below.refl w.heap.size w).alloc (Nat.le_refl _) _;have L:=zi3 l (w.alloc Zz) (ht.below H (Nat.le_refl _)) (fun j v hj=>zl (hl j v hj) _) (zl he _)
 go_enter Tryz.func17,Tryz.ntmps17
 go_wp2_with fail
 refine L.mono ?_;clear L;rintro e w1 ⟨x,at0,h,v,rfl,N,G,o⟩;obtain ⟨a,b,c,y,z,A,k,rfl⟩:=G.agg;have I:(w.alloc Zz).heap.size=w.heap.size+1:=by simp
 rw [I] at G o;have J:w1.heap[w.heap.size]?=some Zz:=(o.block w.heap.size (by omega)).trans (World.alloc_heap_new w _)
 obtain ⟨Y,Z,q2,q3,q4,qf⟩:=zU J;obtain ⟨Q,T,W,U,R⟩:=zY J (.int .i64 a) (.string b) (.int .i64 c) (.slice y z A) (.int .i64 k);have D:Below w.heap.size w w1:=H.trans (o.mono (by omega))
 have X:Hid (Below w.heap.size w (set5 w1 w.heap.size (.int .i64 a) (.string b) (.int .i64 c) (.slice y z A) (.int .i64 k))) :=
  ((((D.setCell (p:=⟨w.heap.size,0,none⟩) (by simp) _).setCell (p:=⟨w.heap.size,1,none⟩) (by simp) _).setCell (p:=⟨w.heap.size,2,none⟩) (by simp) _).setCell (p:=⟨w.heap.size,3,none⟩) (by simp) _).setCell (p:=⟨w.heap.size,4,none⟩) (by simp) _
 have V:Hid (ZI w.heap.size (set5 w1 w.heap.size (.int .i64 a) (.string b) (.int .i64 c) (.slice y z A) (.int .i64 k)) x (.agg #[.int .i64 a,.string b,.int .i64 c,.slice y z A,.int .i64 k])) :=
  ZI.mono (ZI.kept G (w':=set5 w1 w.heap.size (.int .i64 a) (.string b) (.int .i64 c) (.slice y z A) (.int .i64 k)) (by simp) fun j hj _=>zr _ _ _ _ _ _ _ (by omega)) (by omega)
 have O:Hid (yK l x at0 h):=N;clear H D G o N J ht hl he;go_wp2
 exact bodyPost_ret (v:=.tuple #[.agg #[.int .i64 a,.string b,.int .i64 c,.slice y z A,.int .i64 k],.int .i64 at0,.int .i64 h]) (by simp [results,Tryz.results17,go_sem,Q,T,W,U,R]) rfl ⟨x,at0,h,_,rfl,O.out,V.out,X.out⟩
mutual
def XO:Ex→Ez
 | .mk k s n kids line=>.mk k s n (yC kids) line
def yC:List Ex→List Ez
 | []=>[]
 | x::xs=>XO x::yC xs
end
theorem UT (l:List Ex):yC l=l.map XO:=by
 induction l with
 | nil=>rfl
 | cons x xs ih=>rw [yC,ih];rfl
mutual
def VB:Ex→Bool
 | .mk _ s n kids _=>decide (s.length≤100000000)&&decide (-9223372036854775808≤n)&&decide (n≤9223372036854775807)&&UU kids
def UU:List Ex→Bool
 | []=>true
 | x::xs=>VB x&&UU xs
end
theorem zdl {l:List Ex} (h:UU l=true):∀{i:Nat} {x:Ex},l[i]?=some x→VB x=true:=by
 induction l with
 | nil=>intro i x o;simp at o
 | cons y ys ih =>
  intro i x o;rw [UU,Bool.and_eq_true] at h;cases i with
  | zero=>simp only [List.getElem?_cons_zero,Option.some.injEq] at o;subst o;exact h.1
  | succ i=>exact ih h.2 (by simpa using o)
theorem zX.ez {S:Nat→Prop} {B:Nat} {w:World} {x:Ex} {v:Value} (h:zX S w x v) (hS:∀k,S k→k<w.heap.size→k<B) (hok:VB x=true):Zl B w (XO x) v:=by
 induction h with
 | leaf k s n line =>
  rw [VB] at hok;simp only [Bool.and_eq_true,decide_eq_true_eq] at hok;exact Zl.mk (k:Int) s n [] (line:Int) none 0 0 0 [] hok.1.1.1 hok.1.1.2 hok.1.2 (fun h=>absurd rfl h) rfl (Nat.le_refl _) (Nat.zero_le _) (fun j u hj=>by simp at hj) (fun c hc=>by simp at hc) (fun j x c hx=>by simp at hx)
 | node k s n kids line g cap us hne hlen hB hg hc hm hcell hfive _ ih =>
  rw [VB] at hok;simp only [Bool.and_eq_true,decide_eq_true_eq] at hok;have e:(yC kids).length=kids.length:=by rw [UT,List.length_map]
  have:=Zl.mk (B:=B) (w:=w) (k:Int) s n (yC kids) (line:Int) (some ⟨g,0,none⟩) cap g 0 us hok.1.1.1 hok.1.1.2 hok.1.2 (fun _=>⟨rfl,hS g hB hg,hg⟩) (by rw [e];exact hlen) (by rw [e];exact hc) hm (fun j u hj=>by rw [Nat.zero_add];exact hcell j u hj) hfive (fun j x c hx hc'=>by
   rw [UT,List.getElem?_map] at hx;cases hy:kids[j]? with
   | none=>rw [hy] at hx;simp at hx
   | some y =>
    rw [hy] at hx;simp only [Option.map_some,Option.some.injEq] at hx;subst hx
    exact ih j y c hy hc' (zdl hok.2 hy))
  rw [e] at this;exact this
mutual
def uP:St→Sz
 | .mk k s es body els line=>.mk k s (yC es) (yY body) (yY els) line
def yY:List St→List Sz
 | []=>[]
 | x::xs=>uP x::yY xs
end
theorem zbm (l:List St):yY l=l.map uP:=by
 induction l with
 | nil=>rfl
 | cons x xs ih=>rw [yY,ih];rfl
mutual
def okS:St→Bool
 | .mk _ s es body els _=>decide (s.length≤100000000)&&UU es&&vK body&&vK els
def vK:List St→Bool
 | []=>true
 | x::xs=>okS x&&vK xs
end
theorem UV {l:List St} (h:vK l=true):∀{i:Nat} {x:St},l[i]?=some x→okS x=true:=by
 induction l with
 | nil=>intro i x o;simp at o
 | cons y ys ih =>
  intro i x o;rw [vK,Bool.and_eq_true] at h;cases i with
  | zero=>simp only [List.getElem?_cons_zero,Option.some.injEq] at o;subst o;exact h.1
  | succ i=>exact ih h.2 (by simpa using o)
mutual
def hiS:St→Nat
 | .mk _ _ _ body els _=>1+max (u7 body) (u7 els)
def u7:List St→Nat
 | []=>0
 | x::xs=>max (hiS x) (u7 xs)
end
theorem UW {l:List St}:∀{i:Nat} {x:St},l[i]?=some x→hiS x≤u7 l:=by
 induction l with
 | nil=>intro i x h;simp at h
 | cons y ys ih =>
  intro i x h;rw [u7];cases i with
  | zero=>simp only [List.getElem?_cons_zero,Option.some.injEq] at h;subst h;omega
  | succ i=>have:=ih (i:=i) (x:=x) (by simpa using h);omega
theorem Q9 {α β:Type} {P:β→List Value→Prop} {f:α→β} {sz B g cap:Nat} {w:World} {l:List α} {us:List (List Value)} (hlen:us.length=l.length) (hB:g<B) (hg:g<w.heap.size) (hc:l.length≤cap) (hm:cap≤maxLen) (hcell:∀j u,us.flatten[j]?=some u→w.cell? ⟨g,j,none⟩=some u) (hw:∀c∈us,c.length=sz)
  (hk:∀(j:Nat) (x:α) (c:List Value),l[j]?=some x→us[j]?=some c→P (f x) c):Zj P sz B w (l.map f) (some ⟨g,0,none⟩) l.length cap:=by
 refine ⟨by rw [List.length_map],by rw [List.length_map];exact hc,hm,fun i x hx=>?_⟩
 rw [List.getElem?_map] at hx;cases hy:l[i]? with
 | none=>rw [hy] at hx;simp at hx
 | some y =>
  rw [hy] at hx;simp only [Option.map_some,Option.some.injEq] at hx;subst hx;have A:i<l.length:=(List.getElem?_eq_some_iff.1 hy).1;obtain ⟨c,h⟩:∃c,us[i]?=some c:=⟨us[i]'(by omega),List.getElem?_eq_getElem (by omega)⟩
  have o:c.length=sz:=hw c (List.mem_of_getElem? h);refine ⟨g,0,c,rfl,hB,hg,o,hk i y c hy h,fun j u hj=>?_⟩
  have z:j<sz:=by rw [←o];exact (List.getElem?_eq_some_iff.1 hj).1
  rw [Nat.zero_add];exact hcell _ _ ((zhF hw h z).trans hj)
theorem UX {α β:Type} {P:β→List Value→Prop} {f:α→β} {sz B:Nat} {w:World}:Zj P sz B w (([]:List α).map f) none 0 0:=⟨rfl,Nat.le_refl _,Nat.zero_le _,fun i x hx=>by simp at hx⟩
theorem zK.rowZ {S:Nat→Prop} {B:Nat} {w:World} {l:List Ex} {v:Value} (h:zK S w l v) (hS:∀k,S k→k<w.heap.size→k<B) (hok:UU l=true):∃b m cap,v=.slice b m cap∧Zj (qN B w) 5 B w (yC l) b m cap:=by
 rw [UT];rcases h with ⟨rfl,rfl⟩ | ⟨g,cap,J,rfl,_,y,G,z,A,H,o,D,I⟩
 ·exact ⟨none,0,0,rfl,UX⟩
 ·exact ⟨_,_,_,rfl,Q9 y (hS g G z) z A H o D fun j x c hx hc'=>zX.ez (I j x c hx hc') hS (zdl hok hx)⟩
theorem xP.rowZ {S:Nat→Prop} {B f:Nat} {w:World} {l:List St} {v:Value} {g cap:Nat} {us:List (List Value)} (h:xP S w l v g cap us) (hS:∀k,S k→k<w.heap.size→k<B)
  (hk:∀(j:Nat) (x:St) (c:List Value),l[j]?=some x→us[j]?=some c→ZE B w f (uP x) c):∃b m cap,v=.slice b m cap∧Zj (ZE B w f) 6 B w (yY l) b m cap:=by
 rw [zbm];rcases h with ⟨rfl,rfl⟩ | ⟨rfl,_,y,G,z,A,H,o,D⟩
 ·exact ⟨none,0,0,rfl,UX⟩
 ·exact ⟨_,_,_,rfl,Q9 y (hS g G z) z A H o D hk⟩
theorem yo.sz {S:Nat→Prop} {B:Nat} {w:World} {x:St} {v:Value} (h:yo S w x v) (hS:∀k,S k→k<w.heap.size→k<B):∀(f:Nat) (c:List Value),hiS x≤f→okS x=true→v=.agg c.toArray→ZE B w f (uP x) c:=by
 induction h with
 | mk k s es body els line ve vb vl gb cb gl cl ub ul he hbr hbk hl hlk ih1 ih2 =>
  intro f c T o O;rw [hiS] at T;rw [okS] at o;simp only [Bool.and_eq_true,decide_eq_true_eq] at o;obtain ⟨f,rfl⟩:∃f',f=f'+1:=⟨f-1,by omega⟩
  obtain ⟨G,I,J,rfl,N⟩:=he.rowZ hS o.1.1.2;obtain ⟨H,L,z,rfl,R⟩:=hbr.rowZ (f:=f) hS fun j x c hx hc=>ih1 j x c hx hc f c (by have:=UW hx;omega) (UV o.1.2 hx) rfl
  obtain ⟨bl,D,y,rfl,Q⟩:=hl.rowZ (f:=f) hS fun j x c hx hc=>ih2 j x c hx hc f c (by have:=UW hx;omega) (UV o.2 hx) rfl
  have A:c=[.int .i64 k,.string (zb s),.slice G I J,.slice H L z,.slice bl D y,.int .i64 line]:=by
   have:=congrArg (fun v=>match v with | .agg a=>a.toList | _=>[]) O
   simpa using this.symm
  exact ⟨G,I,J,H,L,z,bl,D,y,A,o.1.1.1,N,R,Q⟩
def rcz (x:Rc):Rz:=⟨x.name,x.fields,x.line⟩
def fcz (x:Fc):Fz:=⟨x.name,x.params,x.result,yY x.body,x.line⟩
def pgz (x:Pg):Pz:=⟨x.recs.map rcz,x.funs.map fcz⟩
def zaa (l:List Pm):Bool:=l.all fun p=>decide (p.1.length≤100000000)&&decide (p.2.length≤100000000)
def zfu (x:Rc):Bool:=decide (x.name.length≤100000000)&&zaa x.fields
def zfv (x:Fc):Bool:=decide (x.name.length≤100000000)&&decide (x.result.length≤100000000)&&zaa x.params&&vK x.body
def zcy (x:Pg):Bool:=x.recs.all zfu&&x.funs.all zfv
def zbn (x:Pg):Nat:=(x.funs.map fun y=>u7 y.body).foldr max 0
theorem zfw {l:List Fc} {y:Fc} (h:y∈l):u7 y.body≤(l.map fun y=>u7 y.body).foldr max 0:=by
 induction l with
 | nil=>simp at h
 | cons z zs ih =>
  rw [List.map_cons,List.foldr_cons];rcases List.mem_cons.1 h with rfl | h
  ·omega
  ·have:=ih h;omega
theorem XM.rowZ {α β:Type} {E:(Nat→Prop)→World→α→List Value→Prop} {P:β→List Value→Prop} {f:α→β} {sz:Nat} {S:Nat→Prop} {B:Nat} {w:World} {l:List α} {v:Value} (h:XM E sz S w l v) (hS:∀k,S k→k<w.heap.size→k<B)
  (hk:∀(x:α) (c:List Value),x∈l→E S w x c→P (f x) c):∃b m cap,v=.slice b m cap∧Zj P sz B w (l.map f) b m cap:=by
 rcases h with ⟨rfl,rfl⟩ | ⟨g,cap,J,rfl,_,y,H,A,D,I,o,G,z⟩
 ·exact ⟨none,0,0,rfl,UX⟩
 ·exact ⟨_,_,_,rfl,Q9 y (hS g H A) A D I o G fun j x c hx hc'=>hk x c (List.mem_of_getElem? hx) (z j x c hx hc')⟩
theorem UL.rowZ {S:Nat→Prop} {B:Nat} {w:World} {l:List Pm} {v:Value} (h:UL S w l v) (hS:∀k,S k→k<w.heap.size→k<B) (hok:zaa l=true):∃b m cap,v=.slice b m cap∧Zj PmZ 2 B w l b m cap:=by
 have:=XM.rowZ (P:=PmZ) (f:=fun x:Pm=>(x:List UInt8 × List UInt8)) h hS fun x c hx hc=>by
  have o:=List.all_eq_true.1 hok x hx;simp only [Bool.and_eq_true,decide_eq_true_eq] at o;exact ⟨hc,o.1,o.2⟩
 simpa using this
theorem Xl.pz {S:Nat→Prop} {B:Nat} {w:World} {x:Pg} {v:Value} (h:Xl S w x v) (hS:∀k,S k→k<w.heap.size→k<B) (hok:zcy x=true):Xn B w (zbn x) (pgz x) v:=by
 obtain ⟨Y,X,rfl,O,T⟩:=h
 unfold zcy at hok
 rw [Bool.and_eq_true] at hok
 obtain ⟨b,m,A,rfl,L⟩:=O.rowZ (P:=xD B w) (f:=rcz) hS fun x c hx hc=>by
  have D:=List.all_eq_true.1 hok.1 x hx
  unfold zfu at D
  simp only [Bool.and_eq_true,decide_eq_true_eq] at D;obtain ⟨Q,rfl,J⟩:=hc;obtain ⟨b,m,A,rfl,G⟩:=UL.rowZ J hS D.2;exact ⟨b,m,A,rfl,D.1,G⟩
 obtain ⟨I,H,o,rfl,V⟩:=T.rowZ (P:=xE B w (zbn x)) (f:=fcz) hS fun y c hx hc=>by
  have D:=List.all_eq_true.1 hok.2 y hx
  unfold zfv at D
  simp only [Bool.and_eq_true,decide_eq_true_eq] at D;obtain ⟨Q,vb,rfl,J,U⟩:=hc;obtain ⟨b,m,A,rfl,G⟩:=UL.rowZ J hS D.1.2;obtain ⟨g,Z,W,L,R⟩:=U;obtain ⟨I,H,o,rfl,N⟩:=L.rowZ (f:=zbn x) hS fun j z c hz hc=>yo.sz (R j z c hz hc) hS (zbn x) c (by have:=UW hz;have:=zfw hx;unfold zbn;omega) (UV D.2 hz) rfl
  exact ⟨b,m,A,I,H,o,rfl,D.1.1.1,D.1.1.2,G,N⟩
 exact ⟨b,m,A,I,H,o,rfl,L,V⟩
theorem Zj.more {α:Type} {P P':α→List Value→Prop} {sz B:Nat} {w:World} {l:List α} {base:Option Addr} {m cap:Nat} (h:Zj P sz B w l base m cap) (hP:∀x c,P x c→P' x c):Zj P' sz B w l base m cap:=h.wide (Nat.le_refl _) hP
theorem ZE.more {B:Nat} {w:World}:∀(f g:Nat) (x:Sz) (c:List Value),f≤g→ZE B w f x c→ZE B w g x c
 | 0,_,_,_,_,h=>h.elim
 | f+1,0,_,_,hg,_=>absurd hg (by omega)
 | f+1,g+1,.mk k s es body els line,c,hg,h=>by
  obtain ⟨G,O,z,H,A,L,bl,D,J,e,I,N,y,o⟩:=h;exact ⟨G,O,z,H,A,L,bl,D,J,e,I,N,y.more fun x c h=>ZE.more f g x c (by omega) h,o.more fun x c h=>ZE.more f g x c (by omega) h⟩
theorem Xn.more {B:Nat} {w:World} {f g:Nat} {x:Pz} {v:Value} (hg:f≤g) (h:Xn B w f x v):Xn B w g x v:=by
 obtain ⟨b,m,y,A,z,o,e,D,I⟩:=h;refine ⟨b,m,y,A,z,o,e,D,I.more fun x c hx=>?_⟩
 obtain ⟨b,m,y,A,z,o,e,H,L,J,G⟩:=hx;exact ⟨b,m,y,A,z,o,e,H,L,J,G.more fun x c h=>ZE.more f g x c hg h⟩
end Go.Proofs.YtcphojjpapgblaaGreatDoor
