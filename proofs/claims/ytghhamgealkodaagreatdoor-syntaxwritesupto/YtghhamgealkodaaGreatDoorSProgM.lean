import Derived.Test.YtghhamgealkodaaGreatDoorSFunc
namespace Go.Proofs.YtghhamgealkodaaGreatDoor
open Go.RowKit Go.Shelf
def RowG {α:Type} (E:(Nat→Prop)→World→α→List Value→Prop) (sz:Nat) (S:Nat→Prop) (w:World) (l:List α) (v:Value):Prop :=
 (l=[]∧v=.slice none 0 0)∨∃(g cap:Nat) (us:List (List Value)),v=.slice (some ⟨g,0,none⟩) l.length cap∧l≠[]∧us.length=l.length∧S g∧g<w.heap.size∧l.length≤cap∧cap≤maxLen∧(∀j u,us.flatten[j]?=some u→w.cell? ⟨g,j,none⟩=some u)∧(∀c∈us,c.length=sz)∧∀(j:Nat) (x:α) (c:List Value),l[j]?=some x→us[j]?=some c→E S w x c
theorem RowG.kept {α:Type} {E:(Nat→Prop)→World→α→List Value→Prop} (L:ElemLaw E) {sz:Nat} {S:Nat→Prop} {w w':World} {l:List α} {v:Value} (h:RowG E sz S w l v) (hs:w.heap.size≤w'.heap.size) (hb:∀k,S k→k<w.heap.size→w'.heap[k]?=w.heap[k]?):RowG E sz S w' l v:=by
 rcases h with h | ⟨g,cap,us,h1,h2,h3,h4,h5,h6,h7,h8,h9,h10⟩
 ·exact .inl h
 ·exact .inr ⟨g,cap,us,h1,h2,h3,h4,Nat.lt_of_lt_of_le h5 hs,h6,h7,fun j u hj=>by rw [World.cell?_of_block (hb g h4 h5)];exact h8 j u hj,h9,fun j x c hx hc=>L.kept (h10 j x c hx hc) hs hb⟩
theorem RowG.wide {α:Type} {E:(Nat→Prop)→World→α→List Value→Prop} (L:ElemLaw E) {sz:Nat} {S S':Nat→Prop} {w:World} {l:List α} {v:Value} (h:RowG E sz S w l v) (hS:∀k,S k→S' k):RowG E sz S' w l v:=by
 rcases h with h | ⟨g,cap,us,h1,h2,h3,h4,h5,h6,h7,h8,h9,h10⟩
 ·exact .inl h
 ·exact .inr ⟨g,cap,us,h1,h2,h3,hS _ h4,h5,h6,h7,h8,h9,fun j x c hx hc=>L.wide (h10 j x c hx hc) hS⟩
theorem RowG.low {α:Type} {E:(Nat→Prop)→World→α→List Value→Prop} (L:ElemLaw E) {sz:Nat} {S:Nat→Prop} {w:World} {l:List α} {v:Value} (h:RowG E sz S w l v):RowG E sz (fun k=>S k∧k<w.heap.size) w l v:=by
 rcases h with h | ⟨g,cap,us,h1,h2,h3,h4,h5,h6,h7,h8,h9,h10⟩
 ·exact .inl h
 ·exact .inr ⟨g,cap,us,h1,h2,h3,⟨h4,h5⟩,h5,h6,h7,h8,h9,fun j x c hx hc=>L.low (h10 j x c hx hc)⟩
theorem RowG.slice {α:Type} {E:(Nat→Prop)→World→α→List Value→Prop} {sz:Nat} {S:Nat→Prop} {w:World} {l:List α} {v:Value} (h:RowG E sz S w l v):∃b c,v=.slice b l.length c:=by
 rcases h with ⟨rfl,rfl⟩ | ⟨g,cap,us,h1,_⟩
 ·exact ⟨none,0,rfl⟩
 ·exact ⟨_,_,h1⟩
theorem RowO.toG {α:Type} {E:(Nat→Prop)→World→α→List Value→Prop} (L:ElemLaw E) {sz ty B:Nat} {w:World} {l:List α} {v:Value} (h:RowO E sz ty B w l v):RowG E sz (fun k=>B≤k) w l v:=by
 rcases h with h | ⟨g,cap,us,h⟩
 ·exact .inl h
 ·have hb:=h.block
  refine .inr ⟨g,cap,us,h.val,h.ne,h.len,hb.1,hb.2.1,hb.2.2.1,hb.2.2.2,fun j u hj=>?_,h.wid,fun j x c hx hc=>L.wide (h.kids j x c hx hc) fun k hk=>hk.1⟩
  have hx:=h.own.cells (g:=g) (by rw [h.val];rfl) j u hj
  by_cases h0:j=0
  ·subst h0;simpa [Addr.add] using hx
  ·simpa [Addr.add,h0] using hx
abbrev ParIn (S:Nat→Prop) (w:World) (l:List Pm) (v:Value):Prop:=RowG PmE 2 S w l v
theorem ParAt.toG {B:Nat} {w:World} {l:List Pm} {v:Value} (h:ParAt B w l v):ParIn (fun k=>B≤k) w l v:=RowO.toG pmE_law h
theorem StsIn.lower {S:Nat→Prop} {w:World} {l:List St} {v:Value} (h:StsIn S w l v):StsIn (fun k=>S k∧k<w.heap.size) w l v:=by
 obtain ⟨g,cap,us,h1,h2⟩:=h
 exact ⟨g,cap,us,h1.low,fun j x c hx hc=>(h2 j x c hx hc).low⟩
def RcE (S:Nat→Prop) (w:World) (x:Rc) (c:List Value):Prop:=∃vp,c=[.string (strB x.name),vp,.int .i64 (x.line:Int)]∧ParIn S w x.fields vp
theorem rcE_law:ElemLaw RcE:=⟨fun ⟨vp,h1,h2⟩ hs hb=>⟨vp,h1,h2.kept pmE_law hs hb⟩,fun ⟨vp,h1,h2⟩ hS=>⟨vp,h1,h2.wide pmE_law hS⟩,fun ⟨vp,h1,h2⟩=>⟨vp,h1,h2.low pmE_law⟩⟩
def FcE (S:Nat→Prop) (w:World) (x:Fc) (c:List Value):Prop:=∃vp vb,c=[.string (strB x.name),vp,.string (strB x.result),vb,.int .i64 (x.line:Int)]∧ParIn S w x.params vp∧StsIn S w x.body vb
theorem fcE_law:ElemLaw FcE:=⟨fun ⟨vp,vb,h1,h2,h3⟩ hs hb=>⟨vp,vb,h1,h2.kept pmE_law hs hb,h3.kept hs hb⟩,fun ⟨vp,vb,h1,h2,h3⟩ hS=>⟨vp,vb,h1,h2.wide pmE_law hS,h3.wide hS⟩,fun ⟨vp,vb,h1,h2,h3⟩=>⟨vp,vb,h1,h2.low pmE_law,h3.lower⟩⟩
def EX {α:Type} (E:(Nat→Prop)→World→α→List Value→Prop) (X:Nat→Prop) (S:Nat→Prop) (w:World) (x:α) (c:List Value):Prop:=E (fun k=>S k∧X k) w x c
theorem eX_law {α:Type} {E:(Nat→Prop)→World→α→List Value→Prop} (L:ElemLaw E) (X:Nat→Prop):ElemLaw (EX E X):=⟨fun h hs hb=>L.kept h hs fun k hk hlt=>hb k hk.1 hlt,fun h hS=>L.wide h fun k hk=>⟨hS k hk.1,hk.2⟩,fun h=>L.wide (L.low h) fun _ hk=>⟨⟨hk.1.1,hk.2⟩,hk.1.2⟩⟩
structure PrgIn (B:Nat) (w:World) (rs:List Rc) (fs:List Fc) (vr vf:Value):Prop where
 r:RowO (EX RcE fun k=>vf.ownBlock≠some k) 3 80 B w rs vr
 f:RowO (EX FcE fun k=>vr.ownBlock≠some k) 5 78 B w fs vf
 apart:∀k,vr.ownBlock=some k→vf.ownBlock≠some k
theorem PrgIn.nil (B:Nat) (w:World):PrgIn B w [] [] (.slice none 0 0) (.slice none 0 0):=⟨.inl ⟨rfl,rfl⟩,.inl ⟨rfl,rfl⟩,fun k h=>by simp [Value.ownBlock] at h⟩
theorem PrgIn.kept {B:Nat} {w w':World} {rs:List Rc} {fs:List Fc} {vr vf:Value} (h:PrgIn B w rs fs vr vf) (hs:w.heap.size≤w'.heap.size) (hb:∀k,B≤k→k<w.heap.size→w'.heap[k]?=w.heap[k]?):PrgIn B w' rs fs vr vf :=
 ⟨h.r.kept (eX_law rcE_law _) hs hb,h.f.kept (eX_law fcE_law _) hs hb,h.apart⟩
theorem RowO.beside {α:Type} {E:(Nat→Prop)→World→α→List Value→Prop} (L:ElemLaw E) {sz ty B:Nat} {w w':World} {l:List α} {v vr vr':Value} {ob:Obj} (h:RowO (EX E fun k=>vr.ownBlock≠some k) sz ty B w l v) (ha:∀k,vr.ownBlock=some k→v.ownBlock≠some k) (hg:(w.alloc ob).grownBy w' vr.ownBlock) (hat:vr'.ownBlock=vr.ownBlock∨vr'.ownBlock=some (w.alloc ob).heap.size):RowO (EX E fun k=>vr'.ownBlock≠some k) sz ty B w' l v:=by
 rcases h with h | ⟨g,cap,us,h⟩
 ·exact .inl h
 ·have hs:w.heap.size≤w'.heap.size:=by have:=hg.size;simp at this;omega
  have hkeep:∀k,vr.ownBlock≠some k→k<w.heap.size→w'.heap[k]?=w.heap[k]?:=fun k hk hlt=>(hg.block k (by simp;omega) (fun e=>hk e.symm)).trans (Below.heap_alloc _ _ _ hlt)
  have hvg:v.ownBlock=some g:=by rw [h.val];rfl
  have hgr:vr.ownBlock≠some g:=fun e=>ha g e hvg
  have hb:=h.block
  refine .inr ⟨g,cap,us,h.val,h.ne,?_,h.len,h.wid,fun j x c hx hc=>?_⟩
  ·refine ⟨h.own.1,?_⟩
   rcases h.own.2 with h1 | ⟨g',cap',cur,h1,h2,h3,h4⟩
   ·exact .inl h1
   ·have e:g'=g:=by rw [h.val] at h1;simp at h1;exact h1.1.symm
    subst e
    exact .inr ⟨g',cap',cur,h1,h2,(hkeep g' hgr hb.2.1).trans h3,h4⟩
  ·have hx':E (fun k=>(B≤k∧k≠g)∧vr.ownBlock≠some k) w x c:=h.kids j x c hx hc
   refine L.wide (L.kept (L.low hx') hs fun k hk _=>hkeep k hk.1.2 hk.2) fun k hk=>⟨hk.1.1,?_⟩
   rcases hat with e | e
   ·rw [e];exact hk.1.2
   ·rw [e]
    intro e'
    have:=Option.some.inj e'
    simp at this
    omega
theorem PrgIn.addR {B N:Nat} {w w':World} {rs:List Rc} {fs:List Fc} {vr vf vr':Value} {x:Rc} {c:List Value} {ob:Obj} {us:List (List Value)} (h:PrgIn B w rs fs vr vf)
  (hnext:∀{w':World} {v':Value} {x:Rc} {c:List Value} {ob:Obj} {N:Nat},EX RcE (fun k=>vf.ownBlock≠some k) (fun k=>N≤k) w x c→B≤N→(∀q,vr.ownBlock=some q→q<N)→c.length=3→w'.ownsRow B 80 3 v' (rs.length+1) (us.flatten++c)→(w.alloc ob).grownBy w' vr.ownBlock→(v'.ownBlock=vr.ownBlock∨v'.ownBlock=some (w.alloc ob).heap.size)→RowO (EX RcE fun k=>vf.ownBlock≠some k) 3 80 B w' (rs++[x]) v')
  (hx:RcE (fun k=>N≤k) w x c) (hBN:B≤N) (hr:∀q,vr.ownBlock=some q→q<N) (hf:∀q,vf.ownBlock=some q→q<N) (hfw:∀q,vf.ownBlock=some q→q<w.heap.size) (hc:c.length=3) (ho:w'.ownsRow B 80 3 vr' (rs.length+1) (us.flatten++c)) (hg:(w.alloc ob).grownBy w' vr.ownBlock) (hat:vr'.ownBlock=vr.ownBlock∨vr'.ownBlock=some (w.alloc ob).heap.size):PrgIn B w' (rs++[x]) fs vr' vf:=by
 refine ⟨hnext (rcE_law.wide hx fun k hk=>⟨hk,fun e=>by have:=hf k e;omega⟩) hBN hr hc ho hg hat,h.f.beside fcE_law h.apart hg hat,fun k hk e=>?_⟩
 rcases hat with e1 | e1
 ·rw [e1] at hk;exact h.apart k hk e
 ·rw [e1] at hk
  have:=Option.some.inj hk
  have h9:=hfw k e
  simp at this
  omega
theorem PrgIn.addF {B N:Nat} {w w':World} {rs:List Rc} {fs:List Fc} {vr vf vf':Value} {x:Fc} {c:List Value} {ob:Obj} {us:List (List Value)} (h:PrgIn B w rs fs vr vf)
  (hnext:∀{w':World} {v':Value} {x:Fc} {c:List Value} {ob:Obj} {N:Nat},EX FcE (fun k=>vr.ownBlock≠some k) (fun k=>N≤k) w x c→B≤N→(∀q,vf.ownBlock=some q→q<N)→c.length=5→w'.ownsRow B 78 5 v' (fs.length+1) (us.flatten++c)→(w.alloc ob).grownBy w' vf.ownBlock→(v'.ownBlock=vf.ownBlock∨v'.ownBlock=some (w.alloc ob).heap.size)→RowO (EX FcE fun k=>vr.ownBlock≠some k) 5 78 B w' (fs++[x]) v')
  (hx:FcE (fun k=>N≤k) w x c) (hBN:B≤N) (hf:∀q,vf.ownBlock=some q→q<N) (hr:∀q,vr.ownBlock=some q→q<N) (hrw:∀q,vr.ownBlock=some q→q<w.heap.size) (hc:c.length=5) (ho:w'.ownsRow B 78 5 vf' (fs.length+1) (us.flatten++c)) (hg:(w.alloc ob).grownBy w' vf.ownBlock) (hat:vf'.ownBlock=vf.ownBlock∨vf'.ownBlock=some (w.alloc ob).heap.size):PrgIn B w' rs (fs++[x]) vr vf':=by
 refine ⟨h.r.beside rcE_law (fun k hk e=>h.apart k e hk) hg hat,hnext (fcE_law.wide hx fun k hk=>⟨hk,fun e=>by have:=hr k e;omega⟩) hBN hf hc ho hg hat,fun k hk e=>?_⟩
 rcases hat with e1 | e1
 ·rw [e1] at e;exact h.apart k hk e
 ·rw [e1] at e
  have:=Option.some.inj e
  have h9:=hrw k hk
  simp at this
  omega
structure Pg where
 recs:List Rc
 funs:List Fc
def PgIn (S:Nat→Prop) (w:World) (p:Pg) (v:Value):Prop:=∃vr vf,v=.agg #[vr,vf]∧RowG RcE 3 S w p.recs vr∧RowG FcE 5 S w p.funs vf
theorem PrgIn.pg {B:Nat} {w:World} {rs:List Rc} {fs:List Fc} {vr vf:Value} (h:PrgIn B w rs fs vr vf):PgIn (fun k=>B≤k) w ⟨rs,fs⟩ (.agg #[vr,vf]):=by
 refine ⟨vr,vf,rfl,?_,?_⟩
 ·rcases h.r.toG (eX_law rcE_law _) with h9 | ⟨g,cap,us,h1,h2,h3,h4,h5,h6,h7,h8,h9,h10⟩
  ·exact .inl h9
  ·exact .inr ⟨g,cap,us,h1,h2,h3,h4,h5,h6,h7,h8,h9,fun j x c hx hc=>rcE_law.wide (h10 j x c hx hc) fun k hk=>hk.1⟩
 ·rcases h.f.toG (eX_law fcE_law _) with h9 | ⟨g,cap,us,h1,h2,h3,h4,h5,h6,h7,h8,h9,h10⟩
  ·exact .inl h9
  ·exact .inr ⟨g,cap,us,h1,h2,h3,h4,h5,h6,h7,h8,h9,fun j x c hx hc=>fcE_law.wide (h10 j x c hx hc) fun k hk=>hk.1⟩
theorem PgIn.kept {S:Nat→Prop} {w w':World} {p:Pg} {v:Value} (h:PgIn S w p v) (hs:w.heap.size≤w'.heap.size) (hb:∀k,S k→k<w.heap.size→w'.heap[k]?=w.heap[k]?):PgIn S w' p v:=by
 obtain ⟨vr,vf,rfl,h1,h2⟩:=h
 exact ⟨vr,vf,rfl,h1.kept rcE_law hs hb,h2.kept fcE_law hs hb⟩
theorem PgIn.wide {S S':Nat→Prop} {w:World} {p:Pg} {v:Value} (h:PgIn S w p v) (hS:∀k,S k→S' k):PgIn S' w p v:=by
 obtain ⟨vr,vf,rfl,h1,h2⟩:=h
 exact ⟨vr,vf,rfl,h1.wide rcE_law hS,h2.wide fcE_law hS⟩
def pRecord (f line:Nat) (ts:List Tk):Option (PR Rc):=thenP (nameP ts) fun s us=>thenP (needP [123] us) fun _ us=>thenP (pParams f [] us) fun l us=>thenP (needP [125] us) fun _ us=>some (.ok (⟨s,l,line⟩,us))
def pProg:Nat→List Rc→List Fc→List Tk→Option (PR Pg)
 | 0,_,_,_=>none
 | f+1,rs,fs,ts =>
  if (hdT ts).k=0 then some (.ok (⟨rs,fs⟩,ts))
  else if isTk (hdT ts) [114,101,99,111,114,100]=true then thenP (pRecord f (hdT ts).line ts.tail) fun x us=>pProg f (rs++[x]) fs us
  else if isTk (hdT ts) [102,110]=true then thenP (pFunc f (hdT ts).line ts.tail) fun x us=>pProg f rs (fs++[x]) us
  else some (.error (hdT ts).at0)
theorem pRecord_ends {f line:Nat} {ts us:List Tk} {x:Rc} (h:pRecord f line ts=some (.ok (x,us))) (hE:EndsT ts):EndsT us:=by
 unfold pRecord at h
 obtain ⟨_,_,h1,h⟩:=thenP_ok h
 obtain ⟨_,_,h2,h⟩:=thenP_ok h
 obtain ⟨_,_,h3,h⟩:=thenP_ok h
 obtain ⟨_,_,h4,h⟩:=thenP_ok h
 exact okP_ends h (needP_ends h4 (pParams_ends h3 (needP_ends h2 (nameP_ends h1 hE))))
theorem pFunc_ends {f line:Nat} {ts us:List Tk} {x:Fc} (h:pFunc f line ts=some (.ok (x,us))) (hE:EndsT ts):EndsT us:=by
 unfold pFunc at h
 obtain ⟨_,_,h1,h⟩:=thenP_ok h
 obtain ⟨_,_,h2,h⟩:=thenP_ok h
 obtain ⟨_,_,h3,h⟩:=thenP_ok h
 obtain ⟨_,_,h4,h⟩:=thenP_ok h
 exact okP_ends h ((stmt_ends f).2.1 _ _ _ h4 (resP_ends h3 (pParB_ends h2 (nameP_ends h1 hE))))
theorem pParams_mono {f:Nat}:∀{pre:List Pm} {ts:List Tk} {r:PR (List Pm)},pParams f pre ts=some r→pParams (f+1) pre ts=some r:=by
 induction f with
 | zero=>intro pre ts r h;simp [pParams] at h
 | succ f ih =>
  intro pre ts r h
  rw [pParams] at h ⊢
  cases hb:paramR ts with
  | error a=>rw [hb] at h;exact h
  | ok y =>
   rw [hb] at h
   simp only at h ⊢
   split at h
   ·rename_i hc;rw [if_pos hc];exact ih h
   ·rename_i hc;rw [if_neg hc];exact h
theorem pRecord_mono {f line:Nat} {ts:List Tk} {r:PR Rc} (h:pRecord f line ts=some r):pRecord (f+1) line ts=some r:=by
 unfold pRecord at h ⊢
 exact thenP_same h fun _ _ _ h=>thenP_same h fun _ _ _ h=>thenP_mono h (fun _=>pParams_mono) fun _ _ _ h=>h
theorem pFunc_mono {f line:Nat} {ts:List Tk} {r:PR Fc} (h:pFunc f line ts=some r):pFunc (f+1) line ts=some r:=by
 unfold pFunc at h ⊢
 refine thenP_same h fun _ _ _ h=>thenP_mono h (fun _ h=>?_) fun _ _ _ h=>thenP_same h fun _ _ _ h=>thenP_mono h ((stmt_mono f).2.1 _) fun _ _ _ h=>h
 unfold pParB at h ⊢
 refine thenP_same h fun _ _ _ h=>?_
 split at h
 ·rename_i hc;rw [if_pos hc];exact h
 ·rename_i hc;rw [if_neg hc];exact thenP_mono h (fun _=>pParams_mono) fun _ _ _ h=>h
theorem pRecord_up {f k line:Nat} {ts:List Tk} {r:PR Rc} (h:pRecord f line ts=some r):pRecord (f+k) line ts=some r:=by
 induction k with
 | zero=>exact h
 | succ k ih=>exact pRecord_mono ih
theorem pFunc_up {f k line:Nat} {ts:List Tk} {r:PR Fc} (h:pFunc f line ts=some r):pFunc (f+k) line ts=some r:=by
 induction k with
 | zero=>exact h
 | succ k ih=>exact pFunc_mono ih
theorem params_total (n:Nat):∀(ts:List Tk),ts.length≤n→EndsT ts→∀pre,DoneE (fun f=>pParams f pre ts) (n-1):=by
 induction n with
 | zero=>intro ts hl hE;have:=hE.pos;omega
 | succ n ih =>
  intro ts hl hE pre
  cases hb:paramR ts with
  | error a=>exact (doneE_error a n).step fun f=>by rw [pParams,hb]
  | ok y =>
   obtain ⟨p,us⟩:=y
   obtain ⟨hE1,hl1⟩:=paramR_ends hb hE
   by_cases hc:isTk (hdT us) [44]=true
   ·have hne:=is_ne hc
    exact ((ih us.tail (by omega) (ends_is hE1 hc) (pre++[p])).le (by omega)).step fun f=>by rw [pParams,hb];simp only [if_pos hc]
   ·exact (doneE_some (pre++[p]) us (n:=n) (by omega) hE1).step fun f=>by rw [pParams,hb];simp only [if_neg hc]
theorem record_total (line:Nat) {n:Nat} (ts:List Tk) (hl:ts.length≤n+1) (hE:EndsT ts):DoneE (fun f=>pRecord f line ts) n:=by
 unfold pRecord
 refine (doneE_name ts (n:=n) hl hE).then (q:=fun f s us=>thenP (needP [123] us) fun _ us=>thenP (pParams f [] us) fun l us=>thenP (needP [125] us) fun _ us=>some (.ok ((⟨s,l,line⟩:Rc),us))) fun s us hu hEu=>?_
 refine (doneE_need [123] us (n:=n) (by omega) hEu).then (q:=fun f _ us=>thenP (pParams f [] us) fun l us=>thenP (needP [125] us) fun _ us=>some (.ok ((⟨s,l,line⟩:Rc),us))) fun _ us hu hEu=>?_
 refine (params_total n us hu hEu []).then (q:=fun f l us=>thenP (needP [125] us) fun _ us=>some (.ok ((⟨s,l,line⟩:Rc),us))) fun l us hu hEu=>?_
 exact (doneE_need [125] us (n:=n) (by omega) hEu).then (q:=fun f _ us=>some (.ok ((⟨s,l,line⟩:Rc),us))) fun _ us hu hEu=>doneE_some _ _ hu hEu
theorem func_total (line:Nat) {n:Nat} (ts:List Tk) (hl:ts.length≤n+1) (hE:EndsT ts):DoneE (fun f=>pFunc f line ts) n:=by
 unfold pFunc
 refine (doneE_name ts (n:=n) hl hE).then (q:=fun f s us=>thenP (pParB f us) fun l us=>thenP (resP us) fun t us=>thenP (pBlock f us) fun b us=>some (.ok ((⟨s,l,t,b,line⟩:Fc),us))) fun s us hu hEu=>?_
 have hB:DoneE (fun f=>pParB f us) n:=by
  unfold pParB
  refine (doneE_need [40] us (n:=n) (by omega) hEu).then (q:=fun f _ us=>if isTk (hdT us) [41]=true then some (.ok ([],us.tail)) else thenP (pParams f [] us) fun l us=>thenP (needP [41] us) fun _ us=>some (.ok (l,us))) fun _ us hu hEu=>?_
  by_cases hc:isTk (hdT us) [41]=true
  ·have hne:=is_ne hc
   simp only [if_pos hc]
   exact doneE_some _ _ (by omega) (ends_is hEu hc)
  ·simp only [if_neg hc]
   exact (params_total n us hu hEu []).then (q:=fun f l us=>thenP (needP [41] us) fun _ us=>some (.ok (l,us))) fun l us hu hEu=>(doneE_need [41] us (n:=n) (by omega) hEu).then (q:=fun f _ us=>some (.ok (l,us))) fun _ us hu hEu=>doneE_some _ _ hu hEu
 refine hB.then (q:=fun f l us=>thenP (resP us) fun t us=>thenP (pBlock f us) fun b us=>some (.ok ((⟨s,l,t,b,line⟩:Fc),us))) fun l us hu hEu=>?_
 have hR:DoneE (fun _=>resP us) n:=by
  by_cases hc:isTk (hdT us) [58]=true
  ·have hne:=is_ne hc
   refine ⟨0,typeS 0 us.tail,fun _=>by unfold resP;rw [if_pos hc],fun x us' e=>?_⟩
   have:=typeS_ends _ _ _ _ e (ends_is hEu hc)
   exact ⟨by omega,this.1⟩
  ·refine ⟨0,.ok ([],us),fun _=>by unfold resP;rw [if_neg hc],fun x us' e=>?_⟩
   cases e
   exact ⟨hu,hEu⟩
 refine hR.then (q:=fun f t us=>thenP (pBlock f us) fun b us=>some (.ok ((⟨s,l,t,b,line⟩:Fc),us))) fun t us hu hEu=>?_
 exact (stmt_total n us hu hEu).2.1.then (q:=fun f b us=>some (.ok ((⟨s,l,t,b,line⟩:Fc),us))) fun b us hu hEu=>doneE_some _ _ (by omega) hEu
theorem prog_total (n:Nat):∀(ts:List Tk),ts.length≤n→EndsT ts→∀rs fs,DoneE (fun f=>pProg f rs fs ts) n:=by
 induction n with
 | zero=>intro ts hl hE;have:=hE.pos;omega
 | succ n ih =>
  intro ts hl hE rs fs
  by_cases h0:(hdT ts).k=0
  ·exact (doneE_some (⟨rs,fs⟩:Pg) ts hl hE).step fun f=>by rw [pProg,if_pos h0]
  by_cases h1:isTk (hdT ts) [114,101,99,111,114,100]=true
  ·have hne:=is_ne h1
   have hE1:=ends_is hE h1
   have hpos:=hE1.pos
   exact ((record_total (hdT ts).line (n:=n-1) ts.tail (by omega) hE1).then (q:=fun f x us=>pProg f (rs++[x]) fs us) (m:=n+1) fun x us hu hEu=>(ih us (by omega) hEu _ _).le (by omega)).step fun f=>by rw [pProg,if_neg h0,if_pos h1]
  by_cases h2:isTk (hdT ts) [102,110]=true
  ·have hne:=is_ne h2
   have hE1:=ends_is hE h2
   have hpos:=hE1.pos
   exact ((func_total (hdT ts).line (n:=n-1) ts.tail (by omega) hE1).then (q:=fun f x us=>pProg f rs (fs++[x]) us) (m:=n+1) fun x us hu hEu=>(ih us (by omega) hEu _ _).le (by omega)).step fun f=>by rw [pProg,if_neg h0,if_neg h1,if_pos h2]
  ·exact (doneE_error _ _).step fun f=>by rw [pProg,if_neg h0,if_neg h1,if_neg h2]
end Go.Proofs.YtghhamgealkodaaGreatDoor
