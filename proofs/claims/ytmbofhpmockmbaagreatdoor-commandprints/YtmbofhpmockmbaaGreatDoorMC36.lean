import Derived.Test.YtmbofhpmockmbaaGreatDoorMC30
import Derived.Test.YtmbofhpmockmbaaGreatDoorMC31
import Derived.Test.YtmbofhpmockmbaaGreatDoorMC16
import Derived.Test.YtmbofhpmockmbaaGreatDoorShelf
namespace Go.Proofs.YtmbofhpmockmbaaGreatDoor
open Go.RowKit Go.Shelf
structure Fc where
 name:List UInt8
 params:List Pm
 result:List UInt8
 body:List St
 line:Nat
def YR {α:Type} (E:(Nat→Prop)→World→α→List Value→Prop) (sz:Nat) (S:Nat→Prop) (w:World) (l:List α) (v:Value):Prop :=
 (l=[]∧v=.slice none 0 0)∨∃(g cap:Nat) (us:List (List Value)),v=.slice (some ⟨g,0,none⟩) l.length cap∧l≠[]∧us.length=l.length∧S g∧g<w.heap.size∧l.length≤cap∧cap≤maxLen∧(∀j u,us.flatten[j]?=some u→w.cell? ⟨g,j,none⟩=some u)∧(∀c∈us,c.length=sz)∧∀(j:Nat) (x:α) (c:List Value),l[j]?=some x→us[j]?=some c→E S w x c
theorem YR.kept {α:Type} {E:(Nat→Prop)→World→α→List Value→Prop} (L:Z0 E) {sz:Nat} {S:Nat→Prop} {w w':World} {l:List α} {v:Value} (h:YR E sz S w l v) (hs:w.heap.size≤w'.heap.size) (hb:∀k,S k→k<w.heap.size→w'.heap[k]?=w.heap[k]?):YR E sz S w' l v:=by
 rcases h with h | ⟨g,e,M,K,H,A,z,y,D,G,J,I,o⟩
 ·exact .inl h
 ·exact .inr ⟨g,e,M,K,H,A,z,Nat.lt_of_lt_of_le y hs,D,G,fun j u hj=>by rw [World.cell?_of_block (hb g z y)];exact J j u hj,I,fun j x c hx hc=>L.kept (o j x c hx hc) hs hb⟩
theorem YR.wide {α:Type} {E:(Nat→Prop)→World→α→List Value→Prop} (L:Z0 E) {sz:Nat} {S S':Nat→Prop} {w:World} {l:List α} {v:Value} (h:YR E sz S w l v) (hS:∀k,S k→S' k):YR E sz S' w l v:=by
 rcases h with h | ⟨g,e,M,K,D,y,H,G,z,A,J,I,o⟩
 ·exact .inl h
 ·exact .inr ⟨g,e,M,K,D,y,hS _ H,G,z,A,J,I,fun j x c hx hc=>L.wide (o j x c hx hc) hS⟩
theorem YR.low {α:Type} {E:(Nat→Prop)→World→α→List Value→Prop} (L:Z0 E) {sz:Nat} {S:Nat→Prop} {w:World} {l:List α} {v:Value} (h:YR E sz S w l v):YR E sz (fun k=>S k∧k<w.heap.size) w l v:=by
 rcases h with h | ⟨g,e,M,K,G,z,H,y,A,D,J,I,o⟩
 ·exact .inl h
 ·exact .inr ⟨g,e,M,K,G,z,⟨H,y⟩,y,A,D,J,I,fun j x c hx hc=>L.low (o j x c hx hc)⟩
theorem YR.slice {α:Type} {E:(Nat→Prop)→World→α→List Value→Prop} {sz:Nat} {S:Nat→Prop} {w:World} {l:List α} {v:Value} (h:YR E sz S w l v):∃b c,v=.slice b l.length c:=by
 rcases h with ⟨rfl,rfl⟩ | ⟨g,o,y,e,_⟩
 ·exact ⟨none,0,rfl⟩
 ·exact ⟨_,_,e⟩
abbrev v6 (S:Nat→Prop) (w:World) (l:List Pm) (v:Value):Prop:=YR PmE 2 S w l v
theorem yh.lower {S:Nat→Prop} {w:World} {l:List St} {v:Value} (h:yh S w l v):yh (fun k=>S k∧k<w.heap.size) w l v:=by
 obtain ⟨g,e,z,y,o⟩:=h;exact ⟨g,e,z,y.low,fun j x c hx hc=>(o j x c hx hc).low⟩
def RcE (S:Nat→Prop) (w:World) (x:Rc) (c:List Value):Prop:=∃vp,c=[.string (za x.name),vp,.int .i64 (x.line:Int)]∧v6 S w x.fields vp
theorem UL:Z0 RcE:=⟨fun ⟨vp,h1,h2⟩ hs hb=>⟨vp,h1,h2.kept YZ hs hb⟩,fun ⟨vp,h1,h2⟩ hS=>⟨vp,h1,h2.wide YZ hS⟩,fun ⟨vp,h1,h2⟩=>⟨vp,h1,h2.low YZ⟩⟩
def FcE (S:Nat→Prop) (w:World) (x:Fc) (c:List Value):Prop:=∃vp vb,c=[.string (za x.name),vp,.string (za x.result),vb,.int .i64 (x.line:Int)]∧v6 S w x.params vp∧yh S w x.body vb
theorem UM:Z0 FcE:=⟨fun ⟨vp,vb,h1,h2,h3⟩ hs hb=>⟨vp,vb,h1,h2.kept YZ hs hb,h3.kept hs hb⟩,fun ⟨vp,vb,h1,h2,h3⟩ hS=>⟨vp,vb,h1,h2.wide YZ hS,h3.wide hS⟩,fun ⟨vp,vb,h1,h2,h3⟩=>⟨vp,vb,h1,h2.low YZ,h3.lower⟩⟩
structure Pg where
 recs:List Rc
 funs:List Fc
def xP (S:Nat→Prop) (w:World) (p:Pg) (v:Value):Prop:=∃vr vf,v=.agg #[vr,vf]∧YR RcE 3 S w p.recs vr∧YR FcE 5 S w p.funs vf
theorem xP.kept {S:Nat→Prop} {w w':World} {p:Pg} {v:Value} (h:xP S w p v) (hs:w.heap.size≤w'.heap.size) (hb:∀k,S k→k<w.heap.size→w'.heap[k]?=w.heap[k]?):xP S w' p v:=by
 obtain ⟨z,e,rfl,y,o⟩:=h;exact ⟨z,e,rfl,y.kept UL hs hb,o.kept UM hs hb⟩
theorem xP.wide {S S':Nat→Prop} {w:World} {p:Pg} {v:Value} (h:xP S w p v) (hS:∀k,S k→S' k):xP S' w p v:=by
 obtain ⟨z,e,rfl,y,o⟩:=h;exact ⟨z,e,rfl,y.wide UL hS,o.wide UM hS⟩
theorem xP.agg {S:Nat→Prop} {w:World} {p:Pg} {v:Value} (h:xP S w p v):∃(a0:Option Addr) (a1 a2:Nat) (b0:Option Addr) (b1 b2:Nat),v=.agg #[.slice a0 a1 a2,.slice b0 b1 b2]:=by
 obtain ⟨y,D,rfl,o,e⟩:=h;obtain ⟨b,c,rfl⟩:=o.slice;obtain ⟨z,A,rfl⟩:=e.slice;exact ⟨_,_,_,_,_,_,rfl⟩
end Go.Proofs.YtmbofhpmockmbaaGreatDoor
