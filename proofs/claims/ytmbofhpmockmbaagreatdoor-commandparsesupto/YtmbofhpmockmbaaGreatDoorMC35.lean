import Derived.Test.YtmbofhpmockmbaaGreatDoorMC29
import Derived.Test.YtmbofhpmockmbaaGreatDoorMC30
import Derived.Test.YtmbofhpmockmbaaGreatDoorMC15
import Derived.Test.YtmbofhpmockmbaaGreatDoorShelf
namespace Go.Proofs.YtmbofhpmockmbaaGreatDoor
open Go.RowKit Go.Shelf
structure Fc where
 name:List UInt8
 params:List Pm
 result:List UInt8
 body:List St
 line:Nat
def YZ {α:Type} (E:(Nat→Prop)→World→α→List Value→Prop) (sz:Nat) (S:Nat→Prop) (w:World) (l:List α) (v:Value):Prop :=
 (l=[]∧v=.slice none 0 0)∨∃(g cap:Nat) (us:List (List Value)),v=.slice (some ⟨g,0,none⟩) l.length cap∧l≠[]∧us.length=l.length∧S g∧g<w.heap.size∧l.length≤cap∧cap≤maxLen∧(∀j u,us.flatten[j]?=some u→w.cell? ⟨g,j,none⟩=some u)∧(∀c∈us,c.length=sz)∧∀(j:Nat) (x:α) (c:List Value),l[j]?=some x→us[j]?=some c→E S w x c
theorem YZ.kept {α:Type} {E:(Nat→Prop)→World→α→List Value→Prop} (L:Z3 E) {sz:Nat} {S:Nat→Prop} {w w':World} {l:List α} {v:Value} (h:YZ E sz S w l v) (hs:w.heap.size≤w'.heap.size) (hb:∀k,S k→k<w.heap.size→w'.heap[k]?=w.heap[k]?):YZ E sz S w' l v:=by
 rcases h with h | ⟨g,e,K,M,I,A,y,z,H,G,D,J,o⟩
 ·exact .inl h
 ·exact .inr ⟨g,e,K,M,I,A,y,Nat.lt_of_lt_of_le z hs,H,G,fun j u hj=>by rw [World.cell?_of_block (hb g y z)];exact D j u hj,J,fun j x c hx hc=>L.kept (o j x c hx hc) hs hb⟩
theorem YZ.wide {α:Type} {E:(Nat→Prop)→World→α→List Value→Prop} (L:Z3 E) {sz:Nat} {S S':Nat→Prop} {w:World} {l:List α} {v:Value} (h:YZ E sz S w l v) (hS:∀k,S k→S' k):YZ E sz S' w l v:=by
 rcases h with h | ⟨g,e,K,M,H,y,A,I,G,D,z,J,o⟩
 ·exact .inl h
 ·exact .inr ⟨g,e,K,M,H,y,hS _ A,I,G,D,z,J,fun j x c hx hc=>L.wide (o j x c hx hc) hS⟩
theorem YZ.low {α:Type} {E:(Nat→Prop)→World→α→List Value→Prop} (L:Z3 E) {sz:Nat} {S:Nat→Prop} {w:World} {l:List α} {v:Value} (h:YZ E sz S w l v):YZ E sz (fun k=>S k∧k<w.heap.size) w l v:=by
 rcases h with h | ⟨g,e,K,M,I,z,D,y,H,G,A,J,o⟩
 ·exact .inl h
 ·exact .inr ⟨g,e,K,M,I,z,⟨D,y⟩,y,H,G,A,J,fun j x c hx hc=>L.low (o j x c hx hc)⟩
theorem YZ.slice {α:Type} {E:(Nat→Prop)→World→α→List Value→Prop} {sz:Nat} {S:Nat→Prop} {w:World} {l:List α} {v:Value} (h:YZ E sz S w l v):∃b c,v=.slice b l.length c:=by
 rcases h with ⟨rfl,rfl⟩ | ⟨g,e,y,o,_⟩
 ·exact ⟨none,0,rfl⟩
 ·exact ⟨_,_,o⟩
abbrev Vq (S:Nat→Prop) (w:World) (l:List Pm) (v:Value):Prop:=YZ PmE 2 S w l v
theorem yl.lower {S:Nat→Prop} {w:World} {l:List St} {v:Value} (h:yl S w l v):yl (fun k=>S k∧k<w.heap.size) w l v:=by
 obtain ⟨g,e,y,z,o⟩:=h;exact ⟨g,e,y,z.low,fun j x c hx hc=>(o j x c hx hc).low⟩
def RcE (S:Nat→Prop) (w:World) (x:Rc) (c:List Value):Prop:=∃vp,c=[.string (za x.name),vp,.int .i64 (x.line:Int)]∧Vq S w x.fields vp
theorem U3:Z3 RcE:=⟨fun ⟨vp,h1,h2⟩ hs hb=>⟨vp,h1,h2.kept Y8 hs hb⟩,fun ⟨vp,h1,h2⟩ hS=>⟨vp,h1,h2.wide Y8 hS⟩,fun ⟨vp,h1,h2⟩=>⟨vp,h1,h2.low Y8⟩⟩
def FcE (S:Nat→Prop) (w:World) (x:Fc) (c:List Value):Prop:=∃vp vb,c=[.string (za x.name),vp,.string (za x.result),vb,.int .i64 (x.line:Int)]∧Vq S w x.params vp∧yl S w x.body vb
theorem U4:Z3 FcE:=⟨fun ⟨vp,vb,h1,h2,h3⟩ hs hb=>⟨vp,vb,h1,h2.kept Y8 hs hb,h3.kept hs hb⟩,fun ⟨vp,vb,h1,h2,h3⟩ hS=>⟨vp,vb,h1,h2.wide Y8 hS,h3.wide hS⟩,fun ⟨vp,vb,h1,h2,h3⟩=>⟨vp,vb,h1,h2.low Y8,h3.lower⟩⟩
structure Pg where
 recs:List Rc
 funs:List Fc
def xZ (S:Nat→Prop) (w:World) (p:Pg) (v:Value):Prop:=∃vr vf,v=.agg #[vr,vf]∧YZ RcE 3 S w p.recs vr∧YZ FcE 5 S w p.funs vf
theorem xZ.kept {S:Nat→Prop} {w w':World} {p:Pg} {v:Value} (h:xZ S w p v) (hs:w.heap.size≤w'.heap.size) (hb:∀k,S k→k<w.heap.size→w'.heap[k]?=w.heap[k]?):xZ S w' p v:=by
 obtain ⟨y,o,rfl,z,e⟩:=h;exact ⟨y,o,rfl,z.kept U3 hs hb,e.kept U4 hs hb⟩
theorem xZ.wide {S S':Nat→Prop} {w:World} {p:Pg} {v:Value} (h:xZ S w p v) (hS:∀k,S k→S' k):xZ S' w p v:=by
 obtain ⟨y,o,rfl,z,e⟩:=h;exact ⟨y,o,rfl,z.wide U3 hS,e.wide U4 hS⟩
theorem xZ.agg {S:Nat→Prop} {w:World} {p:Pg} {v:Value} (h:xZ S w p v):∃(a0:Option Addr) (a1 a2:Nat) (b0:Option Addr) (b1 b2:Nat),v=.agg #[.slice a0 a1 a2,.slice b0 b1 b2]:=by
 obtain ⟨z,D,rfl,e,o⟩:=h;obtain ⟨b,c,rfl⟩:=e.slice;obtain ⟨A,y,rfl⟩:=o.slice;exact ⟨_,_,_,_,_,_,rfl⟩
end Go.Proofs.YtmbofhpmockmbaaGreatDoor
