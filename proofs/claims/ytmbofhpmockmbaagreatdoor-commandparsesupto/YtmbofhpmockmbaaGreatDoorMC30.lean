import Derived.Test.YtmbofhpmockmbaaGreatDoorMC29
import Derived.OrdersHeld
import Derived.BigQuiet
import Derived.Deep.RegionHeld3
import Derived.WalkKit
import Derived.Below
import Derived.Deep.DeepCutAuto
namespace Go.Proofs.YtmbofhpmockmbaaGreatDoor
open Go.RowKit Go.Shelf
def St.at:Nat→St→St
 | l,.mk k s es b e _=>.mk k s es b e l
def Yw {α:Type} (E:(Nat→Prop)→World→α→List Value→Prop) (sz ty B:Nat) (w:World) (l:List α) (v:Value):Prop :=
 (l=[]∧v=.slice none 0 0)∨∃g cap us,ZJ E sz ty B w l v g cap us
theorem Yw.nil {α:Type} (E:(Nat→Prop)→World→α→List Value→Prop) (sz ty B:Nat) (w:World):Yw E sz ty B w [] (.slice none 0 0):=.inl ⟨rfl,rfl⟩
theorem Yw.kept {α:Type} {E:(Nat→Prop)→World→α→List Value→Prop} (L:Z3 E) {sz ty B:Nat} {w w':World} {l:List α} {v:Value} (h:Yw E sz ty B w l v) (hs:w.heap.size≤w'.heap.size) (hb:∀k,B≤k→k<w.heap.size→w'.heap[k]?=w.heap[k]?):Yw E sz ty B w' l v:=by
 rcases h with h | ⟨g,e,o,h⟩
 ·exact .inl h
 ·exact .inr ⟨g,e,o,h.kept L hs hb⟩
theorem Yw.slice {α:Type} {E:(Nat→Prop)→World→α→List Value→Prop} {sz ty B:Nat} {w:World} {l:List α} {v:Value} (h:Yw E sz ty B w l v):∃b c,v=.slice b l.length c:=by
 rcases h with ⟨rfl,rfl⟩ | ⟨g,e,o,h⟩
 ·exact ⟨none,0,rfl⟩
 ·exact ⟨_,_,h.val⟩
theorem Yw.block {α:Type} {E:(Nat→Prop)→World→α→List Value→Prop} {sz ty B:Nat} {w:World} {l:List α} {v:Value} (h:Yw E sz ty B w l v):∀q,v.ownBlock=some q→B≤q∧q<w.heap.size:=by
 intro q o;rcases h with ⟨rfl,rfl⟩ | ⟨g,y,z,h⟩
 ·simp [Value.ownBlock] at o
 ·rw [h.val] at o
  have e:g=q:=by simpa [Value.ownBlock] using o
  subst e;exact ⟨h.block.1,h.block.2.1⟩
theorem Yw.more {α:Type} {E:(Nat→Prop)→World→α→List Value→Prop} (L:Z3 E) {sz ty B:Nat} {w:World} {l:List α} {v:Value} (h:Yw E sz ty B w l v):∃H:List (List Value),w.ownsRow B ty sz v l.length H.flatten ∧
  ∀{w':World} {v':Value} {x:α} {c:List Value} {ob:Obj} {N:Nat},E (fun k=>N≤k) w x c→B≤N→(∀q,v.ownBlock=some q→q<N)→c.length=sz→w'.ownsRow B ty sz v' (l.length+1) (H.flatten++c)→(w.alloc ob).grownBy w' v.ownBlock→(v'.ownBlock=v.ownBlock∨v'.ownBlock=some (w.alloc ob).heap.size)→Yw E sz ty B w' (l++[x]) v':=by
 rcases h with ⟨rfl,rfl⟩ | ⟨g,R,H,h⟩
 ·refine ⟨[],World.ownsRow_nil _ _ _ _,?_⟩
  intro w' v' x c ob N I J _ K A G D;simp only [List.flatten_nil,List.nil_append,List.length_nil,Nat.zero_add] at A
  obtain ⟨g',e,z,T⟩:∃g' e,v'=.slice (some ⟨g',0,none⟩) 1 e∧B≤g':=by
   rcases A.2 with ⟨_,Y⟩ | ⟨g',e,_,X,W,_⟩
   ·omega
   ·exact ⟨g',e,X,W⟩
  have O:g'=w.heap.size+1:=by
   rw [z] at D
   simpa [Value.ownBlock] using D
  have Q:w.heap.size≤w'.heap.size:=by have:=G.size;simp at this;omega
  have o:∀k,k<w.heap.size→w'.heap[k]?=w.heap[k]?:=fun k hlt=>(G.block k (by simp;omega) (by simp [Value.ownBlock])).trans (Below.heap_alloc _ _ _ hlt)
  refine .inr ⟨g',e,[c],⟨z,by simp,by simpa using A,rfl,by simpa using K,fun j y d hy hd=>?_⟩⟩
  cases j with
  | succ j=>simp at hy
  | zero =>
   simp only [List.nil_append,List.getElem?_cons_zero,Option.some.injEq] at hy hd;subst hy hd;exact L.wide (L.kept (L.low I) Q fun k hk _=>o k hk.2) fun k hk=>⟨by omega,by omega⟩
 ·refine ⟨H,h.own,?_⟩
  intro w' v' x c ob N I J M K A G D;have U:g<N:=M g (by rw [h.val];rfl)
  obtain ⟨g',e,V,-⟩:=h.snoc L (x:=x) (c:=c) (ob:=ob) (L.wide I fun k hk=>⟨by omega,by omega⟩) K A G D
  exact .inr ⟨g',e,_,V⟩
theorem zK.slice {S:Nat→Prop} {w:World} {l:List Ex} {v:Value} (h:zK S w l v):∃d0 d1 d2,v=.slice d0 d1 d2:=by
 rcases h with ⟨_,rfl⟩ | ⟨g,e,o,rfl,_⟩
 ·exact ⟨_,_,_,rfl⟩
 ·exact ⟨_,_,_,rfl⟩
theorem Yv.agg {S:Nat→Prop} {w:World} {x:St} {v:Value} (h:Yv S w x v):∃(a:Int) (b:ByteArray) (E:Option Addr) (e y:Nat) (A:Option Addr) (o z:Nat) (H:Option Addr) (G D:Nat) (c:Int),v=.agg #[.int .i64 a,.string b,.slice E e y,.slice A o z,.slice H G D,.int .i64 c]:=by
 cases h with
 | mk k s es body els line ve vb vl gb cb gl cl ub ul he hb hbk hl hlk =>
  obtain ⟨E,e,y,rfl⟩:=he.slice;obtain ⟨A,o,z,rfl⟩:=yl.slice (S:=S) (w:=w) (l:=body) (v:=vb) ⟨gb,cb,ub,hb,hbk⟩;obtain ⟨H,G,D,rfl⟩:=yl.slice (S:=S) (w:=w) (l:=els) (v:=vl) ⟨gl,cl,ul,hl,hlk⟩;exact ⟨_,_,_,_,_,_,_,_,_,_,_,_,rfl⟩
abbrev exO (a:Int) (b:ByteArray) (c:Int) (d:Value) (e:Int):Obj:=.cells #[.int .i64 a,.string b,.int .i64 c,d,.int .i64 e] 90
end Go.Proofs.YtmbofhpmockmbaaGreatDoor
namespace Go.Proofs.YtmbofhpmockmbaaGreatDoor
open Go Go.RowKit
section
variable {P:Program} {Q:Exit→Act→World→Prop} {md:Region.Mode} {S:World→Prop} {l:List Oper}
end
end Go.Proofs.YtmbofhpmockmbaaGreatDoor
namespace Go.Proofs.YtmbofhpmockmbaaGreatDoor
open Go.RowKit Go.Shelf
end Go.Proofs.YtmbofhpmockmbaaGreatDoor
