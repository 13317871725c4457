import Derived.Test.YtmbofhpmockmbaaGreatDoorMC14
import Derived.Test.YtmbofhpmockmbaaGreatDoorMC13
import Derived.Test.YtmbofhpmockmbaaGreatDoorMC12
import Derived.Test.YtmbofhpmockmbaaGreatDoorMC17
namespace Go.Proofs.YtmbofhpmockmbaaGreatDoor
open Go.RowKit Go.Shelf
abbrev Pm:=List UInt8 × List UInt8
def PmE (_:Nat→Prop) (_:World) (x:Pm) (c:List Value):Prop:=c=[.string (za x.1),.string (za x.2)]
theorem Y8:Z3 PmE:=⟨fun h _ _=>h,fun h _=>h,fun h=>h⟩
structure Rc where
 name:List UInt8
 fields:List Pm
 line:Nat
inductive St where
 | mk (k:Nat) (s:List UInt8) (es:List Ex) (body els:List St) (line:Nat)
def Yc (S:Nat→Prop) (w:World) (l:List St) (v:Value) (g cap:Nat) (us:List (List Value)):Prop :=
 (l=[]∧v=.slice none 0 0)∨(v=.slice (some ⟨g,0,none⟩) l.length cap∧l≠[]∧us.length=l.length∧S g∧g<w.heap.size∧l.length≤cap∧cap≤maxLen∧(∀j u,us.flatten[j]?=some u→w.cell? ⟨g,j,none⟩=some u)∧∀c∈us,c.length=6)
theorem Yc.kept {S:Nat→Prop} {w w':World} {l:List St} {v:Value} {g cap:Nat} {us:List (List Value)} (h:Yc S w l v g cap us) (hs:w.heap.size≤w'.heap.size) (hb:∀k,S k→k<w.heap.size→w'.heap[k]?=w.heap[k]?):Yc S w' l v g cap us:=by
 rcases h with h | ⟨H,E,y,e,o,D,A,z,G⟩
 ·exact .inl h
 ·refine .inr ⟨H,E,y,e,Nat.lt_of_lt_of_le o hs,D,A,fun j u hj=>?_,G⟩
  rw [World.cell?_of_block (hb g e o)];exact z j u hj
theorem Yc.wide {S S':Nat→Prop} {w:World} {l:List St} {v:Value} {g cap:Nat} {us:List (List Value)} (h:Yc S w l v g cap us) (hS:∀k,S k→S' k):Yc S' w l v g cap us:=by
 rcases h with h | ⟨H,D,e,y,E,A,z,o,G⟩
 ·exact .inl h
 ·exact .inr ⟨H,D,e,hS _ y,E,A,z,o,G⟩
theorem Yc.low {S:Nat→Prop} {w:World} {l:List St} {v:Value} {g cap:Nat} {us:List (List Value)} (h:Yc S w l v g cap us):Yc (fun k=>S k∧k<w.heap.size) w l v g cap us:=by
 rcases h with h | ⟨H,E,o,z,e,D,A,y,G⟩
 ·exact .inl h
 ·exact .inr ⟨H,E,o,⟨z,e⟩,e,D,A,y,G⟩
theorem zK.lower {S:Nat→Prop} {w:World} {l:List Ex} {v:Value} (h:zK S w l v):zK (fun k=>S k∧k<w.heap.size) w l v:=zK.low h
inductive Yv (S:Nat→Prop) (w:World):St→Value→Prop where
 | mk (k:Nat) (s:List UInt8) (es:List Ex) (body els:List St) (line:Nat) (ve vb vl:Value) (gb cb gl cl:Nat) (ub ul:List (List Value)) (he:zK S w es ve)
   (hb:Yc S w body vb gb cb ub) (hbk:∀(j:Nat) (x:St) (c:List Value),body[j]?=some x→ub[j]?=some c→Yv S w x (.agg c.toArray))
   (hl:Yc S w els vl gl cl ul) (hlk:∀(j:Nat) (x:St) (c:List Value),els[j]?=some x→ul[j]?=some c→Yv S w x (.agg c.toArray)) :
   Yv S w (.mk k s es body els line) (.agg #[.int .i64 k,.string (za s),ve,vb,vl,.int .i64 line])
theorem Yv.kept {S:Nat→Prop} {w w':World} {x:St} {v:Value} (h:Yv S w x v) (hs:w.heap.size≤w'.heap.size) (hb:∀k,S k→k<w.heap.size→w'.heap[k]?=w.heap[k]?):Yv S w' x v:=by
 induction h with
 | mk k s es body els line ve vb vl gb cb gl cl ub ul he hbr hbk hl hlk ih1 ih2 =>
  exact .mk k s es body els line ve vb vl gb cb gl cl ub ul (he.kept hs hb) (hbr.kept hs hb) ih1 (hl.kept hs hb) ih2
theorem Yv.wide {S S':Nat→Prop} {w:World} {x:St} {v:Value} (h:Yv S w x v) (hS:∀k,S k→S' k):Yv S' w x v:=by
 induction h with
 | mk k s es body els line ve vb vl gb cb gl cl ub ul he hbr hbk hl hlk ih1 ih2 =>
  exact .mk k s es body els line ve vb vl gb cb gl cl ub ul (he.wide hS) (hbr.wide hS) ih1 (hl.wide hS) ih2
theorem Yv.low {S:Nat→Prop} {w:World} {x:St} {v:Value} (h:Yv S w x v):Yv (fun k=>S k∧k<w.heap.size) w x v:=by
 induction h with
 | mk k s es body els line ve vb vl gb cb gl cl ub ul he hbr hbk hl hlk ih1 ih2 =>
  exact .mk k s es body els line ve vb vl gb cb gl cl ub ul he.lower hbr.low ih1 hl.low ih2
def yl (S:Nat→Prop) (w:World) (l:List St) (v:Value):Prop :=
 ∃g cap us,Yc S w l v g cap us∧∀(j:Nat) (x:St) (c:List Value),l[j]?=some x→us[j]?=some c→Yv S w x (.agg c.toArray)
theorem yl.nil (S:Nat→Prop) (w:World):yl S w [] (.slice none 0 0):=⟨0,0,[],.inl ⟨rfl,rfl⟩,fun j x c h=>by simp at h⟩
theorem yl.kept {S:Nat→Prop} {w w':World} {l:List St} {v:Value} (h:yl S w l v) (hs:w.heap.size≤w'.heap.size) (hb:∀k,S k→k<w.heap.size→w'.heap[k]?=w.heap[k]?):yl S w' l v:=by
 obtain ⟨g,e,y,z,o⟩:=h;exact ⟨g,e,y,z.kept hs hb,fun j x c hx hc=>(o j x c hx hc).kept hs hb⟩
theorem yl.wide {S S':Nat→Prop} {w:World} {l:List St} {v:Value} (h:yl S w l v) (hS:∀k,S k→S' k):yl S' w l v:=by
 obtain ⟨g,e,y,z,o⟩:=h;exact ⟨g,e,y,z.wide hS,fun j x c hx hc=>(o j x c hx hc).wide hS⟩
theorem yl.slice {S:Nat→Prop} {w:World} {l:List St} {v:Value} (h:yl S w l v):∃d0 d1 d2,v=.slice d0 d1 d2:=by
 obtain ⟨g,e,o,⟨_,rfl⟩ | ⟨rfl,_⟩,_⟩:=h
 ·exact ⟨_,_,_,rfl⟩
 ·exact ⟨_,_,_,rfl⟩
theorem Yv.of {S:Nat→Prop} {w:World} {es:List Ex} {body els:List St} {ve vb vl:Value} (k:Nat) (s:List UInt8) (line:Nat) (he:zK S w es ve) (hb:yl S w body vb) (hl:yl S w els vl) :
  Yv S w (.mk k s es body els line) (.agg #[.int .i64 k,.string (za s),ve,vb,vl,.int .i64 line]):=by
 obtain ⟨D,G,y,H,E⟩:=hb;obtain ⟨e,A,h,o,z⟩:=hl;exact .mk k s es body els line ve vb vl D G e A y h he H E o z
end Go.Proofs.YtmbofhpmockmbaaGreatDoor
