import Derived.Test.YtmbofhpmockmbaaGreatDoorMC15
import Derived.Test.YtmbofhpmockmbaaGreatDoorMC14
import Derived.Test.YtmbofhpmockmbaaGreatDoorMC13
import Derived.Test.YtmbofhpmockmbaaGreatDoorMC18
namespace Go.Proofs.YtmbofhpmockmbaaGreatDoor
open Go.RowKit Go.Shelf
abbrev Pm:=List UInt8 × List UInt8
def PmE (_:Nat→Prop) (_:World) (x:Pm) (c:List Value):Prop:=c=[.string (za x.1),.string (za x.2)]
theorem YZ:Z0 PmE:=⟨fun h _ _=>h,fun h _=>h,fun h=>h⟩
structure Rc where
 name:List UInt8
 fields:List Pm
 line:Nat
inductive St where
 | mk (k:Nat) (s:List UInt8) (es:List Ex) (body els:List St) (line:Nat)
def yY (S:Nat→Prop) (w:World) (l:List St) (v:Value) (g cap:Nat) (us:List (List Value)):Prop :=
 (l=[]∧v=.slice none 0 0)∨(v=.slice (some ⟨g,0,none⟩) l.length cap∧l≠[]∧us.length=l.length∧S g∧g<w.heap.size∧l.length≤cap∧cap≤maxLen∧(∀j u,us.flatten[j]?=some u→w.cell? ⟨g,j,none⟩=some u)∧∀c∈us,c.length=6)
theorem yY.kept {S:Nat→Prop} {w w':World} {l:List St} {v:Value} {g cap:Nat} {us:List (List Value)} (h:yY S w l v g cap us) (hs:w.heap.size≤w'.heap.size) (hb:∀k,S k→k<w.heap.size→w'.heap[k]?=w.heap[k]?):yY S w' l v g cap us:=by
 rcases h with h | ⟨H,D,y,o,e,z,A,G,E⟩
 ·exact .inl h
 ·refine .inr ⟨H,D,y,o,Nat.lt_of_lt_of_le e hs,z,A,fun j u hj=>?_,E⟩
  rw [World.cell?_of_block (hb g o e)];exact G j u hj
theorem yY.wide {S S':Nat→Prop} {w:World} {l:List St} {v:Value} {g cap:Nat} {us:List (List Value)} (h:yY S w l v g cap us) (hS:∀k,S k→S' k):yY S' w l v g cap us:=by
 rcases h with h | ⟨H,z,e,D,A,o,y,G,E⟩
 ·exact .inl h
 ·exact .inr ⟨H,z,e,hS _ D,A,o,y,G,E⟩
theorem yY.low {S:Nat→Prop} {w:World} {l:List St} {v:Value} {g cap:Nat} {us:List (List Value)} (h:yY S w l v g cap us):yY (fun k=>S k∧k<w.heap.size) w l v g cap us:=by
 rcases h with h | ⟨H,A,o,D,e,y,z,G,E⟩
 ·exact .inl h
 ·exact .inr ⟨H,A,o,⟨D,e⟩,e,y,z,G,E⟩
theorem zI.lower {S:Nat→Prop} {w:World} {l:List Ex} {v:Value} (h:zI S w l v):zI (fun k=>S k∧k<w.heap.size) w l v:=zI.low h
inductive Yo (S:Nat→Prop) (w:World):St→Value→Prop where
 | mk (k:Nat) (s:List UInt8) (es:List Ex) (body els:List St) (line:Nat) (ve vb vl:Value) (gb cb gl cl:Nat) (ub ul:List (List Value)) (he:zI S w es ve)
   (hb:yY S w body vb gb cb ub) (hbk:∀(j:Nat) (x:St) (c:List Value),body[j]?=some x→ub[j]?=some c→Yo S w x (.agg c.toArray))
   (hl:yY S w els vl gl cl ul) (hlk:∀(j:Nat) (x:St) (c:List Value),els[j]?=some x→ul[j]?=some c→Yo S w x (.agg c.toArray)) :
   Yo S w (.mk k s es body els line) (.agg #[.int .i64 k,.string (za s),ve,vb,vl,.int .i64 line])
theorem Yo.kept {S:Nat→Prop} {w w':World} {x:St} {v:Value} (h:Yo S w x v) (hs:w.heap.size≤w'.heap.size) (hb:∀k,S k→k<w.heap.size→w'.heap[k]?=w.heap[k]?):Yo S w' x v:=by
 induction h with
 | mk k s es body els line ve vb vl gb cb gl cl ub ul he hbr hbk hl hlk ih1 ih2 =>
  exact .mk k s es body els line ve vb vl gb cb gl cl ub ul (he.kept hs hb) (hbr.kept hs hb) ih1 (hl.kept hs hb) ih2
theorem Yo.wide {S S':Nat→Prop} {w:World} {x:St} {v:Value} (h:Yo S w x v) (hS:∀k,S k→S' k):Yo S' w x v:=by
 induction h with
 | mk k s es body els line ve vb vl gb cb gl cl ub ul he hbr hbk hl hlk ih1 ih2 =>
  exact .mk k s es body els line ve vb vl gb cb gl cl ub ul (he.wide hS) (hbr.wide hS) ih1 (hl.wide hS) ih2
theorem Yo.low {S:Nat→Prop} {w:World} {x:St} {v:Value} (h:Yo S w x v):Yo (fun k=>S k∧k<w.heap.size) w x v:=by
 induction h with
 | mk k s es body els line ve vb vl gb cb gl cl ub ul he hbr hbk hl hlk ih1 ih2 =>
  exact .mk k s es body els line ve vb vl gb cb gl cl ub ul he.lower hbr.low ih1 hl.low ih2
def yh (S:Nat→Prop) (w:World) (l:List St) (v:Value):Prop :=
 ∃g cap us,yY S w l v g cap us∧∀(j:Nat) (x:St) (c:List Value),l[j]?=some x→us[j]?=some c→Yo S w x (.agg c.toArray)
theorem yh.nil (S:Nat→Prop) (w:World):yh S w [] (.slice none 0 0):=⟨0,0,[],.inl ⟨rfl,rfl⟩,fun j x c h=>by simp at h⟩
theorem yh.kept {S:Nat→Prop} {w w':World} {l:List St} {v:Value} (h:yh S w l v) (hs:w.heap.size≤w'.heap.size) (hb:∀k,S k→k<w.heap.size→w'.heap[k]?=w.heap[k]?):yh S w' l v:=by
 obtain ⟨g,e,z,y,o⟩:=h;exact ⟨g,e,z,y.kept hs hb,fun j x c hx hc=>(o j x c hx hc).kept hs hb⟩
theorem yh.wide {S S':Nat→Prop} {w:World} {l:List St} {v:Value} (h:yh S w l v) (hS:∀k,S k→S' k):yh S' w l v:=by
 obtain ⟨g,e,z,y,o⟩:=h;exact ⟨g,e,z,y.wide hS,fun j x c hx hc=>(o j x c hx hc).wide hS⟩
theorem yh.slice {S:Nat→Prop} {w:World} {l:List St} {v:Value} (h:yh S w l v):∃d0 d1 d2,v=.slice d0 d1 d2:=by
 obtain ⟨g,e,o,⟨_,rfl⟩ | ⟨rfl,_⟩,_⟩:=h
 ·exact ⟨_,_,_,rfl⟩
 ·exact ⟨_,_,_,rfl⟩
theorem Yo.of {S:Nat→Prop} {w:World} {es:List Ex} {body els:List St} {ve vb vl:Value} (k:Nat) (s:List UInt8) (line:Nat) (he:zI S w es ve) (hb:yh S w body vb) (hl:yh S w els vl) :
  Yo S w (.mk k s es body els line) (.agg #[.int .i64 k,.string (za s),ve,vb,vl,.int .i64 line]):=by
 obtain ⟨E,D,h,G,o⟩:=hb;obtain ⟨y,H,z,e,A⟩:=hl;exact .mk k s es body els line ve vb vl E D y H h z he G o e A
end Go.Proofs.YtmbofhpmockmbaaGreatDoor
