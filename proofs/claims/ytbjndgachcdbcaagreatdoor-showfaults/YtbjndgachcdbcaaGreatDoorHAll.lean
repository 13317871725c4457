import Derived.Test.YtbjndgachcdbcaaGreatDoorHShow2
namespace Go.Proofs.YtbjndgachcdbcaaGreatDoor
open Go.RowKit Go.Shelf
def VL:List Ob→List Value→List Value
 | o::os,v::vs=>.string (za o.1)::v::VL os vs
 | _,_=>[]
structure Xp (B:Nat) (w:World) (os:List Ob) (v:Value) (vs:List Value):Prop where
 len:vs.length=os.length
 row:w.ownsRow B 49 2 v os.length (VL os vs)
 kids:∀j (hj:j<os.length),∃u,vs[j]?=some u∧w.ownsRow B 56 3 u (os[j]).2.length (Zp (os[j]).2)
theorem Xp.kept {B:Nat} {w w':World} {os:List Ob} {v:Value} {vs:List Value} (h:Xp B w os v vs) (hb:∀k,B≤k→k<w.heap.size→w'.heap[k]?=w.heap[k]?):Xp B w' os v vs where
 len:=h.len
 row:=zm h.row fun k hk hlt=>hb k (h.row.lt k hk).1 hlt
 kids:=fun j hj=>by
  obtain ⟨u,c,b⟩:=h.kids j hj;exact ⟨u,c,zm b fun k hk hlt=>hb k (b.lt k hk).1 hlt⟩
def yE (S:Nat→Prop) (w:World) (v:Value) (os:List Ob):Prop :=
 ∃base cap,v=.slice base os.length cap∧os.length≤cap∧cap≤maxLen ∧
  (os=[]∨∃b o,base=some ⟨b,o,none⟩∧S b∧b<w.heap.size∧∀j (hj:j<os.length),∃u,w.cell? ⟨b,o+j*2,none⟩=some (.string (za (os[j]).1))∧w.cell? ⟨b,o+j*2+1,none⟩=some u∧zC S w u (os[j]).2)
theorem yE.kept {S:Nat→Prop} {w w':World} {v:Value} {os:List Ob} (h:yE S w v os) (hs:w.heap.size≤w'.heap.size) (hb:∀k,S k→k<w.heap.size→w'.heap[k]?=w.heap[k]?):yE S w' v os:=by
 obtain ⟨base,y,q,B,D,x⟩:=h;refine ⟨base,y,q,B,D,?_⟩;rcases x with x | ⟨b,o,e,m,c,A⟩
 ·exact .inl x
 ·refine .inr ⟨b,o,e,m,Nat.lt_of_lt_of_le c hs,fun j hj=>?_⟩
  obtain ⟨u,z,E,q⟩:=A j hj;exact ⟨u,(World.cell?_of_block (hb b m c)).trans z,(World.cell?_of_block (hb b m c)).trans E,q.kept hs hb⟩
theorem yE.wide {S S':Nat→Prop} {w:World} {v:Value} {os:List Ob} (h:yE S w v os) (hS:∀k,k<w.heap.size→S k→S' k):yE S' w v os:=by
 obtain ⟨base,x,m,A,B,q⟩:=h;refine ⟨base,x,m,A,B,?_⟩;rcases q with q | ⟨b,o,e,D,c,z⟩
 ·exact .inl q
 ·refine .inr ⟨b,o,e,hS b c D,c,fun j hj=>?_⟩
  obtain ⟨u,y,E,m⟩:=z j hj;exact ⟨u,y,E,m.low.wide fun k hk=>hS k hk.2 hk.1⟩
end Go.Proofs.YtbjndgachcdbcaaGreatDoor
