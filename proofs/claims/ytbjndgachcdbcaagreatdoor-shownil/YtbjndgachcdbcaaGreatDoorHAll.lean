import Derived.Test.YtbjndgachcdbcaaGreatDoorHShow2
namespace Go.Proofs.YtbjndgachcdbcaaGreatDoor
open Go.RowKit Go.Shelf
def uo:List Ob→List Value→List Value
 | o::os,v::vs=>.string (za o.1)::v::uo os vs
 | _,_=>[]
structure XI (B:Nat) (w:World) (os:List Ob) (v:Value) (vs:List Value):Prop where
 len:vs.length=os.length
 row:w.ownsRow B 49 2 v os.length (uo os vs)
 kids:∀j (hj:j<os.length),∃u,vs[j]?=some u∧w.ownsRow B 56 3 u (os[j]).2.length (Zr (os[j]).2)
theorem XI.kept {B:Nat} {w w':World} {os:List Ob} {v:Value} {vs:List Value} (h:XI B w os v vs) (hb:∀k,B≤k→k<w.heap.size→w'.heap[k]?=w.heap[k]?):XI B w' os v vs where
 len:=h.len
 row:=zm h.row fun k hk hlt=>hb k (h.row.lt k hk).1 hlt
 kids:=fun j hj=>by
  obtain ⟨u,c,b⟩:=h.kids j hj;exact ⟨u,c,zm b fun k hk hlt=>hb k (b.lt k hk).1 hlt⟩
def yI (S:Nat→Prop) (w:World) (v:Value) (os:List Ob):Prop :=
 ∃base cap,v=.slice base os.length cap∧os.length≤cap∧cap≤maxLen ∧
  (os=[]∨∃b o,base=some ⟨b,o,none⟩∧S b∧b<w.heap.size∧∀j (hj:j<os.length),∃u,w.cell? ⟨b,o+j*2,none⟩=some (.string (za (os[j]).1))∧w.cell? ⟨b,o+j*2+1,none⟩=some u∧zC S w u (os[j]).2)
theorem yI.kept {S:Nat→Prop} {w w':World} {v:Value} {os:List Ob} (h:yI S w v os) (hs:w.heap.size≤w'.heap.size) (hb:∀k,S k→k<w.heap.size→w'.heap[k]?=w.heap[k]?):yI S w' v os:=by
 obtain ⟨base,x,q,A,E,m⟩:=h;refine ⟨base,x,q,A,E,?_⟩;rcases m with m | ⟨b,o,e,y,c,B⟩
 ·exact .inl m
 ·refine .inr ⟨b,o,e,y,Nat.lt_of_lt_of_le c hs,fun j hj=>?_⟩
  obtain ⟨u,z,D,q⟩:=B j hj;exact ⟨u,(World.cell?_of_block (hb b y c)).trans z,(World.cell?_of_block (hb b y c)).trans D,q.kept hs hb⟩
theorem yI.wide {S S':Nat→Prop} {w:World} {v:Value} {os:List Ob} (h:yI S w v os) (hS:∀k,k<w.heap.size→S k→S' k):yI S' w v os:=by
 obtain ⟨base,x,q,z,E,m⟩:=h;refine ⟨base,x,q,z,E,?_⟩;rcases m with m | ⟨b,o,e,A,c,B⟩
 ·exact .inl m
 ·refine .inr ⟨b,o,e,hS b c A,c,fun j hj=>?_⟩
  obtain ⟨u,y,D,q⟩:=B j hj;exact ⟨u,y,D,q.low.wide fun k hk=>hS k hk.2 hk.1⟩
end Go.Proofs.YtbjndgachcdbcaaGreatDoor
