import Derived.Test.YtbjndgachcdbcaaGreatDoorMC17
namespace Go.Proofs.YtbjndgachcdbcaaGreatDoor
open Go.RowKit Go.Shelf
def Uo:List Ob→List Value→List Value
 | o::os,v::vs=>.string (za o.1)::v::Uo os vs
 | _,_=>[]
structure X6 (B:Nat) (w:World) (os:List Ob) (v:Value) (vs:List Value):Prop where
 len:vs.length=os.length
 row:w.ownsRow B 49 2 v os.length (Uo os vs)
 kids:∀j (hj:j<os.length),∃u,vs[j]?=some u∧w.ownsRow B 56 3 u (os[j]).2.length (vlC (os[j]).2)
theorem X6.kept {B:Nat} {w w':World} {os:List Ob} {v:Value} {vs:List Value} (h:X6 B w os v vs) (hb:∀k,B≤k→k<w.heap.size→w'.heap[k]?=w.heap[k]?):X6 B w' os v vs where
 len:=h.len
 row:=zh h.row fun k hk hlt=>hb k (h.row.lt k hk).1 hlt
 kids:=fun j hj=>by
  obtain ⟨u,c,b⟩:=h.kids j hj;exact ⟨u,c,zh b fun k hk hlt=>hb k (b.lt k hk).1 hlt⟩
def Zc (S:Nat→Prop) (w:World) (v:Value) (os:List Ob):Prop :=
 ∃base cap,v=.slice base os.length cap∧os.length≤cap∧cap≤maxLen ∧
  (os=[]∨∃b o,base=some ⟨b,o,none⟩∧S b∧b<w.heap.size∧∀j (hj:j<os.length),∃u,w.cell? ⟨b,o+j*2,none⟩=some (.string (za (os[j]).1))∧w.cell? ⟨b,o+j*2+1,none⟩=some u∧zp S w u (os[j]).2)
theorem Zc.kept {S:Nat→Prop} {w w':World} {v:Value} {os:List Ob} (h:Zc S w v os) (hs:w.heap.size≤w'.heap.size) (hb:∀k,S k→k<w.heap.size→w'.heap[k]?=w.heap[k]?):Zc S w' v os:=by
 obtain ⟨base,z,q,D,A,y⟩:=h;refine ⟨base,z,q,D,A,?_⟩;rcases y with y | ⟨b,o,e,m,c,E⟩
 ·exact .inl y
 ·refine .inr ⟨b,o,e,m,Nat.lt_of_lt_of_le c hs,fun j hj=>?_⟩
  obtain ⟨u,B,F,q⟩:=E j hj;exact ⟨u,(World.cell?_of_block (hb b m c)).trans B,(World.cell?_of_block (hb b m c)).trans F,q.kept hs hb⟩
theorem Zc.wide {S S':Nat→Prop} {w:World} {v:Value} {os:List Ob} (h:Zc S w v os) (hS:∀k,k<w.heap.size→S k→S' k):Zc S' w v os:=by
 obtain ⟨base,y,m,D,z,q⟩:=h;refine ⟨base,y,m,D,z,?_⟩;rcases q with q | ⟨b,o,e,A,c,E⟩
 ·exact .inl q
 ·refine .inr ⟨b,o,e,hS b c A,c,fun j hj=>?_⟩
  obtain ⟨u,B,F,m⟩:=E j hj;exact ⟨u,B,F,m.low.wide fun k hk=>hS k hk.2 hk.1⟩
end Go.Proofs.YtbjndgachcdbcaaGreatDoor
