import Derived.Test.YtbjndgachcdbcaaGreatDoorHAll
namespace Go.Proofs.YtbjndgachcdbcaaGreatDoor
open Go.RowKit Go.Shelf
theorem zD.at {S:Nat→Prop} {w:World} {v:Value} {os:List Ob} (h:zD S w v os):∃base c,v=.slice base os.length c∧os.length≤c∧c≤maxLen ∧
  ∀i (hi:i<os.length),∃b o u,base=some ⟨b,o,none⟩∧S b∧b<w.heap.size∧w.cell? ⟨b,o+i*2,none⟩=some (.string (za (os[i]).1))∧w.cell? ⟨b,o+i*2+1,none⟩=some u∧zk S w u (os[i]).2:=by
 obtain ⟨base,c,m,F,z,y⟩:=h;refine ⟨base,c,m,F,z,fun i hi=>?_⟩
 rcases y with y | ⟨b,o,e,D,q,B⟩
 ·subst y;simp at hi
 ·obtain ⟨u,A,E,m⟩:=B i hi
  exact ⟨b,o,u,e,D,q,A,E,m⟩
end Go.Proofs.YtbjndgachcdbcaaGreatDoor
