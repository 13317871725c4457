import Derived.Test.YtbjndgachcdbcaaGreatDoorHAll
namespace Go.Proofs.YtbjndgachcdbcaaGreatDoor
open Go.RowKit Go.Shelf
theorem z8.at {S:Nat→Prop} {w:World} {v:Value} {os:List Ob} (h:z8 S w v os):∃base c,v=.slice base os.length c∧os.length≤c∧c≤maxLen ∧
  ∀i (hi:i<os.length),∃b o u,base=some ⟨b,o,none⟩∧S b∧b<w.heap.size∧w.cell? ⟨b,o+i*2,none⟩=some (.string (za (os[i]).1))∧w.cell? ⟨b,o+i*2+1,none⟩=some u∧zp S w u (os[i]).2:=by
 obtain ⟨base,c,m,D,A,q⟩:=h;refine ⟨base,c,m,D,A,fun i hi=>?_⟩
 rcases q with q | ⟨b,o,e,z,y,E⟩
 ·subst q;simp at hi
 ·obtain ⟨u,F,B,m⟩:=E i hi
  exact ⟨b,o,u,e,z,y,F,B,m⟩
end Go.Proofs.YtbjndgachcdbcaaGreatDoor
