import Derived.Test.YtbjndgachcdbcaaGreatDoorHAll
namespace Go.Proofs.YtbjndgachcdbcaaGreatDoor
open Go.RowKit Go.Shelf
theorem Zc.at {S:Nat→Prop} {w:World} {v:Value} {os:List Ob} (h:Zc S w v os):∃base c,v=.slice base os.length c∧os.length≤c∧c≤maxLen ∧
  ∀i (hi:i<os.length),∃b o u,base=some ⟨b,o,none⟩∧S b∧b<w.heap.size∧w.cell? ⟨b,o+i*2,none⟩=some (.string (za (os[i]).1))∧w.cell? ⟨b,o+i*2+1,none⟩=some u∧zp S w u (os[i]).2:=by
 obtain ⟨base,c,m,D,z,q⟩:=h;refine ⟨base,c,m,D,z,fun i hi=>?_⟩
 rcases q with q | ⟨b,o,e,A,y,E⟩
 ·subst q;simp at hi
 ·obtain ⟨u,B,F,m⟩:=E i hi
  exact ⟨b,o,u,e,A,y,B,F,m⟩
end Go.Proofs.YtbjndgachcdbcaaGreatDoor
