import Derived.Test.YtbjndgachcdbcaaGreatDoorVObjs
namespace Go.Proofs.YtbjndgachcdbcaaGreatDoor
open Go.ChangeShapes Go.WideShapes Go.ChangeAt Go.RowKit
theorem V6 {H:Type} {enc:TypeId × Value→H} {w:World} {fuel:Nat} {hd:Bool} {v:Value} {x:DataW H × List MemPlace} (h:DataW.trod enc Tryz.prog w 0 (fun _=>true) hd fuel 36 [v]=some x) (hB:Rows.uptoBulk x.1≤1048576) :
  ∃os,zD (fun _=>True) w v os∧(∀o∈os,Ze o)∧(∀o∈os,o.2.length≤1048576)∧os.length<1048576∧(v=.slice none 0 0∨∃ad n c,v=.slice (some ad) n c):=by
 obtain ⟨os,q,y,u,-⟩:=uR h hB;obtain ⟨base,B,e,-⟩:=id q;rcases Deep.open_slice Tryz.underlying36 h with ⟨b,z⟩ | ⟨a,len,A,m,n,D,J,b,-,M,K,E,z,I⟩
 ·simp at b
  rw [b] at e;simp only [Value.slice.injEq] at e;exact ⟨os,q,y,u,by omega,.inl b⟩
 ·simp at b
  rw [b] at e;simp only [Value.slice.injEq] at e
  have G:Rows.uptoBulkAll ((List.range len).map D)+1≤1048576:=by
   rw [z] at hB;simp only [Rows.uptoBulk] at hB;omega
  have F:=X6 ((List.range len).map D);rw [List.length_map,List.length_range] at F;exact ⟨os,q,y,u,by omega,.inr ⟨_,_,_,b⟩⟩
end Go.Proofs.YtbjndgachcdbcaaGreatDoor
