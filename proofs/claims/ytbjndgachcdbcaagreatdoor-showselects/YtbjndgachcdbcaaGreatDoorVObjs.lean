import Derived.Test.YtbjndgachcdbcaaGreatDoorVTabs
namespace Go.Proofs.YtbjndgachcdbcaaGreatDoor
open Go.ChangeShapes Go.WideShapes Go.ChangeAt Go.RowKit
section
variable {H:Type} {enc:TypeId × Value→H} {w:World}
theorem uj {fuel:Nat} {hd:Bool} {v:Value} {x:DataW H × List MemPlace} (h:DataW.trod enc Tryz.prog w 0 (fun _=>true) hd fuel 36 [v]=some x) (hB:Rows.uptoBulk x.1≤1048576) :
  ∃os,Zc (fun _=>True) w v os∧(∀o∈os,Zj o)∧(∀o∈os,o.2.length≤1048576)∧os.length≤1048576:=by
 obtain ⟨l,r,g,e,-⟩:=ZT Tryz.underlying36 ud (by omega) Vu h hB
 exact ⟨l,(Vs r).wide fun _ _ _=>trivial,fun o ho=>⟨(g o ho).1,fun v hv=>((g o ho).2.1 v hv).1⟩,fun o ho=>(g o ho).2.2,e⟩
end
end Go.Proofs.YtbjndgachcdbcaaGreatDoor
