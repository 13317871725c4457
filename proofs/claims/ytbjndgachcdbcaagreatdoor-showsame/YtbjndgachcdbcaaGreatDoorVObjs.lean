import Derived.Test.YtbjndgachcdbcaaGreatDoorVTabs
namespace Go.Proofs.YtbjndgachcdbcaaGreatDoor
open Go.ChangeShapes Go.WideShapes Go.ChangeAt Go.RowKit
set_option maxRecDepth 100000
section
variable {H:Type} {enc:TypeId × Value→H} {w:World}
theorem uR {fuel:Nat} {hd:Bool} {v:Value} {x:DataW H × List MemPlace} (h:DataW.trod enc Tryz.prog w 0 (fun _=>true) hd fuel 36 [v]=some x) (hB:Rows.uptoBulk x.1≤1048576) :
  ∃os,zD (fun _=>True) w v os∧(∀o∈os,Ze o)∧(∀o∈os,o.2.length≤1048576)∧os.length≤1048576:=by
 obtain ⟨l,r,g,e,-⟩:=Zu Tryz.underlying36 vU (by omega) V3 h hB
 exact ⟨l,(V1 r).wide fun _ _ _=>trivial,fun o ho=>⟨(g o ho).1,fun v hv=>((g o ho).2.1 v hv).1⟩,fun o ho=>(g o ho).2.2,e⟩
theorem Uv {v:Value} {d:DataW H} {p:List MemPlace} {hd:Bool} (hv:∃b:Array Value,v=.agg b) (h:∃fuel,DataW.trod enc Tryz.prog w 0 (fun _=>true) hd fuel 49 v.cells.toList=some (d,p)) (hB:Rows.uptoBulk d≤1048576) :
  ∃(o:Ob) (u:Value),v=.agg #[.string (za o.1),u]∧zk (fun q=>q<w.heap.size) w u o.2∧YK o:=by
 obtain ⟨b,rfl⟩:=hv;obtain ⟨fuel,c⟩:=h;have y:DataW.trod enc Tryz.prog w 0 (fun _=>true) hd fuel 49 b.toList=some (d,p):=by simpa [Value.cells] using c
 obtain ⟨I,m,B⟩:=Xj Tryz.underlying49 vU y;obtain ⟨u0,M,A,J,F⟩:=B 0 _ rfl Z8 rfl (by omega)
 obtain ⟨u1,K,z,D,E⟩:=B 1 _ rfl Vr rfl (by omega)
 simp only at F E;obtain ⟨s,rfl,G⟩:=zQ J (by omega)
 obtain ⟨l,r,g,e,-⟩:=Zu Tryz.underlying47 Xk (by omega) Yl D (by omega)
 match b,I with
 | ⟨[a0,a1]⟩,_ =>
  simp only [List.getElem?_cons_zero,List.getElem?_cons_succ,Option.some.injEq] at A z;subst A z;exact ⟨(s,l),_,rfl,xO r,G,g,e⟩
end
end Go.Proofs.YtbjndgachcdbcaaGreatDoor
