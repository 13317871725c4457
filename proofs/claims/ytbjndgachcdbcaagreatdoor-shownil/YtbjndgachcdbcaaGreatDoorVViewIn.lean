import Derived.Test.YtbjndgachcdbcaaGreatDoorPStIn
import Derived.Test.YtbjndgachcdbcaaGreatDoorVLives
namespace Go.Proofs.YtbjndgachcdbcaaGreatDoor
open Go.ChangeShapes Go.WideShapes Go.ChangeAt Go.RowKit
set_option maxRecDepth 100000
instance:Inhabited Bn:=⟨⟨[],⟨0,0,[]⟩⟩⟩
instance:Inhabited Fr:=⟨⟨[],0,[]⟩⟩
instance:Inhabited Sp:=⟨⟨0,0,[],[],false⟩⟩
theorem uv {H:Type} {enc:TypeId × Value→H} {w:World} {fuel:Nat} {hd:Bool} {cs:List Value} {x:DataW H × List MemPlace} {t:TypeId} {fs:Array Field} {k:Nat} (hu:Tryz.prog.underlying t=some (.struct fs)) (hk:Tryz.prog.cellsOf t=k)
  (h:DataW.trod enc Tryz.prog w 0 (fun _=>true) hd fuel t cs=some x) :
  cs.length=k∧∃m,∀(i:Nat) (f:Field),fs[i]?=some f→∃y,DataW.trod enc Tryz.prog w 0 (fun _=>true) hd m f.type ((cs.drop f.offset).take (Tryz.prog.cellsOf f.type))=some y∧Rows.uptoBulk y.1≤Rows.uptoBulk x.1:=by
 obtain ⟨b,m,-,rfl,c,z,o⟩:=DataW.trod_struct hu h;rw [hk] at c;refine ⟨c,m,fun i f hf=>?_⟩
 have q:=o i f hf;have u:i<fs.size:=(Array.getElem?_eq_some_iff.1 hf).1;have e:i<b.length:=by omega
 rw [List.getElem?_eq_getElem e] at q;refine ⟨b[i],q,?_⟩
 have:=yJ (List.mem_map.2 ⟨b[i],List.getElem_mem e,rfl⟩:b[i].1∈b.map (·.1))
 simp only [Rows.uptoBulk];omega
theorem Vs:Tryz.prog.cellsOf 31=1:=by kernel_rfl
theorem vL:Tryz.prog.cellsOf 27=1:=by kernel_rfl
theorem Vt:Tryz.prog.cellsOf 30=1:=by kernel_rfl
theorem XZ:Tryz.prog.cellsOf 29=5:=by kernel_rfl
theorem Xi:Tryz.prog.cellsOf 33=3:=by kernel_rfl
theorem V4:Tryz.prog.cellsOf 35=10:=by kernel_rfl
section
variable {H:Type} {enc:TypeId × Value→H} {w:World}
end
end Go.Proofs.YtbjndgachcdbcaaGreatDoor
