import Derived.Test.YtbjndgachcdbcaaGreatDoorXTabs2
import Derived.Test.YtbjndgachcdbcaaGreatDoorPModel
import Derived.Test.YtbjndgachcdbcaaGreatDoorLRow
import Derived.ChangeSame
import Derived.Deep.DeepHandedRow
import Derived.Deep.Slices
import Derived.JoinedOf
import Derived.JoinedCond
import Derived.SizedLaws
import Derived.MakeChecks
import Derived.Lay
import Derived.LaidOnce
namespace Go.Proofs.YtbjndgachcdbcaaGreatDoor
open Go.ChangeShapes Go.WideShapes Go.ChangeAt Go.RowKit
set_option maxRecDepth 100000
instance:Inhabited Vl:=⟨⟨0,0,[]⟩⟩
instance:Inhabited uf:=⟨⟨0,0,0,[],[]⟩⟩
theorem V3 {v:Value} {cs:List Value} {i:Nat} (h:(cs.drop i).take 1=[v]):cs[i]?=some v:=by
 have:=congrArg (fun l=>l[0]?) h
 simpa [List.getElem?_take,List.getElem?_drop] using this
theorem yJ {H:Type} {d:DataW H}:∀{l:List (DataW H)},d∈l→Rows.uptoBulk d≤Rows.uptoBulkAll l
 | [],h=>by cases h
 | x::l,h=>by
  simp only [Rows.uptoBulkAll];rcases List.mem_cons.1 h with rfl | h
  ·omega
  ·have:=yJ h;omega
theorem uu {H:Type} {enc:TypeId × Value→H} {w:World} {fuel:Nat} {hd:Bool} {cs:List Value} {x:DataW H × List MemPlace} {t:TypeId} {fs:Array Field} {k:Nat} (hu:Tryz.prog.underlying t=some (.struct fs)) (hk:Tryz.prog.cellsOf t=k)
  (h:DataW.trod enc Tryz.prog w 0 (fun _=>true) hd fuel t cs=some x) :
  cs.length=k∧∃m,∀i f,fs[i]?=some f→Tryz.prog.cellsOf f.type=1→f.offset=i→i<k→∃u y,cs[i]?=some u∧DataW.trod enc Tryz.prog w 0 (fun _=>true) hd m f.type [u]=some y∧Rows.uptoBulk y.1≤Rows.uptoBulk x.1:=by
 obtain ⟨c,m,-,rfl,e,B,z⟩:=DataW.trod_struct hu h;rw [hk] at e;refine ⟨e,m,fun i f hf hc ho hi=>?_⟩
 have q:=z i f hf;rw [hc,ho] at q;have A:i<fs.size:=(Array.getElem?_eq_some_iff.1 hf).1;have o:i<c.length:=by omega
 rw [List.getElem?_eq_getElem o] at q
 obtain ⟨u,b⟩:∃u,(cs.drop i).take 1=[u]:=by
  match hd9:(cs.drop i).take 1,(show ((cs.drop i).take 1).length=1 by rw [List.length_take,List.length_drop];omega) with
  | [u],_=>exact ⟨u,rfl⟩
 rw [b] at q;refine ⟨u,c[i],V3 b,q,?_⟩
 have:=yJ (List.mem_map.2 ⟨c[i],List.getElem_mem o,rfl⟩:c[i].1∈c.map (·.1))
 simp only [Rows.uptoBulk];omega
theorem Vq:Tryz.prog.cellsOf 9=1:=by kernel_rfl
theorem XL:Tryz.prog.cellsOf 3=1:=by kernel_rfl
theorem vK:Tryz.prog.cellsOf 26=1:=by kernel_rfl
theorem Vr:Tryz.prog.cellsOf 23=1:=by kernel_rfl
section
variable {H:Type} {enc:TypeId × Value→H} {w:World} {fuel:Nat} {hd:Bool} {u:Value} {y:DataW H × List MemPlace}
theorem Zj {t:TypeId} (ht:Tryz.prog.underlying t=some (.int .i64)) (h:DataW.trod enc Tryz.prog w 0 (fun _=>true) hd fuel t [u]=some y):∃n,u=.int .i64 n∧vZ n:=by
 obtain ⟨n,a,-,c⟩:=DataW.trod_int ht h;simp only [List.cons.injEq,and_true] at a;exact ⟨n,a,uh c⟩
end
section
variable {H:Type} {enc:TypeId × Value→H} {w:World}
end
end Go.Proofs.YtbjndgachcdbcaaGreatDoor
