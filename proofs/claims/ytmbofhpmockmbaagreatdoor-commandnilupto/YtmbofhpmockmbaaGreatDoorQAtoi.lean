import Derived.Test.YtmbofhpmockmbaaGreatDoorQCheck
import Derived.Test.YtmbofhpmockmbaaGreatDoorQCut
import Derived.Lib.AtoiAllCases
namespace Go.Proofs.YtmbofhpmockmbaaGreatDoor
open Go.RowKit Go.Shelf
def QT (w:World):Prop:=y8 w∧∃u v,w.cell? ⟨1,0,none⟩=some (.iface u v)
theorem QT.below {w w':World} (h:QT w) (hb:Below w.heap.size w w'):QT w':=by
 obtain ⟨y,u,v,o⟩:=h;exact ⟨y.below hb,u,v,by rw [hb.cell (World.block_lt_of_cell? w _ o)];exact o⟩
theorem Vz (l:List UInt8) (w:World) (hl:l.length≤100000000) (hT:QT w) :
  Calls Tryz.prog 39 #[.string (za l)] w fun e w'=>∃v,e=.returned (.tuple #[.int .i64 (yx l),v])∧Below w.heap.size w w':=by
 obtain ⟨G,u,v,E⟩:=hT;obtain ⟨H,I,z⟩:=G.1.1.range;have J:(za l).size=l.length:=rfl;cases h:Lib.atoiAll l with
 | ok x =>
  have o:yx l=x:=by unfold yx;rw [h]
  rw [o];refine (Tryz.strconv_Atoi_ok (za l) (by omega) x h w).mono ?_
  rintro e A ⟨rfl,D⟩;refine ⟨_,rfl,?_⟩;rcases D with rfl | ⟨t,rfl⟩
  ·exact Below.refl _ _
  ·exact Lib.bytesWorld_below _ _ _
 | «syntax» =>
  have o:yx l=0:=by unfold yx;rw [h]
  rw [o];refine (Tryz.strconv_Atoi_syntax (za l) (by omega) h _ w E (.inr ⟨_,_,rfl⟩)).mono ?_
  rintro e A ⟨N,rfl,-,-,y⟩;exact ⟨_,rfl,y⟩
 | range =>
  have o:yx l=Lib.atoiSat l:=by unfold yx;rw [h]
  rw [o];refine (Tryz.strconv_Atoi_range (za l) (by omega) h _ w z (.inr ⟨_,_,rfl⟩)).mono ?_
  rintro e A ⟨N,rfl,-,-,y⟩;exact ⟨_,rfl,y⟩
end Go.Proofs.YtmbofhpmockmbaaGreatDoor
