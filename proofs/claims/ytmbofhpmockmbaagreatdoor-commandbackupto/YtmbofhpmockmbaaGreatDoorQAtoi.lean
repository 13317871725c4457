import Derived.Test.YtmbofhpmockmbaaGreatDoorQCheck
import Derived.Test.YtmbofhpmockmbaaGreatDoorQCut
import Derived.Lib.AtoiAllCases
namespace Go.Proofs.YtmbofhpmockmbaaGreatDoor
open Go.RowKit Go.Shelf
def QT (w:World):Prop:=yR w∧∃u v,w.cell? ⟨1,0,none⟩=some (.iface u v)
theorem QT.below {w w':World} (h:QT w) (hb:Below w.heap.size w w'):QT w':=by
 obtain ⟨o,u,v,e⟩:=h;exact ⟨o.below hb,u,v,by rw [hb.cell (World.block_lt_of_cell? w _ e)];exact e⟩
theorem vz (l:List UInt8) (w:World) (hl:l.length≤100000000) (hT:QT w) :
  Calls Tryz.prog 39 #[.string (za l)] w fun e w'=>∃v,e=.returned (.tuple #[.int .i64 (Z1 l),v])∧Below w.heap.size w w':=by
 obtain ⟨D,u,v,E⟩:=hT;obtain ⟨H,I,y⟩:=D.1.1.range;have J:(za l).size=l.length:=rfl;cases h:Lib.atoiAll l with
 | ok x =>
  have o:Z1 l=x:=by unfold Z1;rw [h]
  rw [o];refine (Tryz.strconv_Atoi_ok (za l) (by omega) x h w).mono ?_
  rintro e A ⟨rfl,G⟩;refine ⟨_,rfl,?_⟩;rcases G with rfl | ⟨t,rfl⟩
  ·exact Below.refl _ _
  ·exact Lib.bytesWorld_below _ _ _
 | «syntax» =>
  have o:Z1 l=0:=by unfold Z1;rw [h]
  rw [o];refine (Tryz.strconv_Atoi_syntax (za l) (by omega) h _ w E (.inr ⟨_,_,rfl⟩)).mono ?_
  rintro e A ⟨N,rfl,-,-,z⟩;exact ⟨_,rfl,z⟩
 | range =>
  have o:Z1 l=Lib.atoiSat l:=by unfold Z1;rw [h]
  rw [o];refine (Tryz.strconv_Atoi_range (za l) (by omega) h _ w y (.inr ⟨_,_,rfl⟩)).mono ?_
  rintro e A ⟨N,rfl,-,-,z⟩;exact ⟨_,rfl,z⟩
end Go.Proofs.YtmbofhpmockmbaaGreatDoor
