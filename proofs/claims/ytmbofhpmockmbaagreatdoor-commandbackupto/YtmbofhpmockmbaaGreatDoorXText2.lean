import Derived.Test.YtmbofhpmockmbaaGreatDoorXText
namespace Go.Proofs.YtmbofhpmockmbaaGreatDoor
open Go.RowKit Go.Shelf
def xX (w : World) : Prop := Zh w ∧ Lib.TabIs Tryz.prog w "internal/strconv.uint64pow10" .u64 Lib.pow10Tab
theorem xX.below {w w':World} {B:Nat} (h:xX w) (hb:Below B w w') (hB:w.heap.size≤B):xX w' :=
 ⟨h.1.below hb hB,Lib.tabBelow_of_tabIs h.2 w' (hb.mono hB)⟩
def uc (k n:Int) (s:List UInt8):List UInt8:=if k=2 then Lib.itoa n else if k=3 then VU s else s
def VH (k n:Int) (s:List UInt8):Prop:=(Zn (uc k n s)).e=0∧((Zn (uc k n s)).k:Int)=k∧(Zn (uc k n s)).s=s∧((Zn (uc k n s)).n:Int)=n
instance (k n:Int) (s:List UInt8):Decidable (VH k n s):=by unfold VH;infer_instance
end Go.Proofs.YtmbofhpmockmbaaGreatDoor
