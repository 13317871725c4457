import Derived.Test.YtmbofhpmockmbaaGreatDoorMC33
namespace Go.Proofs.YtmbofhpmockmbaaGreatDoor
open Go.RowKit Go.Shelf
def XK (w : World) : Prop := Zp w ∧ Lib.TabIs Tryz.prog w "internal/strconv.uint64pow10" .u64 Lib.pow10Tab
theorem XK.below {w w':World} {B:Nat} (h:XK w) (hb:Below B w w') (hB:w.heap.size≤B):XK w' :=
 ⟨h.1.below hb hB,Lib.tabBelow_of_tabIs h.2 w' (hb.mono hB)⟩
def UD (k n:Int) (s:List UInt8):List UInt8:=if k=2 then Lib.itoa n else if k=3 then Ub s else s
def uU (k n:Int) (s:List UInt8):Prop:=(Zw (UD k n s)).e=0∧((Zw (UD k n s)).k:Int)=k∧(Zw (UD k n s)).s=s∧((Zw (UD k n s)).n:Int)=n
instance (k n:Int) (s:List UInt8):Decidable (uU k n s):=by unfold uU;infer_instance
end Go.Proofs.YtmbofhpmockmbaaGreatDoor
