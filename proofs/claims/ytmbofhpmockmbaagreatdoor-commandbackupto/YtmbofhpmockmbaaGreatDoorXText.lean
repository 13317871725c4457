import Derived.Test.YtmbofhpmockmbaaGreatDoorXLives
import Derived.Lib.AppendIntMem
namespace Go.Proofs.YtmbofhpmockmbaaGreatDoor
open Go.RowKit Go.Shelf
def ul (c:UInt8):List UInt8:=if c.toNat=92 then [92,92] else if c.toNat=34 then [92,34] else if c.toNat=10 then [92,110] else [c]
def VU (s:List UInt8):List UInt8:=34::(s.flatMap ul++[34])
end Go.Proofs.YtmbofhpmockmbaaGreatDoor
