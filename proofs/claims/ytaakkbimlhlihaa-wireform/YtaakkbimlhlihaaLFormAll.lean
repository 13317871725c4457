/- The walk of WireForm, of whatever slice came in. -/
import Derived.Test.YtaakkbimlhlihaaLFormWalk
namespace Go.Proofs.Ytaakkbimlhlihaa
open Go.RowKit

theorem bytes_u8 : Try.prog.bytesOf 5 = 1 := by kernel_rfl

theorem form_all (base : Option Addr) (len cap : Nat) (bs : List UInt8) (w : World) (hn : bs.length = len) (hv : bytesAt w (.slice base len cap) bs) (hl : len * Try.prog.bytesOf 5 ≤ 140737488351232) :
    Calls Try.prog 6 #[.slice base len cap] w fun e w' => e = .returned (.bool true) ∧ Below w.heap.size w w' := by
  subst hn
  rw [bytes_u8] at hl
  exact form_walk base cap bs w hv (by omega)
end Go.Proofs.Ytaakkbimlhlihaa
