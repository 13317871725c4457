/- The walk of WirePuts, of whatever slice came in. -/
import Derived.Test.YtaakkbimlhlihaaLPuts
namespace Go.Proofs.Ytaakkbimlhlihaa
open Go.RowKit

theorem puts_all (base : Option Addr) (len cap : Nat) (bs : List UInt8) (n : Int) (is : Bool) (s : ByteArray) (w : World) (hn : bs.length = len) (hv : bytesAt w (.slice base len cap) bs) (hl : len ≤ 1048576)
    (h0 : -9223372036854775808 ≤ n) (h1 : n ≤ 9223372036854775807) (hs : s.size ≤ 1048576) :
    Calls Try.prog 3 #[.slice base len cap, .int .i64 n, .bool is, .string s] w fun e w' => e = .returned (.bool true) ∧ Below w.heap.size w w' := by
  subst hn
  exact puts_walk base cap bs n is s w hv hl h0 h1 hs
end Go.Proofs.Ytaakkbimlhlihaa
