/- The four bytes of a sum. -/
import Derived.Test.YtffedjgbhdaecaaFSum
import Derived.Test.YtffedjgbhdaecaaWReader
import Derived.LoopN
namespace Go.Proofs.Ytffedjgbhdaecaa
open Go.RowKit

/-- The four bytes of a sum, the lowest first. -/
def leB (s : Nat) : List UInt8 := [(s % 256).toUInt8, (s / 256 % 256).toUInt8, (s / 65536 % 256).toUInt8, (s / 16777216 % 256).toUInt8]

set_option maxHeartbeats 2000000 in
set_option maxRecDepth 100000 in
theorem sumBytes_any (s : Nat) (hs : s < 4294967296) (w : World) :
    Calls Try.prog 38 #[.int .u32 s] w fun e w' => e = .returned (.agg (Lib.byteCells (leB s)).toArray) ∧ Below w.heap.size w w' := by
  go_enter Try.func38, Try.ntmps38
  go_wp2
  refine wp_loop_rounds 5 ?_
  rw [rounds_succ]; go_wp2
  rw [rounds_succ]; go_wp2
  rw [rounds_succ]; go_wp2
  rw [rounds_succ]; go_wp2
  rw [rounds_succ]; go_wp2
  refine bodyPost_ret (v := .agg #[Value.int .u8 ((s : Int) % 256), Value.int .u8 ((s : Int) / 256 % 256), Value.int .u8 ((s : Int) / 65536 % 256), Value.int .u8 ((s : Int) / 16777216)]) (by simp [results, Try.results38, go_sem]) rfl ⟨?_, ?_⟩
  · congr 3
    have h0 : ∀ x : Nat, x < 256 → ((x.toUInt8).toNat : Int) = x := fun x hx => by rw [Lib.toUInt8_toNat hx]
    simp only [Lib.byteCells, leB, List.map_cons, List.map_nil]
    rw [h0 _ (by omega), h0 _ (by omega), h0 _ (by omega), h0 _ (by omega)]
    have : s / 16777216 % 256 = s / 16777216 := by omega
    rw [this]
    rfl
  · exact (((Below.refl _ w).alloc (Nat.le_refl _) _).alloc (by simp) _)
end Go.Proofs.Ytffedjgbhdaecaa
