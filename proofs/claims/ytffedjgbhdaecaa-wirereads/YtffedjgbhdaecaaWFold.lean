/- The fold of a number, and back: what the program's two small functions answer. -/
import Derived.Test.YtffedjgbhdaecaaProg
import Derived.WalkKit
import Derived.WalkSpells
import Derived.Lib.Walk
import Derived.Lib.Zigzag
import Derived.Lib.VarintMem
import Derived.Lib.VarintDec
namespace Go.Proofs.Ytffedjgbhdaecaa
open Go.RowKit

set_option maxRecDepth 100000 in
/-- A number's fold. -/
theorem fold_any (n : Int) (h0 : -9223372036854775808 ≤ n) (h1 : n ≤ 9223372036854775807) (w : World) :
    Calls Try.prog 60 #[.int .i64 n] w fun e w' => e = .returned (.int .u64 (Lib.zigzag n)) ∧ w = w' := by
  by_cases hn : n < 0
  · have hz := Lib.zigzag_neg h0 hn
    go_enter Try.func60, Try.ntmps60
    go_wp2
    go_ret
    exact ⟨rfl, rfl⟩
  · have hz := Lib.zigzag_nonneg (x := n) (by omega)
    go_enter Try.func60, Try.ntmps60
    go_wp2
    go_ret
    exact ⟨rfl, rfl⟩

theorem unz_odd {f : Nat} (h : f % 2 = 1) : Lib.unzigzag f = -((f / 2 : Nat) : Int) - 1 := by
  unfold Lib.unzigzag; rw [if_neg (by omega)]
theorem unz_even {f : Nat} (h : f % 2 = 0) : Lib.unzigzag f = ((f / 2 : Nat) : Int) := by
  unfold Lib.unzigzag; rw [if_pos h]

set_option maxRecDepth 100000 in
/-- The number of a fold. -/
theorem unfold_any (f : Nat) (h1 : f < 18446744073709551616) (w : World) :
    Calls Try.prog 59 #[.int .u64 f] w fun e w' => e = .returned (.int .i64 (Lib.unzigzag f)) ∧ w = w' := by
  have ha := Lib.u64_and1 (f : Int) (by omega) (by omega)
  have hx := Lib.i64_not (f / 2) (by omega)
  have hd : ((f / 2 : Nat) : Int) = (f : Int) / 2 := by omega
  rw [hd] at hx
  have hc : f % 2 = 1 ∨ f % 2 = 0 := by omega
  rcases hc with hc | hc
  · have hu : Hid (Lib.unzigzag f = -((f : Int) / 2) - 1) := by rw [unz_odd hc, hd]; rfl
    have ht : (((f : Int) % 2) == 1) = true := by simp; omega
    clear hd
    go_enter Try.func59, Try.ntmps59
    go_wp2
    go_ret
    exact ⟨by rw [hu.out]; rfl, rfl⟩
  · have hu : Hid (Lib.unzigzag f = (f : Int) / 2) := by rw [unz_even hc, hd]; rfl
    have ht : (((f : Int) % 2) == 1) = false := by simp; omega
    clear hd
    go_enter Try.func59, Try.ntmps59
    go_wp2
    go_ret
    exact ⟨by rw [hu.out]; rfl, rfl⟩
end Go.Proofs.Ytffedjgbhdaecaa
