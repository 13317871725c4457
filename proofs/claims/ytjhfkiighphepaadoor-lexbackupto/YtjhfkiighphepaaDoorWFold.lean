/- The fold of a number, and back: what the program's two small functions answer. -/
import Derived.Test.YtjhfkiighphepaaDoorProg
import Derived.WalkKit
import Derived.WalkSpells
import Derived.Lib.Walk
import Derived.Lib.Zigzag
import Derived.Lib.VarintMem
import Derived.Lib.VarintDec
namespace Go.Proofs.YtjhfkiighphepaaDoor
open Go.RowKit

theorem unz_odd {f : Nat} (h : f % 2 = 1) : Lib.unzigzag f = -((f / 2 : Nat) : Int) - 1 := by
  unfold Lib.unzigzag; rw [if_neg (by omega)]
theorem unz_even {f : Nat} (h : f % 2 = 0) : Lib.unzigzag f = ((f / 2 : Nat) : Int) := by
  unfold Lib.unzigzag; rw [if_pos h]

end Go.Proofs.YtjhfkiighphepaaDoor
