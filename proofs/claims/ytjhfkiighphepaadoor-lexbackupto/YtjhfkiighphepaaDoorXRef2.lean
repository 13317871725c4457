/- The document's own functions of layer 3: bytes. -/
import Derived.Test.YtjhfkiighphepaaDoorXRef
namespace Go.Proofs.YtjhfkiighphepaaDoor
open Go.RowKit Go.Shelf

set_option maxRecDepth 100000 in
set_option maxHeartbeats 2000000 in
theorem refDigit_any (n : Nat) (w : World) (hn : n < 256) :
    Calls Tryd.prog 32 #[.int .u8 n] w fun e w' => e = .returned (.bool (digitN n)) ∧ w = w' := by
  go_enter Tryd.func32, Tryd.ntmps32
  go_wp2
  all_goals go_ret
  all_goals refine ⟨retb ?_, rfl⟩
  all_goals (rw [Bool.eq_iff_iff]; simp [digitN]; try omega)

set_option maxRecDepth 100000 in
set_option maxHeartbeats 2000000 in
theorem refLetter_any (n : Nat) (w : World) (hn : n < 256) :
    Calls Tryd.prog 31 #[.int .u8 n] w fun e w' => e = .returned (.bool (letterN n)) ∧ w = w' := by
  go_enter Tryd.func31, Tryd.ntmps31
  go_wp2
  all_goals go_ret
  all_goals refine ⟨retb ?_, rfl⟩
  all_goals (rw [Bool.eq_iff_iff]; simp [letterN]; try omega)
end Go.Proofs.YtjhfkiighphepaaDoor
