/- code: the laws' example, and whether a code has few parts. -/
import Derived.Test.YtechkkphbajmoaaGreatDoorCRefPut
import Derived.BigQuiet
namespace Go.Proofs.YtechkkphbajmoaaGreatDoor
open Go.RowKit Go.Shelf

/-- The example: its instructions, its unit and its answer. -/
def ExAt (N : Nat) (e : Ending) (w' : World) : Prop :=
  e = .returned (cdV (.slice none 0 0) (.slice none 0 0) (.slice (some ⟨N + 2, 0, none⟩) 1 1) 0) ∧
    w'.heap[N + 1]? = some (.cells #[.int .i64 0, .int .i64 1, .int .i64 1, .int .i64 2, .int .i64 34, .int .i64 1, .int .i64 23, .int .i64 0] 62 (0, 0)) ∧
    w'.heap[N + 2]? = some (.cells #[.string (strB [109, 97, 105, 110]), .int .i64 0, .int .i64 0, .int .i64 1, .bool false, .slice (some ⟨N + 1, 0, none⟩) 4 4, .slice none 0 0] 58 (0, 0))

set_option maxRecDepth 100000 in
set_option maxHeartbeats 4000000 in
theorem exam_any (w : World) : Calls Tryz.prog 21 #[] w fun e w' => ExAt w.heap.size e w' ∧ Below w.heap.size w w' := by
  go_enter Tryz.func21, Tryz.ntmps21
  go_wp2
  obtain ⟨w3, hw3, hb3, -, h0, h1, h2⟩ := box3 w (.cells #[.slice none 0 0, .slice none 0 0, .slice (some ⟨w.heap.size + 1 + 1, 0, none⟩) 1 1, .int .i64 0] 26) (.cells #[.int .i64 0, .int .i64 1, .int .i64 1, .int .i64 2, .int .i64 34, .int .i64 1, .int .i64 23, .int .i64 0] 62) (.cells #[.string (strB [109, 97, 105, 110]), .int .i64 0, .int .i64 0, .int .i64 1, .bool false, .slice (some ⟨w.heap.size + 1, 0, none⟩) 4 4, .slice none 0 0] 58)
  rw [show (strB [109, 97, 105, 110] : ByteArray) = { data := #[109, 97, 105, 110] } from rfl] at hw3 h2
  rw [← hw3]
  obtain ⟨z0, z1, z2, z3⟩ := bcells4 h0
  refine bodyPost_ret (v := cdV (.slice none 0 0) (.slice none 0 0) (.slice (some ⟨w.heap.size + 1 + 1, 0, none⟩) 1 1) 0) (by simp [results, Tryz.results21, go_sem, z0, z1, z2, z3]) rfl ⟨⟨rfl, h1, h2⟩, hb3⟩

end Go.Proofs.YtechkkphbajmoaaGreatDoor
