/- slices.Grow of nothing and slices.Concat, at bytes. -/
import Derived.Test.YtjhfkiighphepaaDoorWClone
import Derived.Lib.AppendZerosOnto
namespace Go.Proofs.YtjhfkiighphepaaDoor
open Go.RowKit

/-- The bytes of the first k parts. -/
def catB (ps : List (Value × List UInt8)) (k : Nat) : List UInt8 := ((ps.take k).map (fun p => p.2)).flatten

theorem catB_zero (ps : List (Value × List UInt8)) : catB ps 0 = [] := by simp [catB]
theorem catB_succ (ps : List (Value × List UInt8)) (k : Nat) (h : k < ps.length) : catB ps (k + 1) = catB ps k ++ (ps[k]).2 := by
  unfold catB
  rw [List.take_succ_eq_append_getElem h, List.map_append, List.flatten_append, List.map_singleton, List.flatten_singleton]
theorem catB_le (ps : List (Value × List UInt8)) (k : Nat) : (catB ps k).length ≤ (catB ps ps.length).length := by
  have h : catB ps ps.length = catB ps k ++ ((ps.drop k).map (fun p => p.2)).flatten := by
    unfold catB
    rw [List.take_length]
    rw [← List.flatten_append, ← List.map_append, List.take_append_drop]
  rw [h, List.length_append]; omega

end Go.Proofs.YtjhfkiighphepaaDoor
