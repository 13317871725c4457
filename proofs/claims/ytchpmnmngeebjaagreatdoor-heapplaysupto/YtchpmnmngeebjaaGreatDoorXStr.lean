/- Strings: a piece, a byte; in lists of bytes. -/
import Derived.Test.YtchpmnmngeebjaaGreatDoorWAll
import Derived.Lib.Strings
import Derived.Laws.DeepStrings4
namespace Go.Proofs.YtchpmnmngeebjaaGreatDoor
open Go.RowKit

/-- A string of bytes. -/
abbrev strB (l : List UInt8) : ByteArray := ⟨l.toArray⟩

theorem strB_size (l : List UInt8) : (strB l).size = l.length := rfl

theorem strB_extract (l : List UInt8) (a b : Nat) : (strB l).extract a b = strB ((l.drop a).take (b - a)) := by
  have e := Lib.extract_data (strB l) a b
  have e2 : (strB l).data.toList = l := rfl
  rw [e2] at e
  show _ = (⟨_⟩ : ByteArray)
  rw [← e]

set_option maxRecDepth 100000 in
theorem str_from (w : World) (l : List UInt8) (a : Nat) (h : a ≤ l.length) :
    (Instr.slice 9 (.string (strB l)) (some (.int .i64 (a : Int))) none none).run Tryz.prog w = .ok (.string (strB (l.drop a))) w := by
  rw [run_slice_string_from_if (P := Tryz.prog) (w := w) 9 (strB l) .i64 _ Tryz.underlying9, if_pos ⟨by omega, by rw [strB_size]; omega⟩]
  rw [Int.toNat_natCast, strB_extract, strB_size, List.take_of_length_le (by rw [List.length_drop]; omega)]

set_option maxRecDepth 100000 in
theorem str_to (w : World) (l : List UInt8) (b : Nat) (h : b ≤ l.length) :
    (Instr.slice 9 (.string (strB l)) none (some (.int .i64 (b : Int))) none).run Tryz.prog w = .ok (.string (strB (l.take b))) w := by
  rw [run_slice_string_to_if (P := Tryz.prog) (w := w) 9 (strB l) .i64 _ Tryz.underlying9, if_pos ⟨by omega, by rw [strB_size]; omega⟩]
  rw [Int.toNat_natCast, strB_extract, List.drop_zero, Nat.sub_zero]

set_option maxRecDepth 100000 in
theorem str_sub (w : World) (l : List UInt8) (a n : Nat) (h : a + n ≤ l.length) :
    (Instr.slice 9 (.string (strB l)) (some (.int .i64 (a : Int))) (some (.int .i64 ((a : Int) + (n : Int)))) none).run Tryz.prog w = .ok (.string (strB ((l.drop a).take n))) w := by
  rw [run_slice_string_if (P := Tryz.prog) (w := w) 9 (strB l) .i64 .i64 _ _ Tryz.underlying9, if_pos ⟨by omega, by rw [strB_size]; omega⟩, if_pos ⟨by omega, by omega⟩]
  have e1 : ((a : Int) + (n : Int)).toNat = a + n := by omega
  rw [e1, Int.toNat_natCast, strB_extract, show a + n - a = n by omega]
end Go.Proofs.YtchpmnmngeebjaaGreatDoor
