/- PutInt, PutBool, PutText: the bytes, and what is put behind them, in memory of the call's own. -/
import Derived.Test.YtjhfkiighphepaaDoorWConcat
import Derived.Lib.ConvBytes
namespace Go.Proofs.YtjhfkiighphepaaDoor
open Go.RowKit

theorem numB_len {n : Int} (h0 : -9223372036854775808 ≤ n) (h1 : n ≤ 9223372036854775807) : (numB n).length ≤ 10 :=
  Lib.uvarint_length64 (Lib.zigzag_lt h0 h1)

theorem own_base {B C e n : Nat} {w : World} {v : Value} {xs : List Value} (h : w.ownsRow B e 1 v n xs) (hC : C ≤ B) : w.ownsRow C e 1 v n xs := by
  obtain ⟨h1, h2⟩ := h
  refine ⟨h1, ?_⟩
  rcases h2 with h2 | ⟨g, cap, cur, hv, hg, r⟩
  · exact .inl h2
  · exact .inr ⟨g, cap, cur, hv, by omega, r⟩

/-- A truth's byte. -/
def boolB (is : Bool) : List UInt8 := [if is then 1 else 0]

theorem bytesAt_new1 (w : World) (x : UInt8) : bytesAt (w.alloc (Obj.cells #[Value.int .u8 (x.toNat : Int)] 5)) (Value.slice (some ⟨w.heap.size, 0, none⟩) 1 1) [x] := by
  refine ⟨some ⟨w.heap.size, 0, none⟩, 1, rfl, (fun h => by cases h), Nat.le_refl _, by unfold maxLen; omega, fun a ha j u hj => ?_⟩
  cases ha
  match j, hj with
  | 0, hj => simp [Lib.byteCells] at hj; subst hj; simp [Addr.add]

/-- A text's bytes. -/
def textB (s : ByteArray) : List UInt8 := numB s.size ++ s.data.toList

theorem data_len (s : ByteArray) : s.data.toList.length = s.size := by rw [Array.length_toList]; rfl

theorem bytesWorld_below (w : World) (e : TypeId) (s : ByteArray) : Below w.heap.size w (Lib.bytesWorld w e s) := by
  refine ⟨rfl, rfl, rfl, by rw [Lib.bytesWorld_size]; omega, fun k hk => Lib.bytesWorld_at_old w e s k hk⟩

theorem add_zero' (b j : Nat) : (⟨b, 0, none⟩ : Addr).add j = ⟨b, j, none⟩ := by
  unfold Addr.add
  split
  · simp_all
  · simp

theorem bytesAt_conv (w : World) (e : TypeId) (s : ByteArray) (hs : s.size ≤ maxLen) : bytesAt (Lib.bytesWorld w e s) (.slice (some ⟨w.heap.size, 0, none⟩) s.size (grownCap w s.size 0 e)) s.data.toList := by
  refine ⟨some ⟨w.heap.size, 0, none⟩, grownCap w s.size 0 e, by rw [data_len], (fun h => by cases h), by rw [data_len]; exact grownCap_ge w _ _ _, grownCap_le_maxLen w _ _ _ hs, fun a ha j u hj => ?_⟩
  cases ha
  have hjl : j < s.data.toList.length := by
    rcases Nat.lt_or_ge j s.data.toList.length with h | h
    · exact h
    · rw [List.getElem?_eq_none (by rw [Lib.byteCells_length]; exact h)] at hj; cases hj
  have h := Lib.bytesWorld_cell w e s j (by rw [← data_len]; exact hjl)
  have e1 : (⟨w.heap.size, 0, none⟩ : Addr).add j = ⟨w.heap.size, j, none⟩ := add_zero' w.heap.size j
  rw [e1, h]
  unfold Lib.byteCells at hj
  rw [List.getElem?_map, List.getElem?_eq_getElem hjl] at hj
  rw [List.getD_eq_getElem?_getD, List.getElem?_eq_getElem hjl]
  exact hj

end Go.Proofs.YtjhfkiighphepaaDoor
