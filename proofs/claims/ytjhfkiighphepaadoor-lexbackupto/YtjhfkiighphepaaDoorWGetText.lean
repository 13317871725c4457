/- getText: what it answers, of any bytes. -/
import Derived.Test.YtjhfkiighphepaaDoorWGetMore
namespace Go.Proofs.YtjhfkiighphepaaDoor
open Go.RowKit

theorem scan_len : ∀ (l : List UInt8) (i acc : Nat), (scan i acc l).2.1 ≤ i + l.length
  | [], i, acc => by simp [scan]
  | x :: r, i, acc => by
    unfold scan
    split
    · simp
    · split
      · simp
      · have h := scan_len r (i + 1) (acc + x.toNat % 128 * 128 ^ i)
        simp only [List.length_cons]; omega

theorem getI_len (bs : List UInt8) : (getI bs).2.1 ≤ bs.length := by
  unfold getI
  have h := scan_len bs 0 0
  split
  · simpa using h
  · simp

theorem getC_len (bs : List UInt8) (most : Int) : (getC bs most).2.1 ≤ bs.length := by
  unfold getC
  have h := getI_len bs
  split
  · simp
  · split
    · simp
    · split
      · simp
      · exact h

theorem getC_nonneg (bs : List UInt8) (most : Int) : 0 ≤ (getC bs most).1 := by
  unfold getC
  split
  · simp
  · split
    · simp
    · split
      · simp
      · omega

theorem add_plain (b o j : Nat) : (⟨b, o, none⟩ : Addr).add j = ⟨b, o + j, none⟩ := by
  unfold Addr.add
  split
  · simp_all
  · simp

/-- Where a slice's part begins. -/
def subBase (base : Option Addr) (cap lo : Nat) : Option Addr := if cap = lo then base else base.map (fun a => a.add lo)

theorem rowAt_sub {w : World} {base : Option Addr} {bs : List UInt8} {cap lo : Nat} (m : Nat) (hr : rowAt w base bs) (hc : bs.length ≤ cap) : rowAt w (subBase base cap lo) ((bs.drop lo).take m) := by
  rcases hr with rfl | ⟨b, o, rfl, hcell⟩
  · left; simp
  · unfold subBase
    by_cases h : cap = lo
    · left; rw [List.drop_eq_nil_of_le (by omega)]; simp
    · right
      rw [if_neg h]
      refine ⟨b, o + lo, by simp [add_plain], fun j hj => ?_⟩
      have hj2 : j < (bs.drop lo).length := by rw [List.length_take] at hj; omega
      have hj3 : lo + j < bs.length := by rw [List.length_drop] at hj2; omega
      rw [List.getElem_take, List.getElem_drop, Nat.add_assoc]
      exact hcell (lo + j) hj3

set_option maxRecDepth 100000 in
theorem conv_row (w : World) (base : Option Addr) (bs : List UInt8) (cap : Nat) (hr : rowAt w base bs) :
    (convert 60 9 (.slice base bs.length cap)).run Tryd.prog w = .ok (.string ⟨bs.toArray⟩) w := by
  rw [run_convert_bytes_string w 60 9 5 base bs.length cap Tryd.underlying60 Tryd.underlying5 Tryd.underlying9]
  cases base with
  | none =>
    rcases hr with rfl | ⟨b, o, h, _⟩
    · simp [Conv.bytesToString]; rfl
    · cases h
  | some a =>
    have hl : (loadCells a bs.length).run Tryd.prog w = .ok ((bs.map fun b => (b.toNat : Int)).map (Value.int .u8)).toArray w := by
      have h := run_loadCells_list (P := Tryd.prog) w a (Lib.byteCells bs) (fun j v hj => by
        rcases hr with rfl | ⟨b, o, h, hcell⟩
        · simp [Lib.byteCells] at hj
        · cases h
          have hjl : j < bs.length := by
            rcases Nat.lt_or_ge j bs.length with h | h
            · exact h
            · rw [List.getElem?_eq_none (by rw [Lib.byteCells_length]; exact h)] at hj; cases hj
          rw [add_plain, hcell j hjl]
          unfold Lib.byteCells at hj
          rw [List.getElem?_map, List.getElem?_eq_getElem hjl] at hj
          exact hj)
      rw [Lib.byteCells_length] at h
      rw [h]
      simp [Lib.byteCells]
    rw [run_bytesToString w a bs.length cap _ hl, foldl_push_byteCells]
    simp [ByteArray.empty, ByteArray.emptyWithCapacity]
    rfl

set_option maxRecDepth 100000 in
theorem run_sub (w : World) (base : Option Addr) (len cap lo n : Nat) (h : lo + n ≤ cap) :
    (Instr.slice 60 (.slice base len cap) (some (.int .i64 lo)) (some (.int .i64 (lo + n : Int))) none).run Tryd.prog w = .ok (.slice (subBase base cap lo) n (cap - lo)) w := by
  have h1 := run_slice_lh (P := Tryd.prog) w 60 base len cap Tryd.underlying60 .i64 .i64 (lo : Int) (lo + n : Int) (by omega) (by omega) (by omega)
  have hs : (sizeOf (Tryd.prog.elem 60)).run Tryd.prog w = .ok 1 w := by kernel_rfl
  rw [h1, hs]
  have e : ((lo : Int) + (n : Int)).toNat = lo + n := by omega
  simp [sliced, subBase, e]

end Go.Proofs.YtjhfkiighphepaaDoor
