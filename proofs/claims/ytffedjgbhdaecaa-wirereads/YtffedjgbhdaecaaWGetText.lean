/- getText: what it answers, of any bytes. -/
import Derived.Test.YtffedjgbhdaecaaWGetMore
namespace Go.Proofs.Ytffedjgbhdaecaa
open Go.RowKit

theorem scan_len : ∀ (l : List UInt8) (i acc : Nat), (scan i acc l).2.1 ≤ i + l.length
  | [], i, acc => by simp [scan]
  | x :: r, i, acc => by
    unfold scan
    split
    · simp
    · split
      · simp
      · have h := scan_len r (i + 1) (acc + x.toNat % 128 * 128 ^ i)
        simp only [List.length_cons]; omega

theorem getI_len (bs : List UInt8) : (getI bs).2.1 ≤ bs.length := by
  unfold getI
  have h := scan_len bs 0 0
  split
  · simpa using h
  · simp

theorem getC_len (bs : List UInt8) (most : Int) : (getC bs most).2.1 ≤ bs.length := by
  unfold getC
  have h := getI_len bs
  split
  · simp
  · split
    · simp
    · split
      · simp
      · exact h

theorem getC_nonneg (bs : List UInt8) (most : Int) : 0 ≤ (getC bs most).1 := by
  unfold getC
  split
  · simp
  · split
    · simp
    · split
      · simp
      · omega

theorem add_plain (b o j : Nat) : (⟨b, o, none⟩ : Addr).add j = ⟨b, o + j, none⟩ := by
  unfold Addr.add
  split
  · simp_all
  · simp

/-- Where a slice's part begins. -/
def subBase (base : Option Addr) (cap lo : Nat) : Option Addr := if cap = lo then base else base.map (fun a => a.add lo)

theorem rowAt_sub {w : World} {base : Option Addr} {bs : List UInt8} {cap lo : Nat} (m : Nat) (hr : rowAt w base bs) (hc : bs.length ≤ cap) : rowAt w (subBase base cap lo) ((bs.drop lo).take m) := by
  rcases hr with rfl | ⟨b, o, rfl, hcell⟩
  · left; simp
  · unfold subBase
    by_cases h : cap = lo
    · left; rw [List.drop_eq_nil_of_le (by omega)]; simp
    · right
      rw [if_neg h]
      refine ⟨b, o + lo, by simp [add_plain], fun j hj => ?_⟩
      have hj2 : j < (bs.drop lo).length := by rw [List.length_take] at hj; omega
      have hj3 : lo + j < bs.length := by rw [List.length_drop] at hj2; omega
      rw [List.getElem_take, List.getElem_drop, Nat.add_assoc]
      exact hcell (lo + j) hj3

set_option maxRecDepth 100000 in
theorem conv_row (w : World) (base : Option Addr) (bs : List UInt8) (cap : Nat) (hr : rowAt w base bs) :
    (convert 22 9 (.slice base bs.length cap)).run Try.prog w = .ok (.string ⟨bs.toArray⟩) w := by
  rw [run_convert_bytes_string w 22 9 5 base bs.length cap Try.underlying22 Try.underlying5 Try.underlying9]
  cases base with
  | none =>
    rcases hr with rfl | ⟨b, o, h, _⟩
    · simp [Conv.bytesToString]; rfl
    · cases h
  | some a =>
    have hl : (loadCells a bs.length).run Try.prog w = .ok ((bs.map fun b => (b.toNat : Int)).map (Value.int .u8)).toArray w := by
      have h := run_loadCells_list (P := Try.prog) w a (Lib.byteCells bs) (fun j v hj => by
        rcases hr with rfl | ⟨b, o, h, hcell⟩
        · simp [Lib.byteCells] at hj
        · cases h
          have hjl : j < bs.length := by
            rcases Nat.lt_or_ge j bs.length with h | h
            · exact h
            · rw [List.getElem?_eq_none (by rw [Lib.byteCells_length]; exact h)] at hj; cases hj
          rw [add_plain, hcell j hjl]
          unfold Lib.byteCells at hj
          rw [List.getElem?_map, List.getElem?_eq_getElem hjl] at hj
          exact hj)
      rw [Lib.byteCells_length] at h
      rw [h]
      simp [Lib.byteCells]
    rw [run_bytesToString w a bs.length cap _ hl, foldl_push_byteCells]
    simp [ByteArray.empty, ByteArray.emptyWithCapacity]
    rfl

set_option maxRecDepth 100000 in
theorem run_sub (w : World) (base : Option Addr) (len cap lo n : Nat) (h : lo + n ≤ cap) :
    (Instr.slice 22 (.slice base len cap) (some (.int .i64 lo)) (some (.int .i64 (lo + n : Int))) none).run Try.prog w = .ok (.slice (subBase base cap lo) n (cap - lo)) w := by
  have h1 := run_slice_lh (P := Try.prog) w 22 base len cap Try.underlying22 .i64 .i64 (lo : Int) (lo + n : Int) (by omega) (by omega) (by omega)
  have hs : (sizeOf (Try.prog.elem 22)).run Try.prog w = .ok 1 w := by kernel_rfl
  rw [h1, hs]
  have e : ((lo : Int) + (n : Int)).toNat = lo + n := by omega
  simp [sliced, subBase, e]

set_option maxHeartbeats 2000000 in
set_option maxRecDepth 100000 in
theorem getText_any (base : Option Addr) (bs : List UInt8) (cap : Nat) (most : Int) (w : World) (hr : rowAt w base bs) (hl : bs.length ≤ cap) (hm : cap ≤ maxLen) :
    Calls Try.prog 51 #[.slice base bs.length cap, .int .i64 most] w fun e w' => e = .returned (.tuple #[.string ⟨(getT bs most).1.toArray⟩, .int .i64 (getT bs most).2.1, .int .i64 (getT bs most).2.2]) ∧ w = w' := by
  have hm2 := hm
  unfold maxLen at hm2
  have hC : Hid (∀ w, rowAt w base bs → Calls Try.prog 48 #[.slice base bs.length cap, .int .i64 most] w fun e w' => e = .returned (.tuple #[.int .i64 (getC bs most).1, .int .i64 (getC bs most).2.1, .int .i64 (getC bs most).2.2]) ∧ w = w') := fun w hr => getCount_any base bs cap most w hr (Nat.le_trans hl hm)
  have HT : Hid (getT bs most = if (getC bs most).2.2 ≠ 0 then ([], 0, (getC bs most).2.2) else if ((bs.length : Int) - (getC bs most).2.1) < (getC bs most).1 then ([], 0, 3)
    else ((bs.drop (getC bs most).2.1).take (getC bs most).1.toNat, (getC bs most).2.1 + (getC bs most).1.toNat, 0)) := rfl
  have hg1 := getC_len bs most
  have hg2 := getC_nonneg bs most
  obtain ⟨q, hq⟩ : ∃ q, q = getC bs most := ⟨_, rfl⟩
  rw [← hq] at HT hC hg1 hg2
  clear hq
  obtain ⟨n0, sz, er⟩ := q
  obtain ⟨n, rfl⟩ := Int.eq_ofNat_of_zero_le hg2
  simp only [Int.toNat_natCast] at HT
  by_cases h0 : er ≠ 0
  · have HG : Hid (getT bs most = ([], 0, er)) := by have h := HT.out; rw [if_pos h0] at h; exact h
    have t0 : ((er : Int) != 0) = true := by rw [bne_iff_ne]; omega
    clear HT h0
    go_enter Try.func51, Try.ntmps51
    go_wp2_with (go_at_call 48; refine (hC.out _ hr).mono ?_; rintro e w' ⟨rfl, rfl⟩)
    go_ret3
    exact ⟨ret3t HG.out, rfl⟩
  · have e0 : er = 0 := by omega
    subst e0
    by_cases h1 : ((bs.length : Int) - (sz : Int)) < (n : Int)
    · have HG : Hid (getT bs most = ([], 0, 3)) := by have h := HT.out; rw [if_neg h0, if_pos h1] at h; exact h
      clear HT h0
      go_enter Try.func51, Try.ntmps51
      go_wp2_with (go_at_call 48; refine (hC.out _ hr).mono ?_; rintro e w' ⟨rfl, rfl⟩)
      go_ret3
      exact ⟨ret3t HG.out, rfl⟩
    · have HG : Hid (getT bs most = ((bs.drop sz).take n, sz + n, 0)) := by have h := HT.out; rw [if_neg h0, if_neg h1] at h; exact h
      have hle : sz + n ≤ bs.length := by omega
      have hsl := fun wx => run_sub wx base bs.length cap sz n (by omega)
      have hl2 : ((bs.drop sz).take n).length = n := by rw [List.length_take, List.length_drop]; omega
      have hcv := conv_row w (subBase base cap sz) ((bs.drop sz).take n) (cap - sz) (rowAt_sub n hr hl)
      rw [hl2] at hcv
      clear HT h0 hl2
      generalize subBase base cap sz = base2 at *
      generalize (bs.drop sz).take n = ts at *
      go_enter Try.func51, Try.ntmps51
      go_wp2_with (go_at_call 48; refine (hC.out _ hr).mono ?_; rintro e w' ⟨rfl, rfl⟩)
      go_ret3
      exact ⟨ret3t HG.out, rfl⟩
end Go.Proofs.Ytffedjgbhdaecaa
