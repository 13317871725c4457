/- A frame's length off bytes: frame.bounds. -/
import Derived.Test.YtffedjgbhdaecaaFPut
import Derived.Test.YtffedjgbhdaecaaWMath
namespace Go.Proofs.Ytffedjgbhdaecaa
open Go.RowKit

theorem scan_take : ∀ (l : List UInt8) (i acc : Nat), i ≤ 9 → scan i acc (l.take (10 - i)) = scan i acc l
  | [], i, acc, _ => by simp
  | x :: r, i, acc, hi => by
    rw [show 10 - i = (10 - (i + 1)) + 1 by omega, List.take_succ_cons]
    simp only [scan]
    split
    · rfl
    · rename_i hbad
      split
      · rfl
      · rename_i h128
        exact scan_take r (i + 1) _ (by omega)

theorem getI_take (l : List UInt8) : getI (l.take 10) = getI l := by
  unfold getI
  rw [show (10 : Nat) = 10 - 0 from rfl, scan_take l 0 0 (by omega)]

theorem getC_take (l : List UInt8) (m : Int) : getC (l.take 10) m = getC l m := by
  unfold getC; rw [getI_take]

theorem getC_le (l : List UInt8) (m : Int) (hm : 0 ≤ m) : (getC l m).1 ≤ m := by
  unfold getC
  split
  · exact hm
  · split
    · exact hm
    · split
      · exact hm
      · rename_i h; have : max m 0 = m := by omega
        rw [this] at h; omega

/-- The count of a frame: it, how many bytes, what went wrong. -/
def cntF (l : List UInt8) : Int × Nat × Nat := stepR (0 : Int) 0 0 (getC l 1048576)

theorem cntF_le (l : List UInt8) : 0 ≤ (cntF l).1 ∧ (cntF l).1 ≤ 1048576 := by
  unfold cntF stepR
  split
  · simp
  · split
    · simp
    · exact ⟨getC_nonneg _ _, getC_le _ _ (by decide)⟩

theorem cntF_at (l : List UInt8) : (cntF l).2.1 ≤ l.length := by
  unfold cntF stepR
  have := getC_len l 1048576
  split
  · simp
  · split
    · simp
    · simpa using this

theorem cntF_at10 (l : List UInt8) : (cntF l).2.1 ≤ 10 := by
  have h : cntF l = cntF (l.take 10) := by unfold cntF; rw [getC_take]
  rw [h]
  have := cntF_at (l.take 10)
  rw [List.length_take] at this
  omega

set_option maxRecDepth 100000 in
theorem run_to (w : World) (base : Option Addr) (len cap n : Nat) (h : n ≤ cap) :
    (Instr.slice 22 (.slice base len cap) none (some (.int .i64 n)) none).run Try.prog w = .ok (.slice base n cap) w := by
  have h1 := run_slice_h (P := Try.prog) w 22 base len cap Try.underlying22 .i64 (n : Int) (by omega) (by omega)
  have hs : (sizeOf (Try.prog.elem 22)).run Try.prog w = .ok 1 w := by kernel_rfl
  rw [h1, hs]
  simp [sliced, Addr.add]

theorem bytesAt_take {w : World} {base : Option Addr} {cap : Nat} {bs : List UInt8} (h : bytesAt w (.slice base bs.length cap) bs) (n : Nat) (hn : n ≤ bs.length) : bytesAt w (.slice base n cap) (bs.take n) := by
  obtain ⟨base', cap', hv, hb, h1, h2, hc⟩ := h
  cases hv
  refine ⟨base, cap, by rw [List.length_take, Nat.min_eq_left hn], fun e => ?_, by rw [List.length_take]; omega, h2, fun a ha j u hj => ?_⟩
  · obtain ⟨rfl, rfl⟩ := hb e; simp
  · refine hc a ha j u ?_
    unfold Lib.byteCells at hj ⊢
    rw [List.getElem?_map] at hj ⊢
    rcases Nat.lt_or_ge j n with hl | hl
    · rw [List.getElem?_take_of_lt hl] at hj; exact hj
    · rw [List.getElem?_eq_none (by rw [List.length_take]; omega)] at hj; cases hj

set_option maxHeartbeats 2000000 in
set_option maxRecDepth 100000 in
theorem bounds_any (v : Value) (bs : List UInt8) (w : World) (hv : bytesAt w v bs) :
    Calls Try.prog 37 #[v] w fun e w' => e = .returned (.tuple #[.int .i64 (cntF bs).2.1, .int .i64 ((cntF bs).2.1 + (cntF bs).1), .int .i64 (cntF bs).2.2]) ∧ Below w.heap.size w w' := by
  have hm := bytesAt_len hv
  unfold maxLen at hm
  have HV : Hid (bytesAt w v bs) := hv
  obtain ⟨base, cap, rfl, hb, hlc, hcm, hc⟩ := hv
  clear hb hc
  obtain ⟨n, hn⟩ : ∃ n, n = min bs.length 10 := ⟨_, rfl⟩
  have hn1 : n ≤ bs.length := by omega
  have hn2 : n ≤ cap := by omega
  have hn10 : n ≤ 10 := by omega
  have hmin : min (bs.length : Int) 10 = (n : Int) := by omega
  have hto := fun wx => run_to wx base bs.length cap n hn2
  have HT : Hid (bytesAt w (.slice base n cap) (bs.take n)) := bytesAt_take HV.out n hn1
  have htk : bs.take n = bs.take 10 := by
    rcases Nat.le_total bs.length 10 with h | h
    · rw [List.take_of_length_le h, List.take_of_length_le (by omega)]
    · rw [hn, Nat.min_eq_right h]
  have htl : (bs.take n).length = n := by rw [List.length_take]; omega
  have HTK : Hid (bs.take n = bs.take 10) := htk
  clear hn htk
  go_enter Try.func37, Try.ntmps37
  go_wp2_with fail
  refine (newReader_any _ (bs.take n) w HT.out (by omega)).mono ?_
  rintro e w1 ⟨p, base1, cap1, rfl, hR1, hp0, hp1, ha1, hb1⟩
  have HB1 : Hid (Below w.heap.size w w1) := hb1
  clear hb1 ha1
  go_wp2_with fail
  refine (count_any 1048576 hR1).mono ?_
  rintro e w2 ⟨rfl, hR2, hg2⟩
  have HB2 : Hid (Below w.heap.size w w2) := below_of_grown HB1.out hg2 HB1.out.size hp0
  have hcnt : stepR (0 : Int) 0 0 (getC ((bs.take n).drop 0) 1048576) = cntF bs := by
    unfold cntF; rw [List.drop_zero, HTK.out, getC_take]
  rw [hcnt] at hR2 ⊢
  clear hcnt hg2 hR1 HB1
  have hc1 := cntF_le bs
  have hc2 := cntF_at bs
  go_wp2_with fail
  refine (at_any hR2).mono ?_
  rintro e w3 ⟨rfl, rfl⟩
  go_wp2_with fail
  refine (at_any hR2).mono ?_
  rintro e w3 ⟨rfl, rfl⟩
  go_wp2_with fail
  refine (err_any hR2).mono ?_
  rintro e w3 ⟨rfl, rfl⟩
  have hc3 := cntF_at10 bs
  obtain ⟨a, ha⟩ : ∃ a, a = (cntF bs).1 := ⟨_, rfl⟩
  obtain ⟨f, hf⟩ : ∃ f, f = (cntF bs).2.1 := ⟨_, rfl⟩
  rw [← ha] at hc1 ⊢
  rw [← hf] at hc3 ⊢
  have HA : Hid (a = (cntF bs).1) := ha
  have HF : Hid (f = (cntF bs).2.1) := hf
  obtain ⟨hc4, hc5⟩ := hc1
  have hwr : wrap64 ((f : Int) + a) = (f : Int) + a := by unfold wrap64; omega
  clear hR2 hf ha hc2
  go_wp2
  go_ret3
  refine ⟨?_, HB2.out⟩
  rw [← HA.out, ← HF.out]
  rfl
end Go.Proofs.Ytffedjgbhdaecaa
