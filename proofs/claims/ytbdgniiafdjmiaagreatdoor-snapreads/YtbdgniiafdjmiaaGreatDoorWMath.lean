/- What is put is read as it was; what is read is put as the very bytes: the plain mathematics, without the program. -/
import Derived.Test.YtbdgniiafdjmiaaGreatDoorWAll
namespace Go.Proofs.YtbdgniiafdjmiaaGreatDoor
open Go.RowKit

theorem u8n {a : Nat} (h : a < 256) : (a.toUInt8).toNat = a := Lib.toUInt8_toNat h

theorem pow64 : (128 : Nat) ^ 9 = 9223372036854775808 := by decide

/-- What uvarint wrote is scanned, whatever stands behind it. -/
theorem scan_put (rest : List UInt8) : ∀ (m y i acc : Nat), y ≤ m → i ≤ 9 → y * 128 ^ i < 18446744073709551616 → (0 < i → 0 < y) →
    scan i acc (Lib.uvarint y ++ rest) = (acc + y * 128 ^ i, i + (Lib.uvarint y).length, 0)
  | m, y, i, acc, hm, hi, hy, h0 => by
    by_cases hs : y < 128
    · rw [Lib.uvarint_small hs, List.cons_append]
      unfold scan
      rw [u8n (by omega)]
      have hn : ¬ ((0 < i ∧ y = 0) ∨ (i = 9 ∧ y ≠ 1)) := by
        intro h
        rcases h with ⟨h1, h2⟩ | ⟨rfl, h2⟩
        · have := h0 h1; omega
        · have h1 := h0 (by decide)
          rw [pow64] at hy
          omega
      rw [if_neg hn, if_pos hs, Nat.mod_eq_of_lt hs]
      rfl
    · match m with
      | 0 => omega
      | m + 1 =>
        have hi9 : i ≠ 9 := by
          intro h
          subst h
          rw [pow64] at hy
          omega
        have hb : (y % 128 + 128).toUInt8.toNat = y % 128 + 128 := u8n (by omega)
        have hn : ¬ ((0 < i ∧ (y % 128 + 128).toUInt8.toNat = 0) ∨ (i = 9 ∧ (y % 128 + 128).toUInt8.toNat ≠ 1)) := by rw [hb]; omega
        have hdm : y / 128 * 128 ^ (i + 1) + y % 128 * 128 ^ i = y * 128 ^ i := by
          rw [Nat.pow_succ, Nat.mul_comm (128 ^ i) 128, ← Nat.mul_assoc, ← Nat.add_mul]
          congr 1
          omega
        have ih := scan_put rest m (y / 128) (i + 1) (acc + y % 128 * 128 ^ i) (by omega) (by omega) (by omega) (fun _ => by omega)
        rw [Lib.uvarint_big (by omega), List.cons_append]
        conv => lhs; unfold scan
        have hmod : (y % 128 + 128) % 128 = y % 128 := by omega
        rw [if_neg hn, if_neg (by rw [hb]; omega), hb, hmod, ih]
        refine Prod.ext ?_ (Prod.ext ?_ rfl)
        · show acc + y % 128 * 128 ^ i + y / 128 * 128 ^ (i + 1) = acc + y * 128 ^ i
          omega
        · show i + 1 + (Lib.uvarint (y / 128)).length = i + ((Lib.uvarint (y / 128)).length + 1)
          omega

theorem unz_z {n : Int} : Lib.unzigzag (Lib.zigzag n) = n := by
  unfold Lib.zigzag
  split
  · unfold Lib.unzigzag; rw [if_pos (by omega)]; omega
  · unfold Lib.unzigzag; rw [if_neg (by omega)]; omega

theorem z_unz {f : Nat} : Lib.zigzag (Lib.unzigzag f) = f := by
  unfold Lib.unzigzag
  split
  · unfold Lib.zigzag; rw [if_pos (by omega)]; omega
  · unfold Lib.zigzag; rw [if_neg (by omega)]; omega

theorem getI_put {n : Int} (h0 : -9223372036854775808 ≤ n) (h1 : n ≤ 9223372036854775807) (rest : List UInt8) : getI (numB n ++ rest) = (n, (numB n).length, 0) := by
  have hz := Lib.zigzag_lt h0 h1
  have h := scan_put rest (Lib.zigzag n) (Lib.zigzag n) 0 0 (Nat.le_refl _) (by decide) (by simpa using hz) (by simp)
  have h2 : scan 0 0 (numB n ++ rest) = (Lib.zigzag n, (numB n).length, 0) := by
    unfold numB
    rw [h]
    simp
  rw [getI_ok h2, unz_z]

theorem getB_put (is : Bool) (rest : List UInt8) : getB (boolB is ++ rest) = (is, 1, 0) := by
  cases is <;> rfl

theorem getC_put {n : Int} (h0 : -9223372036854775808 ≤ n) (h1 : n ≤ 9223372036854775807) (rest : List UInt8) (most : Int) :
    getC (numB n ++ rest) most = if n < 0 then (0, 0, 4) else if max most 0 < n then (0, 0, 5) else (n, (numB n).length, 0) := by
  unfold getC
  rw [getI_put h0 h1 rest]
  simp

theorem getT_put (s : ByteArray) (rest : List UInt8) (most : Int) (hs : s.size ≤ 9223372036854775807) :
    getT (textB s ++ rest) most = if max most 0 < (s.size : Int) then ([], 0, 5) else (s.data.toList, (textB s).length, 0) := by
  have hc : getC (textB s ++ rest) most = if max most 0 < (s.size : Int) then (0, 0, 5) else ((s.size : Int), (numB s.size).length, 0) := by
    unfold textB
    rw [List.append_assoc, getC_put (by omega) (by omega), if_neg (by omega)]
  unfold getT
  rw [hc]
  by_cases h : max most 0 < (s.size : Int)
  · rw [if_pos h]; simp [h]
  · rw [if_neg h, if_neg h]
    have hl : (textB s ++ rest).length = (numB s.size).length + s.size + rest.length := by
      unfold textB; rw [List.length_append, List.length_append, data_len]
    simp only [ne_eq, not_true_eq_false, if_false, Int.toNat_natCast]
    rw [if_neg (by rw [hl]; omega)]
    refine Prod.ext ?_ (Prod.ext ?_ rfl)
    · show ((textB s ++ rest).drop (numB s.size).length).take s.size = s.data.toList
      unfold textB
      rw [List.append_assoc, List.drop_left, ← data_len s, List.take_left]
    · show (numB s.size).length + s.size = (textB s).length
      unfold textB; rw [List.length_append, data_len]

theorem boolB_len (is : Bool) : (boolB is).length = 1 := by cases is <;> rfl
theorem textB_len (s : ByteArray) : (textB s).length = (numB s.size).length + s.size := by unfold textB; rw [List.length_append, data_len]

/-- What was scanned well was written so. -/
theorem scan_form : ∀ (l : List UInt8) (i acc f k : Nat), i ≤ 9 → scan i acc l = (f, k, 0) →
    ∃ y, f = acc + y * 128 ^ i ∧ k = i + (Lib.uvarint y).length ∧ l.take (Lib.uvarint y).length = Lib.uvarint y ∧ (0 < i → 0 < y) ∧ y * 128 ^ i < 18446744073709551616
  | [], i, acc, f, k, hi, h => by simp [scan] at h
  | x :: r, i, acc, f, k, hi, h => by
    have hx := UInt8.toNat_lt x
    unfold scan at h
    split at h
    · simp at h
    · rename_i hn
      split at h
      · rename_i hs
        simp only [Prod.mk.injEq] at h
        obtain ⟨rfl, rfl, _⟩ := h
        have e1 : x.toNat.toUInt8 = x := by simp [Nat.toUInt8]
        refine ⟨x.toNat, by rw [Nat.mod_eq_of_lt hs], ?_, ?_, fun h0 => by omega, ?_⟩
        · rw [Lib.uvarint_small hs]; rfl
        · rw [Lib.uvarint_small hs, e1]; rfl
        · have h9 : i = 9 → x.toNat % 128 ≤ 1 := fun h9 => by omega
          have := room9 (x := x.toNat) hi h9
          rw [Nat.mod_eq_of_lt hs] at this
          exact this
      · rename_i hs
        have hi8 : i ≤ 8 := by omega
        obtain ⟨y, h1, h2, h3, h4, h5⟩ := scan_form r (i + 1) (acc + x.toNat % 128 * 128 ^ i) f k (by omega) h
        have hy0 := h4 (by omega)
        have hz : 128 ≤ x.toNat % 128 + 128 * y := by omega
        have e2 : (x.toNat % 128 + 128 * y) % 128 = x.toNat % 128 := by omega
        have e3 : (x.toNat % 128 + 128 * y) / 128 = y := by omega
        have e1 : (x.toNat % 128 + 128).toUInt8 = x := by
          have : x.toNat % 128 + 128 = x.toNat := by omega
          rw [this]; simp [Nat.toUInt8]
        have hu : Lib.uvarint (x.toNat % 128 + 128 * y) = x :: Lib.uvarint y := by rw [Lib.uvarint_big hz, e2, e3, e1]
        have hsum : (x.toNat % 128 + 128 * y) * 128 ^ i = x.toNat % 128 * 128 ^ i + y * 128 ^ (i + 1) := by
          rw [Nat.add_mul, Nat.pow_succ, Nat.mul_comm (128 ^ i) 128, ← Nat.mul_assoc, Nat.mul_comm 128 y]
        refine ⟨x.toNat % 128 + 128 * y, by rw [h1, hsum]; omega, ?_, ?_, fun _ => by omega, ?_⟩
        · rw [hu, h2, List.length_cons]; omega
        · rw [hu, List.length_cons, List.take_succ_cons, h3]
        · rw [hsum]
          have ha : x.toNat % 128 * 128 ^ i < 128 ^ (i + 1) := by
            rw [Nat.pow_succ, Nat.mul_comm]
            exact Nat.mul_lt_mul_of_pos_left (Nat.mod_lt _ (by decide)) (Nat.pow_pos (by decide))
          -- y * 128 ^ (i + 1) is a multiple of 128 ^ (i + 1), below 2 ^ 64, which is one, too
          have hd : (128 : Nat) ^ (i + 1) ∣ 18446744073709551616 := by
            rw [pow7, show (18446744073709551616 : Nat) = 2 ^ 64 by decide]
            exact Nat.pow_dvd_pow 2 (by omega)
          obtain ⟨c, hc⟩ := hd
          rw [hc] at h5 ⊢
          rw [Nat.mul_comm (128 ^ (i + 1)) c] at h5 ⊢
          have hyc : y < c := Nat.lt_of_mul_lt_mul_right h5
          have : (y + 1) * 128 ^ (i + 1) ≤ c * 128 ^ (i + 1) := Nat.mul_le_mul_right _ hyc
          rw [Nat.add_mul, Nat.one_mul] at this
          omega

theorem getI_form {bs : List UInt8} {n : Int} {k : Nat} (h : getI bs = (n, k, 0)) : bs.take k = numB n ∧ k = (numB n).length ∧ -9223372036854775808 ≤ n ∧ n ≤ 9223372036854775807 := by
  unfold getI at h
  split at h
  · rename_i he
    obtain ⟨f, k', e⟩ : ∃ f k' : Nat, scan 0 0 bs = (f, k', 0) := ⟨(scan 0 0 bs).1, (scan 0 0 bs).2.1, Prod.ext rfl (Prod.ext rfl he)⟩
    rw [e] at h
    simp only [Prod.mk.injEq] at h
    obtain ⟨rfl, rfl, _⟩ := h
    obtain ⟨y, h1, h2, h3, _, h5⟩ := scan_form bs 0 0 f k' (by decide) e
    simp only [Nat.pow_zero, Nat.mul_one, Nat.zero_add] at h1 h2 h5
    subst h1
    unfold numB
    rw [z_unz]
    refine ⟨by rw [h2]; exact h3, h2, ?_, ?_⟩
    · unfold Lib.unzigzag; split <;> omega
    · unfold Lib.unzigzag; split <;> omega
  · rename_i he
    simp only [Prod.mk.injEq] at h
    exact absurd h.2.2 he

/-- Cut off, it ends too early. -/
theorem scan_cut : ∀ (m y i acc j : Nat), y ≤ m → i ≤ 9 → y * 128 ^ i < 18446744073709551616 → (0 < i → 0 < y) → j < (Lib.uvarint y).length →
    scan i acc ((Lib.uvarint y).take j) = (0, 0, 3)
  | m, y, i, acc, j, hm, hi, hy, h0, hj => by
    by_cases hs : y < 128
    · rw [Lib.uvarint_small hs] at hj ⊢
      have : j = 0 := by simpa using hj
      subst this
      rfl
    · match m with
      | 0 => omega
      | m + 1 =>
        rw [Lib.uvarint_big (by omega)] at hj ⊢
        match j with
        | 0 => rfl
        | j + 1 =>
          have hi9 : i ≠ 9 := by
            intro h
            subst h
            rw [pow64] at hy
            omega
          have hb : (y % 128 + 128).toUInt8.toNat = y % 128 + 128 := u8n (by omega)
          have hn : ¬ ((0 < i ∧ (y % 128 + 128).toUInt8.toNat = 0) ∨ (i = 9 ∧ (y % 128 + 128).toUInt8.toNat ≠ 1)) := by rw [hb]; omega
          have hdm : y / 128 * 128 ^ (i + 1) + y % 128 * 128 ^ i = y * 128 ^ i := by
            rw [Nat.pow_succ, Nat.mul_comm (128 ^ i) 128, ← Nat.mul_assoc, ← Nat.add_mul]
            congr 1
            omega
          rw [List.take_succ_cons]
          conv => lhs; unfold scan
          rw [if_neg hn, if_neg (by rw [hb]; omega)]
          exact scan_cut m (y / 128) (i + 1) _ j (by omega) (by omega) (by omega) (fun _ => by omega) (by simpa using hj)

theorem getI_cut {n : Int} (h0 : -9223372036854775808 ≤ n) (h1 : n ≤ 9223372036854775807) {j : Nat} (hj : j < (numB n).length) : getI ((numB n).take j) = (0, 0, 3) := by
  have hz := Lib.zigzag_lt h0 h1
  exact getI_err (scan_cut (Lib.zigzag n) (Lib.zigzag n) 0 0 j (Nat.le_refl _) (by decide) (by simpa using hz) (by simp) hj) (by decide)
end Go.Proofs.YtbdgniiafdjmiaaGreatDoor
