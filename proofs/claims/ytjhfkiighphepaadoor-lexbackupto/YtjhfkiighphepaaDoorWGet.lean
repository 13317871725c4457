/- Reading a number off bytes. -/
import Derived.Test.YtjhfkiighphepaaDoorWPuts
import Derived.Lib.EndianBits
namespace Go.Proofs.YtjhfkiighphepaaDoor
open Go.RowKit

/-- The slice that begins at base reads in w as bs. -/
def rowAt (w : World) (base : Option Addr) (bs : List UInt8) : Prop :=
  bs = [] ∨ ∃ b o, base = some ⟨b, o, none⟩ ∧ ∀ j (h : j < bs.length), w.cell? ⟨b, o + j, none⟩ = some (.int .u8 (bs[j].toNat : Int))

/-- A fold off bytes: it, how many bytes, what went wrong; i bytes are behind, their sum is acc. -/
def scan (i acc : Nat) : List UInt8 → Nat × Nat × Nat
  | [] => (0, 0, 3)
  | x :: r => if (0 < i ∧ x.toNat = 0) ∨ (i = 9 ∧ x.toNat ≠ 1) then (0, 0, 4) else if x.toNat < 128 then (acc + x.toNat % 128 * 128 ^ i, i + 1, 0) else scan (i + 1) (acc + x.toNat % 128 * 128 ^ i) r

/-- A number off bytes: it, how many bytes, what went wrong. -/
def getI (bs : List UInt8) : Int × Nat × Nat :=
  if (scan 0 0 bs).2.2 = 0 then (Lib.unzigzag (scan 0 0 bs).1, (scan 0 0 bs).2.1, 0) else (0, 0, (scan 0 0 bs).2.2)

theorem getI_err {bs : List UInt8} {e : Nat} (h : scan 0 0 bs = (0, 0, e)) (he : e ≠ 0) : getI bs = (0, 0, e) := by
  unfold getI; rw [h]; simp [he]
theorem getI_ok {bs : List UInt8} {f k : Nat} (h : scan 0 0 bs = (f, k, 0)) : getI bs = (Lib.unzigzag f, k, 0) := by
  unfold getI; rw [h]; simp

theorem drop_at {bs : List UInt8} {k : Nat} (h : k < bs.length) : bs.drop k = bs[k] :: bs.drop (k + 1) := (List.getElem_cons_drop h).symm

theorem scan_bad {bs : List UInt8} {k acc : Nat} (h : k < bs.length) (hb : (0 < k ∧ bs[k].toNat = 0) ∨ (k = 9 ∧ bs[k].toNat ≠ 1)) : scan k acc (bs.drop k) = (0, 0, 4) := by
  rw [drop_at h]; unfold scan; rw [if_pos hb]
theorem scan_end {bs : List UInt8} {k acc : Nat} (h : k < bs.length) (hb : ¬ ((0 < k ∧ bs[k].toNat = 0) ∨ (k = 9 ∧ bs[k].toNat ≠ 1))) (hx : bs[k].toNat < 128) : scan k acc (bs.drop k) = (acc + bs[k].toNat % 128 * 128 ^ k, k + 1, 0) := by
  rw [drop_at h]; unfold scan; rw [if_neg hb, if_pos hx]
theorem scan_more {bs : List UInt8} {k acc : Nat} (h : k < bs.length) (hb : ¬ ((0 < k ∧ bs[k].toNat = 0) ∨ (k = 9 ∧ bs[k].toNat ≠ 1))) (hx : ¬ bs[k].toNat < 128) : scan k acc (bs.drop k) = scan (k + 1) (acc + bs[k].toNat % 128 * 128 ^ k) (bs.drop (k + 1)) := by
  rw [drop_at h]; conv => lhs; unfold scan
  rw [if_neg hb, if_neg hx]
theorem scan_none {bs : List UInt8} {k acc : Nat} (h : bs.length ≤ k) : scan k acc (bs.drop k) = (0, 0, 3) := by
  rw [List.drop_eq_nil_of_le h]; rfl

set_option maxRecDepth 100000 in
theorem andNot_nat : ∀ a : Fin 256, bits .andNot .u8 (a.val : Int) 128 = ((a.val % 128 : Nat) : Int) := by decide

theorem pow7 (k : Nat) : (128 : Nat) ^ k = 2 ^ (7 * k) := by rw [Nat.pow_mul]

theorem room9 {k x : Nat} (hk : k ≤ 9) (hx : k = 9 → x % 128 ≤ 1) : x % 128 * 128 ^ k < 18446744073709551616 := by
  have hm : x % 128 < 128 := Nat.mod_lt _ (by decide)
  rcases Nat.lt_or_ge k 9 with h | h
  · have h1 : (128 : Nat) ^ k ≤ 128 ^ 8 := Nat.pow_le_pow_right (by decide) (by omega)
    have h2 : x % 128 * 128 ^ k ≤ 127 * 128 ^ 8 := Nat.mul_le_mul (by omega) h1
    exact Nat.lt_of_le_of_lt h2 (by decide)
  · obtain rfl : k = 9 := by omega
    have h2 : x % 128 * 128 ^ 9 ≤ 1 * 128 ^ 9 := Nat.mul_le_mul (hx rfl) (Nat.le_refl _)
    exact Nat.lt_of_le_of_lt h2 (by decide)

theorem or_step {k acc x : Nat} (hk : k ≤ 9) (hacc : acc < 128 ^ k) (hx : x < 256) (h9 : k = 9 → x % 128 ≤ 1) :
    bits .or .u64 (acc : Int) (IntKind.u64.wrap (IntKind.u64.wrap (bits .andNot .u8 (x : Int) 128) * 2 ^ (7 * k))) = ((acc + x % 128 * 128 ^ k : Nat) : Int) := by
  have h1 : bits .andNot .u8 (x : Int) 128 = ((x % 128 : Nat) : Int) := andNot_nat ⟨x, hx⟩
  have hr := room9 hk h9
  have hm : x % 128 < 128 := Nat.mod_lt _ (by decide)
  have h2 : IntKind.u64.wrap ((x % 128 : Nat) : Int) = ((x % 128 : Nat) : Int) := wraps_u64 _ (by omega) (by omega)
  have e : ((x % 128 : Nat) : Int) * 2 ^ (7 * k) = ((x % 128 * 128 ^ k : Nat) : Int) := by
    rw [pow7, Int.natCast_mul, Int.natCast_pow]; rfl
  have h3 : IntKind.u64.wrap ((x % 128 * 128 ^ k : Nat) : Int) = ((x % 128 * 128 ^ k : Nat) : Int) := wraps_u64 _ (by omega) (by omega)
  rw [h1, h2, e, h3]
  have ha : (acc : Int) < 2 ^ (7 * k) := by
    rw [pow7] at hacc
    have h := Int.ofNat_lt.2 hacc
    rw [Int.natCast_pow] at h
    exact h
  have ha64 : acc < 18446744073709551616 := by
    exact Nat.lt_trans (Nat.lt_of_lt_of_le hacc (Nat.pow_le_pow_right (by decide) hk)) (by decide)
  have hmod : ((x % 128 * 128 ^ k : Nat) : Int) % 2 ^ (7 * k) = 0 := by
    rw [← e]; exact Int.mul_emod_left _ _
  have h := bits_join_low .u64 64 (by decide) wraps_u64 (7 * k) (acc : Int) ((x % 128 * 128 ^ k : Nat) : Int) (by omega) ha (by omega) (by omega) hmod (by omega)
  rw [h]; omega

theorem acc_lt {k acc x : Nat} (hacc : acc < 128 ^ k) : acc + x % 128 * 128 ^ k < 128 ^ (k + 1) := by
  have hm : x % 128 ≤ 127 := by omega
  have h2 : x % 128 * 128 ^ k ≤ 127 * 128 ^ k := Nat.mul_le_mul_right _ hm
  rw [Nat.pow_succ]; omega

theorem acc_64 {k acc x : Nat} (hk : k ≤ 9) (hacc : acc < 128 ^ k) (h9 : k = 9 → x % 128 ≤ 1) : acc + x % 128 * 128 ^ k < 18446744073709551616 := by
  have hm : x % 128 < 128 := Nat.mod_lt _ (by decide)
  rcases Nat.lt_or_ge k 9 with h | h
  · have h1 := acc_lt (x := x) hacc
    exact Nat.lt_trans (Nat.lt_of_lt_of_le h1 (Nat.pow_le_pow_right (by decide) (show k + 1 ≤ 9 by omega))) (by decide)
  · obtain rfl : k = 9 := by omega
    have h2 : x % 128 * 128 ^ 9 ≤ 1 * 128 ^ 9 := Nat.mul_le_mul (h9 rfl) (Nat.le_refl _)
    have h3 : (1 : Nat) * 128 ^ 9 = 9223372036854775808 := by decide
    have h4 : (128 : Nat) ^ 9 = 9223372036854775808 := by decide
    omega
end Go.Proofs.YtjhfkiighphepaaDoor
