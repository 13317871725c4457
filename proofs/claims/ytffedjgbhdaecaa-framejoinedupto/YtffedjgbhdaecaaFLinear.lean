/- The register is linear over exclusive or, and goes down one to one. -/
import Derived.Test.YtffedjgbhdaecaaFPut
namespace Go.Proofs.Ytffedjgbhdaecaa
open Go.RowKit

theorem xor_mod2 (a b : Nat) : (a ^^^ b) % 2 = (a + b) % 2 := by
  have h := Nat.xor_mod_two_pow (a := a) (b := b) (n := 1)
  rw [show (2 : Nat) ^ 1 = 2 from rfl] at h
  rw [h]
  rcases Nat.mod_two_eq_zero_or_one a with ha | ha <;> rcases Nat.mod_two_eq_zero_or_one b with hb | hb <;> rw [ha, hb]
  · have : (a + b) % 2 = 0 := by omega
    rw [this]; rfl
  · have : (a + b) % 2 = 1 := by omega
    rw [this]; rfl
  · have : (a + b) % 2 = 1 := by omega
    rw [this]; rfl
  · have : (a + b) % 2 = 0 := by omega
    rw [this]; rfl

theorem stp_xor (a b : Nat) : stp (a ^^^ b) = stp a ^^^ stp b := by
  have hd : (a ^^^ b) / 2 = a / 2 ^^^ b / 2 := Nat.xor_div_two
  have hm := xor_mod2 a b
  unfold stp
  rw [hd, hm]
  rcases Nat.mod_two_eq_zero_or_one a with ha | ha <;> rcases Nat.mod_two_eq_zero_or_one b with hb | hb
  · have : (a + b) % 2 = 0 := by omega
    rw [this, ha, hb]; simp
  · have : (a + b) % 2 = 1 := by omega
    rw [this, ha, hb]; simp [Nat.xor_assoc]
  · have : (a + b) % 2 = 1 := by omega
    rw [this, ha, hb]
    simp only [Nat.mul_zero, Nat.mul_one, Nat.xor_zero]
    rw [Nat.xor_assoc, Nat.xor_comm (b / 2), ← Nat.xor_assoc]
  · have : (a + b) % 2 = 0 := by omega
    rw [this, ha, hb]
    simp only [Nat.mul_zero, Nat.mul_one, Nat.xor_zero]
    rw [Nat.xor_assoc, ← Nat.xor_assoc 3988292384, Nat.xor_comm 3988292384, Nat.xor_assoc (b / 2), Nat.xor_self, Nat.xor_zero]

theorem stpN_xor : ∀ (k a b : Nat), stpN k (a ^^^ b) = stpN k a ^^^ stpN k b
  | 0, _, _ => rfl
  | k + 1, a, b => by show stp (stpN k (a ^^^ b)) = _; rw [stpN_xor k a b, stp_xor]; rfl

theorem stp_zero : stp 0 = 0 := by decide
theorem stpN_zero : ∀ k, stpN k 0 = 0
  | 0 => rfl
  | k + 1 => by show stp (stpN k 0) = 0; rw [stpN_zero k, stp_zero]

theorem stp_inj {a : Nat} (h : a < 4294967296) (h0 : stp a = 0) : a = 0 := by
  unfold stp at h0
  rcases Nat.mod_two_eq_zero_or_one a with ha | ha
  · rw [ha] at h0; simp at h0; omega
  · rw [ha, Nat.mul_one] at h0
    have h1 : a / 2 = (a / 2 ^^^ 3988292384) ^^^ 3988292384 := by rw [Nat.xor_assoc, Nat.xor_self, Nat.xor_zero]
    rw [h0, Nat.zero_xor] at h1
    omega

theorem stpN_inj : ∀ (k : Nat) {a : Nat}, a < 4294967296 → stpN k a = 0 → a = 0
  | 0, _, _, h0 => h0
  | k + 1, _, h, h0 => stpN_inj k h (stp_inj (stpN_lt h k) h0)

theorem stpN_add : ∀ (j k a : Nat), stpN (j + k) a = stpN j (stpN k a)
  | 0, k, a => by rw [Nat.zero_add]; rfl
  | j + 1, k, a => by rw [show j + 1 + k = (j + k) + 1 by omega]; show stp (stpN (j + k) a) = stp (stpN j (stpN k a)); rw [stpN_add j k a]

/-- Noughts that go out leave the rest. -/
theorem stpN_shift : ∀ (k x : Nat), stpN k (x * 2 ^ k) = x
  | 0, x => by simp [stpN]
  | k + 1, x => by
    show stp (stpN k (x * 2 ^ (k + 1))) = x
    have e : x * 2 ^ (k + 1) = (x * 2) * 2 ^ k := by rw [Nat.pow_succ]; rw [Nat.mul_assoc, Nat.mul_comm 2]
    rw [e, stpN_shift k (x * 2), show stp (x * 2) = x by unfold stp; rw [show x * 2 % 2 = 0 by omega, show x * 2 / 2 = x by omega]; simp]

theorem feed_xor (a b : Nat) (x y : UInt8) : feed (a ^^^ b) (x ^^^ y) = feed a x ^^^ feed b y := by
  unfold feed
  rw [UInt8.toNat_xor, ← stpN_xor]
  congr 1
  rw [Nat.xor_assoc, Nat.xor_assoc]
  congr 1
  rw [← Nat.xor_assoc, ← Nat.xor_assoc, Nat.xor_comm b]

theorem reg_xor : ∀ (us bs : List UInt8) (a b : Nat), us.length = bs.length → reg (a ^^^ b) (List.zipWith (· ^^^ ·) us bs) = reg a us ^^^ reg b bs
  | [], [], _, _, _ => rfl
  | x :: us, y :: bs, a, b, h => by
    show reg (feed (a ^^^ b) (x ^^^ y)) (List.zipWith (· ^^^ ·) us bs) = reg (feed a x) us ^^^ reg (feed b y) bs
    rw [feed_xor]
    exact reg_xor us bs _ _ (by simpa using h)

theorem sumB_xor (bs : List UInt8) : sumB bs = 4294967295 ^^^ reg 4294967295 bs := by
  unfold sumB moreB
  rw [xor_ones32 _ (reg_lt bs (by decide))]

/-- The sum of three rows of one length. -/
theorem sum_three {us bs cs : List UInt8} (h1 : us.length = bs.length) (h2 : bs.length = cs.length) :
    sumB (List.zipWith (· ^^^ ·) (List.zipWith (· ^^^ ·) us bs) cs) = sumB us ^^^ sumB bs ^^^ sumB cs := by
  have e : (4294967295 : Nat) = (4294967295 ^^^ 4294967295) ^^^ 4294967295 := by decide
  have hr : reg 4294967295 (List.zipWith (· ^^^ ·) (List.zipWith (· ^^^ ·) us bs) cs) = (reg 4294967295 us ^^^ reg 4294967295 bs) ^^^ reg 4294967295 cs := by
    have h3 := reg_xor (List.zipWith (· ^^^ ·) us bs) cs (4294967295 ^^^ 4294967295) 4294967295 (by rw [List.length_zipWith]; omega)
    rw [reg_xor us bs 4294967295 4294967295 h1, ← e] at h3
    exact h3
  rw [sumB_xor, hr, sumB_xor us, sumB_xor bs, sumB_xor cs]
  generalize reg 4294967295 us = x
  generalize reg 4294967295 bs = y
  generalize reg 4294967295 cs = z
  apply Nat.eq_of_testBit_eq
  intro i
  simp only [Nat.testBit_xor]
  cases Nat.testBit 4294967295 i <;> cases Nat.testBit x i <;> cases Nat.testBit y i <;> cases Nat.testBit z i <;> rfl
end Go.Proofs.Ytffedjgbhdaecaa
