/- Turned bits: a row of up to 32 turned bits behind a frame's length turns the register. -/
import Derived.Test.YtffedjgbhdaecaaFLinear
import Derived.Test.YtffedjgbhdaecaaFMath
namespace Go.Proofs.Ytffedjgbhdaecaa
open Go.RowKit

/-- Bytes as one number, the first the lowest. -/
def leV : List UInt8 → Nat
  | [] => 0
  | b :: bs => b.toNat + 256 * leV bs

theorem xor_shift (k a b : Nat) (h : a < 2 ^ k) : a ^^^ (b * 2 ^ k) = a + b * 2 ^ k := by
  apply Nat.eq_of_testBit_eq
  intro i
  rw [Nat.testBit_xor, show a + b * 2 ^ k = 2 ^ k * b + a by rw [Nat.mul_comm]; omega, Nat.testBit_two_pow_mul_add b h, Nat.mul_comm b, Nat.testBit_two_pow_mul]
  by_cases hi : i < k
  · rw [if_pos hi, show decide (i ≥ k) = false from decide_eq_false (by omega)]; simp
  · rw [if_neg hi]
    have : a.testBit i = false := Nat.testBit_lt_two_pow (Nat.lt_of_lt_of_le h (Nat.pow_le_pow_right (by decide) (by omega)))
    rw [this, show decide (i ≥ k) = true from decide_eq_true (by omega)]; simp

theorem xor_mul_pow (k a b : Nat) : (a ^^^ b) * 2 ^ k = a * 2 ^ k ^^^ b * 2 ^ k := by
  apply Nat.eq_of_testBit_eq
  intro i
  rw [Nat.testBit_xor, Nat.mul_comm, Nat.mul_comm a, Nat.mul_comm b, Nat.testBit_two_pow_mul, Nat.testBit_two_pow_mul, Nat.testBit_two_pow_mul, Nat.testBit_xor]
  cases decide (i ≥ k) <;> simp

theorem leV_cons (b : UInt8) (bs : List UInt8) : leV (b :: bs) = b.toNat ^^^ leV bs * 2 ^ 8 := by
  rw [xor_shift 8 _ _ (UInt8.toNat_lt b)]; show b.toNat + 256 * leV bs = _; omega

theorem leV_lt : ∀ bs : List UInt8, leV bs < 2 ^ (8 * bs.length)
  | [] => by decide
  | b :: bs => by
    have h := leV_lt bs
    have hb := UInt8.toNat_lt b
    show b.toNat + 256 * leV bs < 2 ^ (8 * (bs.length + 1))
    rw [show 8 * (bs.length + 1) = 8 * bs.length + 8 by omega, Nat.pow_add]
    omega

theorem leV_inj : ∀ {a b : List UInt8}, a.length = b.length → leV a = leV b → a = b
  | [], [], _, _ => rfl
  | x :: a, y :: b, hl, hv => by
    have h : x.toNat + 256 * leV a = y.toNat + 256 * leV b := hv
    have hx := UInt8.toNat_lt x
    have hy := UInt8.toNat_lt y
    have e1 : x = y := UInt8.toNat_inj.1 (by omega)
    have e2 := leV_inj (a := a) (b := b) (by simpa using hl) (by omega)
    rw [e1, e2]

theorem leV_append : ∀ a b : List UInt8, leV (a ++ b) = leV a + leV b * 2 ^ (8 * a.length)
  | [], b => by simp [leV]
  | x :: a, b => by
    show x.toNat + 256 * leV (a ++ b) = x.toNat + 256 * leV a + leV b * 2 ^ (8 * (a.length + 1))
    rw [leV_append a b, show 8 * (a.length + 1) = 8 * a.length + 8 by omega, Nat.pow_add, ← Nat.mul_assoc]
    omega

theorem leV_leB {s : Nat} (h : s < 4294967296) : leV (leB s) = s := by
  have h0 : ∀ x : Nat, x < 256 → (x.toUInt8).toNat = x := fun x hx => Lib.toUInt8_toNat hx
  simp only [leB, leV]
  rw [h0 _ (by omega), h0 _ (by omega), h0 _ (by omega), h0 _ (by omega)]
  omega

theorem leV_take {bs : List UInt8} {n : Nat} (h : n ≤ bs.length) : leV (bs.take n) = leV bs % 2 ^ (8 * n) := by
  have e := leV_append (bs.take n) (bs.drop n)
  have hl : (bs.take n).length = n := by rw [List.length_take]; omega
  have hlt := leV_lt (bs.take n)
  rw [List.take_append_drop, hl] at e
  rw [hl] at hlt
  rw [e, Nat.add_mul_mod_self_right, Nat.mod_eq_of_lt hlt]

theorem leV_set : ∀ (bs : List UInt8) (j : Nat) (c : UInt8) (h : j < bs.length), leV (bs.set j (bs[j] ^^^ c)) = leV bs ^^^ c.toNat * 2 ^ (8 * j)
  | b :: bs, 0, c, _ => by
    show leV ((b ^^^ c) :: bs) = _
    rw [leV_cons, leV_cons, UInt8.toNat_xor, Nat.mul_zero, Nat.pow_zero, Nat.mul_one, Nat.xor_assoc, Nat.xor_assoc, Nat.xor_comm c.toNat]
  | b :: bs, j + 1, c, h => by
    show leV (b :: bs.set j (bs[j]'(by simpa using h) ^^^ c)) = _
    rw [leV_cons, leV_cons, leV_set bs j c (by simpa using h), xor_mul_pow, Nat.xor_assoc, Nat.mul_assoc, ← Nat.pow_add, show 8 * (j + 1) = 8 * j + 8 by omega]

theorem reg_leV : ∀ (bs : List UInt8) (s : Nat), reg s bs = stpN (8 * bs.length) (s ^^^ leV bs)
  | [], s => by simp [reg, leV, stpN]
  | b :: bs, s => by
    show reg (feed s b) bs = stpN (8 * (bs.length + 1)) _
    rw [reg_leV bs, show 8 * (bs.length + 1) = 8 * bs.length + 8 by omega, stpN_add, leV_cons, ← Nat.xor_assoc, stpN_xor 8, stpN_shift]
    rfl

/-- Behind its own sum the register is always the same. -/
theorem reg_frame (h : List UInt8) : reg 4294967295 (h ++ leB (sumB h)) = stpN 32 4294967295 := by
  have hr := reg_lt h (s := 4294967295) (by decide)
  rw [reg_append, reg_leV (leB _), leV_leB (show sumB h < 4294967296 from moreB_lt 0 h), leB_len, sumB_xor]
  congr 1
  rw [Nat.xor_comm 4294967295, ← Nat.xor_assoc, Nat.xor_self, Nat.zero_xor]

theorem turned_math {x B : List UInt8} (hx : x.length ≤ 1048576) {k P : Nat} (hlen : B.length = (frameB x).length) (hv : leV B = leV (frameB x) ^^^ P * 2 ^ k)
    (hk : 8 * (numB x.length).length ≤ k) (hkl : k ≤ 8 * (frameB x).length) (hP : P < 4294967296) (h0 : P ≠ 0) : getF B 0 = ([], 0, 4) := by
  obtain ⟨n, hn⟩ : ∃ n, n = (numB x.length).length := ⟨_, rfl⟩
  have hfl := frameB_len x
  rw [← hn] at hfl hk
  have htk : B.take n = numB x.length := by
    have ef : (frameB x).take n = numB x.length := by
      have e : frameB x = numB x.length ++ (x ++ leB (sumB (headB x))) := by unfold frameB headB; simp
      rw [e, hn, List.take_left]
    have h1 := leV_take (bs := B) (n := n) (by omega)
    have h2 := leV_take (bs := frameB x) (n := n) (by omega)
    have hz : P * 2 ^ k % 2 ^ (8 * n) = 0 := by
      rw [show k = (k - 8 * n) + 8 * n by omega, Nat.pow_add, ← Nat.mul_assoc, Nat.mul_mod_left]
    rw [hv, Nat.xor_mod_two_pow, hz, Nat.xor_zero, ← h2, ef] at h1
    exact leV_inj (by rw [List.length_take]; omega) h1
  have hB : B = numB x.length ++ B.drop n := by rw [← htk]; exact (List.take_append_drop n B).symm
  have hc : cntF B = ((x.length : Int), n, 0) := by rw [hB, cntF_put hx, hn]
  rw [show (0 : Int) = ((0 : Nat) : Int) from rfl, getF_in (by omega)]
  refine getAt_e3 (l := B) rfl (by rw [hc]) (by rw [hc]; simp only [Int.toNat_natCast]; omega) ?_
  rw [hc]
  simp only [Int.toNat_natCast]
  intro hsum
  apply h0
  have hd4 : (B.drop (n + x.length)).take 4 = B.drop (n + x.length) := List.take_of_length_le (by rw [List.length_drop]; omega)
  rw [hd4] at hsum
  have e1 : B = B.take (n + x.length) ++ leB (sumB (B.take (n + x.length))) := by rw [← hsum]; exact (List.take_append_drop _ B).symm
  have r1 : reg 4294967295 B = stpN 32 4294967295 := by rw [e1]; exact reg_frame _
  have r2 : reg 4294967295 (frameB x) = stpN 32 4294967295 := reg_frame _
  rw [reg_leV] at r1 r2
  rw [hlen, hv, ← Nat.xor_assoc, stpN_xor, r2] at r1
  have r3 : stpN (8 * (frameB x).length) (P * 2 ^ k) = 0 := by
    have := congrArg (fun z => stpN 32 4294967295 ^^^ z) r1
    simp only [← Nat.xor_assoc, Nat.xor_self, Nat.zero_xor] at this
    exact this
  rw [show 8 * (frameB x).length = (8 * (frameB x).length - k) + k by omega, stpN_add, stpN_shift] at r3
  exact stpN_inj _ hP r3

theorem same_math {x B : List UInt8} (hx : x.length ≤ 1048576) (hlen : B.length = (frameB x).length) (hv : leV B = leV (frameB x)) : getF B 0 = (x, (frameB x).length, 0) := by
  have e : B = frameB x := leV_inj hlen hv
  rw [e, show (0 : Int) = ((0 : Nat) : Int) from rfl, getF_in (by omega)]
  have := getAt_put hx [] []
  simpa using this

/-- One bit more of the pattern. -/
theorem pat_step (p i k : Nat) : (p % 2 ^ (i + 1)) * 2 ^ k = (p % 2 ^ i) * 2 ^ k ^^^ (p / 2 ^ i % 2) * 2 ^ (k + i) := by
  have e : p % 2 ^ (i + 1) = p % 2 ^ i + (p / 2 ^ i % 2) * 2 ^ i := by
    rw [Nat.pow_succ, Nat.mod_mul, Nat.mul_comm]
  rw [e, ← xor_shift i _ _ (Nat.mod_lt _ (Nat.two_pow_pos i)), xor_mul_pow, Nat.mul_assoc, ← Nat.pow_add, Nat.add_comm i k]
end Go.Proofs.Ytffedjgbhdaecaa
