/- The sum, by its definition; what frame.More and frame.Sum answer. -/
import Derived.Test.YtffedjgbhdaecaaWGetText
import Derived.Laws.Bits64
namespace Go.Proofs.Ytffedjgbhdaecaa
open Go.RowKit

/-- The register goes one bit down. -/
def stp (s : Nat) : Nat := (s / 2) ^^^ (3988292384 * (s % 2))
/-- So many times. -/
def stpN : Nat → Nat → Nat
  | 0, s => s
  | k + 1, s => stp (stpN k s)
/-- A byte is fed in. -/
def feed (s : Nat) (b : UInt8) : Nat := stpN 8 (s ^^^ b.toNat)
def reg (s : Nat) (bs : List UInt8) : Nat := bs.foldl feed s
def moreB (sum : Nat) (bs : List UInt8) : Nat := 4294967295 - reg (4294967295 - sum) bs
def sumB (bs : List UInt8) : Nat := moreB 0 bs

theorem xor32 {a b : Nat} (ha : a < 4294967296) (hb : b < 4294967296) : a ^^^ b < 4294967296 := Nat.xor_lt_two_pow (n := 32) ha hb

theorem stp_lt {s : Nat} (h : s < 4294967296) : stp s < 4294967296 := by
  unfold stp
  refine xor32 (by omega) ?_
  have : s % 2 < 2 := Nat.mod_lt _ (by decide)
  have h2 : 3988292384 * (s % 2) ≤ 3988292384 * 1 := Nat.mul_le_mul_left _ (by omega)
  omega

theorem stpN_lt {s : Nat} (h : s < 4294967296) : ∀ k, stpN k s < 4294967296
  | 0 => h
  | k + 1 => stp_lt (stpN_lt h k)

theorem feed_lt {s : Nat} (h : s < 4294967296) (b : UInt8) : feed s b < 4294967296 :=
  stpN_lt (xor32 h (by have := UInt8.toNat_lt b; omega)) 8

theorem reg_lt : ∀ (bs : List UInt8) {s : Nat}, s < 4294967296 → reg s bs < 4294967296
  | [], _, h => h
  | b :: bs, _, h => by show reg (feed _ b) bs < _; exact reg_lt bs (feed_lt h b)

theorem reg_append (s : Nat) (a b : List UInt8) : reg s (a ++ b) = reg (reg s a) b := by unfold reg; rw [List.foldl_append]

theorem reg_take_succ (s : Nat) (bs : List UInt8) (k : Nat) (h : k < bs.length) : reg s (bs.take (k + 1)) = feed (reg s (bs.take k)) bs[k] := by
  rw [List.take_succ_eq_append_getElem h, reg_append]; rfl

theorem moreB_lt (sum : Nat) (bs : List UInt8) : moreB sum bs < 4294967296 := by unfold moreB; omega

theorem bits_xor_u32 (a b : Nat) (ha : a < 4294967296) (hb : b < 4294967296) : bits .xor .u32 (a : Int) (b : Int) = ((a ^^^ b : Nat) : Int) := by
  show IntKind.u32.wrap ((BitVec.ofInt 32 (a : Int) ^^^ BitVec.ofInt 32 (b : Int)).toNat : Int) = _
  have h1 : ∀ x : Nat, x < 4294967296 → (BitVec.ofInt 32 (x : Int)).toNat = x := fun x hx => by
    rw [BitVec.ofInt_natCast, BitVec.toNat_ofNat]; exact Nat.mod_eq_of_lt (by omega)
  rw [BitVec.toNat_xor, h1 a ha, h1 b hb]
  have := xor32 ha hb
  show (((a ^^^ b : Nat) : Int) % 4294967296) = _
  omega

theorem xor_ones32 (b : Nat) (hb : b < 4294967296) : 4294967295 ^^^ b = 4294967295 - b := by
  apply Nat.eq_of_testBit_eq
  intro i
  rw [Nat.testBit_xor, show (4294967295 : Nat) = 2 ^ 32 - 1 from rfl, Nat.testBit_two_pow_sub_one, show 2 ^ 32 - 1 - b = 2 ^ 32 - (b + 1) by omega, Nat.testBit_two_pow_sub_succ (show b < 2 ^ 32 from hb)]
  by_cases hi : i < 32
  · simp [hi]
  · have : b.testBit i = false := Nat.testBit_lt_two_pow (Nat.lt_of_lt_of_le (show b < 2 ^ 32 from hb) (Nat.pow_le_pow_right (by decide) (by omega)))
    simp [hi, this]

theorem not_u32 (b : Nat) (hb : b < 4294967296) : bits .xor .u32 IntKind.u32.max (b : Int) = ((4294967295 - b : Nat) : Int) := by
  have e2 : IntKind.u32.max = ((4294967295 : Nat) : Int) := by decide
  rw [e2, bits_xor_u32 _ _ (by decide) hb, xor_ones32 b hb]

theorem and1_u32 (x : Nat) (h : x < 4294967296) : bits .and .u32 (x : Int) 1 = ((x % 2 : Nat) : Int) := by
  show IntKind.u32.wrap ((BitVec.ofInt 32 (x : Int) &&& BitVec.ofInt 32 1).toNat : Int) = _
  have h1 : (BitVec.ofInt 32 (x : Int)).toNat = x := by
    rw [BitVec.ofInt_natCast, BitVec.toNat_ofNat]; exact Nat.mod_eq_of_lt (by omega)
  have h2 : (BitVec.ofInt 32 1).toNat = 1 := by decide
  rw [BitVec.toNat_and, h1, h2, Nat.and_one_is_mod]
  show (((x % 2 : Nat) : Int) % 4294967296) = _
  omega

theorem stp_run {t : Nat} (h : t < 4294967296) : bits .xor .u32 ((t : Int) / 2) (3988292384 * ((t : Int) % 2)) = ((stp t : Nat) : Int) := by
  have e1 : (t : Int) / 2 = ((t / 2 : Nat) : Int) := by omega
  have e2 : 3988292384 * ((t : Int) % 2) = ((3988292384 * (t % 2) : Nat) : Int) := by omega
  rw [e1, e2, bits_xor_u32 _ _ (by omega) (by omega)]
  rfl

set_option maxHeartbeats 2000000 in
set_option maxRecDepth 100000 in
theorem more_any (sum : Nat) (hs : sum < 4294967296) (base : Option Addr) (bs : List UInt8) (cap : Nat) (w : World) (hr : rowAt w base bs) (hl : bs.length ≤ maxLen) :
    Calls Try.prog 23 #[.int .u32 sum, .slice base bs.length cap] w fun e w' => e = .returned (.int .u32 (moreB sum bs)) ∧ w = w' := by
  unfold maxLen at hl
  obtain ⟨len, hlen⟩ : ∃ len, len = bs.length := ⟨_, rfl⟩
  have HL : Hid (len = bs.length) := hlen
  rw [← hlen] at hl ⊢
  clear hlen
  have hnot := not_u32 sum hs
  have hs0 : 4294967295 - sum < 4294967296 := by omega
  obtain ⟨s0, hs0e⟩ : ∃ s0, s0 = 4294967295 - sum := ⟨_, rfl⟩
  rw [← hs0e] at hnot hs0
  have HS0 : Hid (s0 = 4294967295 - sum) := hs0e
  clear hs0e
  go_enter Try.func23, Try.ntmps23
  have hsg : IntKind.u32.signed = false := rfl
  go_wp2
  go_loop [5, 13] (fun f i => ∃ k : Nat, k ≤ len ∧ i = .int .i64 k ∧ f = .int .u32 (reg s0 (bs.take k))) (fun _ i => len - (intOf i).toNat)
  case atStart => exact ⟨0, Nat.zero_le _, rfl, by simp [reg]⟩
  case round =>
    obtain ⟨k, hk, rfl, rfl⟩ := hrel
    obtain ⟨s, hs'⟩ : ∃ s, s = reg s0 (bs.take k) := ⟨_, rfl⟩
    have hslt : s < 4294967296 := by rw [hs']; exact reg_lt _ hs0
    rw [← hs']
    have HS : Hid (s = reg s0 (bs.take k)) := hs'
    clear hs'
    by_cases hlt : k < len
    · have hkb : k < bs.length := by rw [← HL.out]; exact hlt
      rcases hr with rfl | ⟨b, o, rfl, hcell⟩
      · simp at hkb
      · have hc := hcell k hkb
        obtain ⟨x, hx⟩ : ∃ x, x = bs[k].toNat := ⟨_, rfl⟩
        have hx256 : x < 256 := by rw [hx]; exact UInt8.toNat_lt _
        rw [← hx] at hc
        have HX : Hid (x = bs[k].toNat) := hx
        clear hx hcell
        have hxor := bits_xor_u32 s x hslt (by omega)
        have hwx : IntKind.u32.wrap (x : Int) = (x : Int) := wraps_u32 _ (by omega) (by omega)
        have hs1 : s ^^^ x < 4294967296 := xor32 hslt (by omega)
        obtain ⟨s1, hs1e⟩ : ∃ s1, s1 = s ^^^ x := ⟨_, rfl⟩
        rw [← hs1e] at hxor hs1
        have HS1 : Hid (s1 = s ^^^ x) := hs1e
        clear hs1e
        go_wp2
        go_loop [5, 21] (fun f i => ∃ j : Nat, j ≤ 8 ∧ i = .int .i64 j ∧ f = .int .u32 (stpN j s1)) (fun _ i => 8 - (intOf i).toNat)
        case atStart => exact ⟨0, Nat.zero_le _, rfl, rfl⟩
        case round =>
          obtain ⟨j, hj, rfl, rfl⟩ := hrel
          obtain ⟨t, ht⟩ : ∃ t, t = stpN j s1 := ⟨_, rfl⟩
          have htlt : t < 4294967296 := by rw [ht]; exact stpN_lt hs1 _
          rw [← ht]
          have HT : Hid (t = stpN j s1) := ht
          clear ht
          by_cases hj8 : j < 8
          · have hand := and1_u32 t htlt
            have hstep := stp_run htlt
            have HST : Hid (stpN (j + 1) s1 = stp t) := show stpN (j + 1) s1 = stp t by rw [HT.out]; rfl
            go_wp2
            go_round
            case rel => exact ⟨j + 1, by omega, by go_num, by rw [HST.out]⟩
            case measure => simp [intOf]; omega
          · obtain rfl : j = 8 := by omega
            have HF : Hid (reg s0 (bs.take (k + 1)) = t) := show reg s0 (bs.take (k + 1)) = t by rw [reg_take_succ _ _ _ hkb, HT.out]; unfold feed; rw [← HS.out, ← HX.out, ← HS1.out]
            go_wp2
            go_round
            case rel => exact ⟨k + 1, by omega, by go_num, by rw [HF.out]⟩
            case measure => simp [intOf]; omega
    · obtain rfl : k = len := by omega
      have hn := not_u32 s hslt
      have HF : Hid (4294967295 - s = moreB sum bs) := show 4294967295 - s = moreB sum bs by unfold moreB; rw [HS.out, ← HS0.out, HL.out, List.take_length]
      rw [HF.out] at hn
      go_wp2
      go_ret
      exact ⟨rfl, rfl⟩

set_option maxHeartbeats 1000000 in
set_option maxRecDepth 100000 in
theorem sum_any (base : Option Addr) (bs : List UInt8) (cap : Nat) (w : World) (hr : rowAt w base bs) (hl : bs.length ≤ maxLen) :
    Calls Try.prog 24 #[.slice base bs.length cap] w fun e w' => e = .returned (.int .u32 (sumB bs)) ∧ w = w' := by
  go_enter Try.func24, Try.ntmps24
  go_wp2_with fail
  refine (more_any 0 (by decide) base bs cap w hr hl).mono ?_
  rintro e w1 ⟨rfl, rfl⟩
  go_wp2
  go_ret
  exact ⟨rfl, rfl⟩
end Go.Proofs.Ytffedjgbhdaecaa
