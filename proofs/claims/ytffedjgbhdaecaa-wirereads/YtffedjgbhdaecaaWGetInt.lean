/- getInt: what it answers, of any bytes. -/
import Derived.Test.YtffedjgbhdaecaaWGet
namespace Go.Proofs.Ytffedjgbhdaecaa
open Go.RowKit

theorem ret3 {a b : Int × Nat × Nat} (h : a = b) : (Ending.returned (.tuple #[.int .i64 b.1, .int .i64 b.2.1, .int .i64 b.2.2]) : Ending) = Ending.returned (.tuple #[.int .i64 a.1, .int .i64 a.2.1, .int .i64 a.2.2]) := by rw [h]

set_option maxHeartbeats 2000000 in
set_option maxRecDepth 100000 in
theorem getInt_any (base : Option Addr) (bs : List UInt8) (cap : Nat) (w : World) (hr : rowAt w base bs) (hl : bs.length ≤ maxLen) :
    Calls Try.prog 52 #[.slice base bs.length cap] w fun e w' => e = .returned (.tuple #[.int .i64 (getI bs).1, .int .i64 (getI bs).2.1, .int .i64 (getI bs).2.2]) ∧ w = w' := by
  unfold maxLen at hl
  obtain ⟨len, hlen⟩ : ∃ len, len = bs.length := ⟨_, rfl⟩
  have HL : Hid (len = bs.length) := hlen
  rw [← hlen] at hl ⊢
  clear hlen
  go_enter Try.func52, Try.ntmps52
  go_wp2
  go_loop [5, 10] (fun f i => ∃ k acc : Nat, k ≤ len ∧ k ≤ 9 ∧ i = .int .i64 k ∧ f = .int .u64 acc ∧ acc < 128 ^ k ∧ scan 0 0 bs = scan k acc (bs.drop k)) (fun _ i => len - (intOf i).toNat)
  case atStart => exact ⟨0, 0, Nat.zero_le _, Nat.zero_le _, rfl, rfl, by simp, rfl⟩
  case round =>
    obtain ⟨k, acc, hk, hk9, rfl, rfl, hacc, hsc⟩ := hrel
    have HSC : Hid (scan 0 0 bs = scan k acc (bs.drop k)) := hsc
    have HA : Hid (acc < 128 ^ k) := hacc
    clear hsc hacc
    by_cases hlt : k < len
    · have hkb : k < bs.length := by rw [← HL.out]; exact hlt
      rcases hr with rfl | ⟨b, o, rfl, hcell⟩
      · simp at hkb
      · have hc := hcell k hkb
        obtain ⟨x, hx⟩ : ∃ x, x = bs[k].toNat := ⟨_, rfl⟩
        have hx256 : x < 256 := by rw [hx]; exact UInt8.toNat_lt _
        rw [← hx] at hc
        have HX : Hid (x = bs[k].toNat) := hx
        clear hx hcell
        by_cases hbad : (0 < k ∧ x = 0) ∨ (k = 9 ∧ x ≠ 1)
        · have HG : Hid (getI bs = (0, 0, 4)) := getI_err (HSC.out.trans (scan_bad hkb (by rw [← HX.out]; exact hbad))) (by decide)
          rcases hbad with ⟨hb1, hb2⟩ | ⟨hb1, hb2⟩
          · have t0 : ((x : Int) == 0) = true := by rw [beq_iff_eq]; omega
            clear hb2
            go_wp2
            go_ret3
            exact ⟨ret3 HG.out, rfl⟩
          · have t1 : 0 < k := by omega
            have t2 : ((k : Int) == 9) = true := by rw [beq_iff_eq]; omega
            have t3 : ((x : Int) != 1) = true := by rw [bne_iff_ne]; omega
            clear hb1 hb2
            by_cases hx0 : x = 0
            · have t0 : ((x : Int) == 0) = true := by rw [beq_iff_eq]; omega
              clear hx0
              go_wp2
              go_ret3
              exact ⟨ret3 HG.out, rfl⟩
            · have t0 : ((x : Int) == 0) = false := by rw [beq_eq_false_iff_ne]; omega
              clear hx0
              go_wp2
              go_ret3
              exact ⟨ret3 HG.out, rfl⟩
        · have h9 : k = 9 → x % 128 ≤ 1 := by omega
          have hor := or_step hk9 HA.out hx256 h9
          have h64 := acc_64 hk9 HA.out h9
          have hlt9 := acc_lt (x := x) HA.out
          obtain ⟨acc', hacc'⟩ : ∃ acc', acc' = acc + x % 128 * 128 ^ k := ⟨_, rfl⟩
          rw [← hacc'] at hor h64 hlt9
          have HA' : Hid (acc' = acc + x % 128 * 128 ^ k) := hacc'
          have HLT : Hid (acc' < 128 ^ (k + 1)) := hlt9
          have HBAD : Hid (¬ ((0 < k ∧ x = 0) ∨ (k = 9 ∧ x ≠ 1))) := hbad
          have hk63 : k < 10 := by omega
          clear hacc' hlt9 h9
          have t0 : 0 < k → ((x : Int) == 0) = false := fun h => by rw [beq_eq_false_iff_ne]; omega
          have t1 : k = 9 → ((x : Int) != 1) = false := fun h => by rw [bne_eq_false_iff_eq]; omega
          by_cases hx128 : x < 128
          · have HG : Hid (getI bs = (Lib.unzigzag acc', k + 1, 0)) := getI_ok (HSC.out.trans (by rw [scan_end hkb (by rw [← HX.out]; exact HBAD.out) (by rw [← HX.out]; exact hx128), HA'.out, HX.out]))
            clear hbad
            by_cases hk0 : 0 < k
            · have u0 := t0 hk0
              by_cases hkk : k = 9
              · have u1 := t1 hkk
                have u2 : ((k : Int) == 9) = true := by rw [beq_iff_eq]; omega
                clear t0 t1 hkk
                go_wp2_with (go_at_call 59; refine (unfold_any _ h64 _).mono ?_; rintro e w' ⟨rfl, rfl⟩)
                go_ret3
                exact ⟨ret3 HG.out, rfl⟩
              · have u2 : ((k : Int) == 9) = false := by rw [beq_eq_false_iff_ne]; omega
                clear t0 t1 hkk
                go_wp2_with (go_at_call 59; refine (unfold_any _ h64 _).mono ?_; rintro e w' ⟨rfl, rfl⟩)
                go_ret3
                exact ⟨ret3 HG.out, rfl⟩
            · have u2 : ((k : Int) == 9) = false := by rw [beq_eq_false_iff_ne]; omega
              clear t0 t1
              go_wp2_with (go_at_call 59; refine (unfold_any _ h64 _).mono ?_; rintro e w' ⟨rfl, rfl⟩)
              go_ret3
              exact ⟨ret3 HG.out, rfl⟩
          · have HM : Hid (scan 0 0 bs = scan (k + 1) acc' (bs.drop (k + 1))) := HSC.out.trans (by rw [scan_more hkb (by rw [← HX.out]; exact HBAD.out) (by rw [← HX.out]; exact hx128), HA'.out, HX.out])
            have hk8 : k ≤ 8 := by omega
            have u2 : ((k : Int) == 9) = false := by rw [beq_eq_false_iff_ne]; omega
            clear hbad t1 hk9 hk63
            by_cases hk0 : 0 < k
            · have u0 := t0 hk0
              clear t0
              go_wp2
              go_round
              case rel => exact ⟨k + 1, acc', by omega, by omega, by go_num, rfl, HLT.out, HM.out⟩
              case measure => simp [intOf]; omega
            · clear t0
              go_wp2
              go_round
              case rel => exact ⟨k + 1, acc', by omega, by omega, by go_num, rfl, HLT.out, HM.out⟩
              case measure => simp [intOf]; omega
    · have HG : Hid (getI bs = (0, 0, 3)) := getI_err (HSC.out.trans (scan_none (by rw [← HL.out]; omega))) (by decide)
      go_wp2
      go_ret3
      exact ⟨ret3 HG.out, rfl⟩
end Go.Proofs.Ytffedjgbhdaecaa
