/- The document's answer: Unfold and number of the reference. -/
import Derived.Test.YtffedjgbhdaecaaWMath
namespace Go.Proofs.Ytffedjgbhdaecaa
open Go.RowKit

set_option maxHeartbeats 1000000 in
set_option maxRecDepth 100000 in
theorem refUnfold_any (f : Nat) (h1 : f < 18446744073709551616) (w : World) :
    Calls Try.prog 58 #[.int .u64 f] w fun e w' => e = .returned (.int .i64 (Lib.unzigzag f)) ∧ w = w' := by
  have hc : f % 2 = 1 ∨ f % 2 = 0 := by omega
  rcases hc with hc | hc
  · have hu : Hid (Lib.unzigzag f = -((f : Int) / 2) - 1) := by rw [unz_odd hc]; show _ = _; omega
    have ht : (((f : Int) % 2) == 1) = true := by simp; omega
    go_enter Try.func58, Try.ntmps58
    go_wp2
    go_ret
    exact ⟨by rw [hu.out]; rfl, rfl⟩
  · have hu : Hid (Lib.unzigzag f = (f : Int) / 2) := by rw [unz_even hc]; show _ = _; omega
    have ht : (((f : Int) % 2) == 1) = false := by simp; omega
    go_enter Try.func58, Try.ntmps58
    go_wp2
    go_ret
    exact ⟨by rw [hu.out]; rfl, rfl⟩

/-- The number at a place: it, the place behind, what went wrong. -/
def numR (l : List UInt8) (at0 : Nat) : Int × Nat × Nat :=
  if (getI (l.drop at0)).2.2 = 0 then ((getI (l.drop at0)).1, at0 + (getI (l.drop at0)).2.1, 0) else (0, 0, (getI (l.drop at0)).2.2)

theorem numR_err {l : List UInt8} {at0 e : Nat} (h : getI (l.drop at0) = (0, 0, e)) (he : e ≠ 0) : numR l at0 = (0, 0, e) := by
  unfold numR; rw [h]; simp [he]
theorem numR_ok {l : List UInt8} {at0 k : Nat} {n : Int} (h : getI (l.drop at0) = (n, k, 0)) : numR l at0 = (n, at0 + k, 0) := by
  unfold numR; rw [h]; simp

theorem ret3n {a : Int × Nat × Nat} {n i : Int} {k : Nat} (h : a = (n, k, 0)) (hi : i = (k : Int)) : (Ending.returned (.tuple #[.int .i64 n, .int .i64 i, .int .i64 0]) : Ending) = Ending.returned (.tuple #[.int .i64 a.1, .int .i64 a.2.1, .int .i64 a.2.2]) := by
  rw [h, hi]; rfl

set_option maxRecDepth 100000 in
theorem index_at (w : World) (s : ByteArray) (at0 k : Nat) (h : at0 + k < s.size) :
    (Instr.index 9 (.string s) (.int .i64 ((at0 : Int) + (k : Int)))).run Try.prog w = .ok (.int .u8 ((s.data.toList[at0 + k]'(by rw [data_len]; exact h)).toNat : Int)) w := by
  have e3 : ((at0 : Int) + (k : Int)).toNat = at0 + k := by omega
  rw [run_index_string (P := Try.prog) (w := w) 9 s .i64 _ Try.underlying9, dif_pos ⟨by omega, by omega⟩]
  simp only [e3]
  rfl

theorem sum_step {k acc x : Nat} (hk : k ≤ 9) (hacc : acc < 128 ^ k) (h9 : k = 9 → x % 128 ≤ 1) :
    IntKind.u64.wrap ((acc : Int) + IntKind.u64.wrap ((x : Int) % 128 * 2 ^ (7 * k))) = ((acc + x % 128 * 128 ^ k : Nat) : Int) := by
  have hr := room9 hk h9
  have h64 := acc_64 hk hacc h9
  have e : (x : Int) % 128 * 2 ^ (7 * k) = ((x % 128 * 128 ^ k : Nat) : Int) := by
    rw [pow7, Int.natCast_mul, Int.natCast_pow]; rfl
  have h3 : IntKind.u64.wrap ((x % 128 * 128 ^ k : Nat) : Int) = ((x % 128 * 128 ^ k : Nat) : Int) := wraps_u64 _ (by omega) (by omega)
  have e2 : (acc : Int) + ((x % 128 * 128 ^ k : Nat) : Int) = ((acc + x % 128 * 128 ^ k : Nat) : Int) := by omega
  rw [e, h3, e2, wraps_u64 _ (by omega) (by omega)]

set_option maxHeartbeats 2000000 in
set_option maxRecDepth 100000 in
theorem number_any (s : ByteArray) (at0 : Nat) (w : World) (hs : s.size ≤ 9223372036854775000) (ha : at0 ≤ s.size) :
    Calls Try.prog 45 #[.string s, .int .i64 at0] w fun e w' => e = .returned (.tuple #[.int .i64 (numR s.data.toList at0).1, .int .i64 (numR s.data.toList at0).2.1, .int .i64 (numR s.data.toList at0).2.2]) ∧ w = w' := by
  obtain ⟨L, hL⟩ : ∃ L, L = s.data.toList.drop at0 := ⟨_, rfl⟩
  have HL : Hid (L = s.data.toList.drop at0) := hL
  have hLl : L.length = s.size - at0 := by rw [hL, List.length_drop, data_len]
  have HLL : Hid (L.length = s.size - at0) := hLl
  clear hL hLl
  go_enter Try.func45, Try.ntmps45
  go_wp2
  go_loop [7, 8] (fun f i => ∃ k acc : Nat, k ≤ L.length ∧ k ≤ 9 ∧ i = .int .i64 k ∧ f = .int .u64 acc ∧ acc < 128 ^ k ∧ scan 0 0 L = scan k acc (L.drop k)) (fun _ i => 10 - (intOf i).toNat)
  case atStart => exact ⟨0, 0, Nat.zero_le _, Nat.zero_le _, rfl, rfl, by simp, rfl⟩
  case round =>
    obtain ⟨k, acc, hk, hk9, rfl, rfl, hacc, hsc⟩ := hrel
    have HSC : Hid (scan 0 0 L = scan k acc (L.drop k)) := hsc
    have HA : Hid (acc < 128 ^ k) := hacc
    have hkl := HLL.out
    clear hsc hacc
    by_cases hlt : k < L.length
    · have hlt2 : at0 + k < s.size := by omega
      obtain ⟨x, hx⟩ : ∃ x, x = L[k].toNat := ⟨_, rfl⟩
      have hidx := fun wx => index_at wx s at0 k hlt2
      have hxe : (s.data.toList[at0 + k]'(by rw [data_len]; exact hlt2)).toNat = x := by
        rw [hx]; congr 1; simp only [HL.out]; rw [List.getElem_drop]
      rw [hxe] at hidx
      have hx256 : x < 256 := by rw [hx]; exact UInt8.toNat_lt _
      have HX : Hid (x = L[k].toNat) := hx
      have hlt3 : (at0 : Int) + (k : Int) < (s.size : Int) := by omega
      clear hx hxe hkl
      have hkk : (k : Int) < 10 := by omega
      by_cases hbad : (0 < k ∧ x = 0) ∨ (k = 9 ∧ x ≠ 1)
      · have HG : Hid (numR s.data.toList at0 = (0, 0, 4)) := numR_err (by rw [← HL.out]; exact getI_err (HSC.out.trans (scan_bad hlt (by rw [← HX.out]; exact hbad))) (by decide)) (by decide)
        by_cases hn9 : k = 9
        · have t2 : ((k : Int) == 9) = true := by rw [beq_iff_eq]; omega
          have hx1 : x ≠ 1 := by omega
          have t3 : ((x : Int) != 1) = true := by rw [bne_iff_ne]; omega
          clear hbad hn9
          go_wp2
          go_ret3
          exact ⟨ret3 HG.out, rfl⟩
        · have t2 : ((k : Int) == 9) = false := by rw [beq_eq_false_iff_ne]; omega
          have t3 : ((x : Int) == 0) = true := by rw [beq_iff_eq]; omega
          have t4 : 0 < k := by omega
          have t5 : x < 128 := by omega
          clear hbad hn9
          go_wp2
          go_ret3
          exact ⟨ret3 HG.out, rfl⟩
      · have h9 : k = 9 → x % 128 ≤ 1 := by omega
        have hsum := sum_step hk9 HA.out h9
        have h64 := acc_64 hk9 HA.out h9
        have hlt9 := acc_lt (x := x) HA.out
        obtain ⟨acc', hacc'⟩ : ∃ acc', acc' = acc + x % 128 * 128 ^ k := ⟨_, rfl⟩
        rw [← hacc'] at hsum h64 hlt9
        have HA' : Hid (acc' = acc + x % 128 * 128 ^ k) := hacc'
        have HLT : Hid (acc' < 128 ^ (k + 1)) := hlt9
        have HBAD : Hid (¬ ((0 < k ∧ x = 0) ∨ (k = 9 ∧ x ≠ 1))) := hbad
        clear hacc' hlt9 h9
        by_cases hx128 : x < 128
        · have HG : Hid (numR s.data.toList at0 = (Lib.unzigzag acc', at0 + (k + 1), 0)) := numR_ok (by rw [← HL.out]; exact getI_ok (HSC.out.trans (by rw [scan_end hlt (by rw [← HX.out]; exact HBAD.out) (by rw [← HX.out]; exact hx128), HA'.out, HX.out])))
          by_cases hn9 : k = 9
          · have t2 : ((k : Int) == 9) = true := by rw [beq_iff_eq]; omega
            have t3 : ((x : Int) != 1) = false := by rw [bne_eq_false_iff_eq]; omega
            have t4 : ((x : Int) == 0) = false := by rw [beq_eq_false_iff_ne]; omega
            clear hbad hn9
            go_wp2_with (go_at_call 58; refine (refUnfold_any _ h64 _).mono ?_; rintro e w' ⟨rfl, rfl⟩)
            go_ret3
            exact ⟨ret3n HG.out (by omega), rfl⟩
          · have t2 : ((k : Int) == 9) = false := by rw [beq_eq_false_iff_ne]; omega
            by_cases hx0 : x = 0
            · have t4 : ((x : Int) == 0) = true := by rw [beq_iff_eq]; omega
              have t5 : ¬ (0 < k) := by omega
              clear hbad hn9 hx0
              go_wp2_with (go_at_call 58; refine (refUnfold_any _ h64 _).mono ?_; rintro e w' ⟨rfl, rfl⟩)
              go_ret3
              exact ⟨ret3n HG.out (by omega), rfl⟩
            · have t4 : ((x : Int) == 0) = false := by rw [beq_eq_false_iff_ne]; omega
              clear hbad hn9 hx0
              go_wp2_with (go_at_call 58; refine (refUnfold_any _ h64 _).mono ?_; rintro e w' ⟨rfl, rfl⟩)
              go_ret3
              exact ⟨ret3n HG.out (by omega), rfl⟩
        · have HM : Hid (scan 0 0 L = scan (k + 1) acc' (L.drop (k + 1))) := HSC.out.trans (by rw [scan_more hlt (by rw [← HX.out]; exact HBAD.out) (by rw [← HX.out]; exact hx128), HA'.out, HX.out])
          have hk8 : k ≤ 8 := by omega
          have t2 : ((k : Int) == 9) = false := by rw [beq_eq_false_iff_ne]; omega
          clear hbad hk9
          go_wp2
          go_round
          case rel => exact ⟨k + 1, acc', by omega, by omega, by go_num, rfl, HLT.out, HM.out⟩
          case measure => simp [intOf]; omega
    · have HG : Hid (numR s.data.toList at0 = (0, 0, 3)) := numR_err (by rw [← HL.out]; exact getI_err (HSC.out.trans (scan_none (by omega))) (by decide)) (by decide)
      have hge : ¬ ((at0 : Int) + (k : Int) < (s.size : Int)) := by omega
      have hkk : (k : Int) < 10 := by omega
      clear hkl
      go_wp2
      go_ret3
      exact ⟨ret3 HG.out, rfl⟩
end Go.Proofs.Ytffedjgbhdaecaa
