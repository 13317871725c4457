/- The document's sums and frames, by definition: hindcastref02.More, Sum, Frame, Put. -/
import Derived.Test.YtffedjgbhdaecaaFPut
import Derived.Test.YtffedjgbhdaecaaWRefPut
import Derived.Test.YtffedjgbhdaecaaWRefReader2
namespace Go.Proofs.Ytffedjgbhdaecaa
open Go.RowKit

theorem stp_odd {t : Nat} (h : t % 2 = 1) : stp t = (t / 2) ^^^ 3988292384 := by unfold stp; rw [h]
theorem stp_even {t : Nat} (h : t % 2 = 0) : stp t = t / 2 := by unfold stp; rw [h]; simp

set_option maxHeartbeats 2000000 in
set_option maxRecDepth 100000 in
theorem refMore_any (sum : Nat) (hs : sum < 4294967296) (s : ByteArray) (w : World) (hl : s.size ≤ 9223372036854775000) :
    Calls Try.prog 62 #[.int .u32 sum, .string s] w fun e w' => e = .returned (.int .u32 (moreB sum s.data.toList)) ∧ w = w' := by
  have hnot := not_u32 sum hs
  have hs0 : 4294967295 - sum < 4294967296 := by omega
  obtain ⟨s0, hs0e⟩ : ∃ s0, s0 = 4294967295 - sum := ⟨_, rfl⟩
  rw [← hs0e] at hnot hs0
  have HS0 : Hid (s0 = 4294967295 - sum) := hs0e
  clear hs0e
  obtain ⟨bs, hbs⟩ : ∃ bs, bs = s.data.toList := ⟨_, rfl⟩
  have hbl : bs.length = s.size := by rw [hbs, data_len]
  have HBL : Hid (bs.length = s.size) := hbl
  have HBS : Hid (bs = s.data.toList) := hbs
  rw [← hbs]
  clear hbs hbl
  go_enter Try.func62, Try.ntmps62
  have hsg : IntKind.u32.signed = false := rfl
  go_wp2
  go_loop [5, 6] (fun f i => ∃ k : Nat, k ≤ s.size ∧ i = .int .i64 k ∧ f = .int .u32 (reg s0 (bs.take k))) (fun _ i => s.size - (intOf i).toNat)
  case atStart => exact ⟨0, Nat.zero_le _, rfl, by simp [reg]⟩
  case round =>
    obtain ⟨k, hk, rfl, rfl⟩ := hrel
    obtain ⟨t0, ht0⟩ : ∃ t0, t0 = reg s0 (bs.take k) := ⟨_, rfl⟩
    have hslt : t0 < 4294967296 := by rw [ht0]; exact reg_lt _ hs0
    rw [← ht0]
    have HS : Hid (t0 = reg s0 (bs.take k)) := ht0
    clear ht0
    by_cases hlt : k < s.size
    · have hkb : k < bs.length := by rw [HBL.out]; exact hlt
      have hidx := fun wx => index_at0 wx s k hlt
      obtain ⟨x, hx⟩ : ∃ x, x = bs[k].toNat := ⟨_, rfl⟩
      have hxe : (s.data.toList[k]'(by rw [data_len]; exact hlt)).toNat = x := by rw [hx]; congr 1; simp only [HBS.out]
      rw [hxe] at hidx
      have hx256 : x < 256 := by rw [hx]; exact UInt8.toNat_lt _
      have HX : Hid (x = bs[k].toNat) := hx
      clear hx hxe
      have hxor := bits_xor_u32 t0 x hslt (by omega)
      have hwx : IntKind.u32.wrap (x : Int) = (x : Int) := wraps_u32 _ (by omega) (by omega)
      have hs1 : t0 ^^^ x < 4294967296 := xor32 hslt (by omega)
      obtain ⟨s1, hs1e⟩ : ∃ s1, s1 = t0 ^^^ x := ⟨_, rfl⟩
      rw [← hs1e] at hxor hs1
      have HS1 : Hid (s1 = t0 ^^^ x) := hs1e
      clear hs1e
      go_wp2
      go_loop [5, 7] (fun f i => ∃ j : Nat, j ≤ 8 ∧ i = .int .i64 j ∧ f = .int .u32 (stpN j s1)) (fun _ i => 8 - (intOf i).toNat)
      case atStart => exact ⟨0, Nat.zero_le _, rfl, rfl⟩
      case round =>
        obtain ⟨j, hj, rfl, rfl⟩ := hrel
        obtain ⟨t, ht⟩ : ∃ t, t = stpN j s1 := ⟨_, rfl⟩
        have htlt : t < 4294967296 := by rw [ht]; exact stpN_lt hs1 _
        rw [← ht]
        have HT : Hid (t = stpN j s1) := ht
        clear ht
        by_cases hj8 : j < 8
        · have HST : Hid (stpN (j + 1) s1 = stp t) := show stpN (j + 1) s1 = stp t by rw [HT.out]; rfl
          by_cases hodd : t % 2 = 1
          · have hxr := bits_xor_u32 (t / 2) 3988292384 (by omega) (by decide)
            rw [← stp_odd hodd] at hxr
            have hxr2 : bits .xor .u32 ((t : Int) / 2) 3988292384 = ((stp t : Nat) : Int) := by rw [show (t : Int) / 2 = ((t / 2 : Nat) : Int) by omega]; exact hxr
            have HXR : Hid (bits .xor .u32 ((t : Int) / 2) 3988292384 = ((stp t : Nat) : Int)) := hxr2
            have hto : (((t : Int) % 2) == 1) = true := by rw [beq_iff_eq]; omega
            clear hodd hxr hxr2
            go_wp2
            refine ⟨⟨j + 1, by omega, by go_num, by rw [HST.out, HXR.out]⟩, by simp [intOf]; omega⟩
          · have hev : t % 2 = 0 := by omega
            have hste := stp_even hev
            have hto : (((t : Int) % 2) == 1) = false := by rw [beq_eq_false_iff_ne]; omega
            have HSE : Hid (stp t = t / 2) := hste
            clear hodd hev hste
            go_wp2
            refine ⟨⟨j + 1, by omega, by go_num, by rw [HST.out, HSE.out]; go_num⟩, by simp [intOf]; omega⟩
        · obtain rfl : j = 8 := by omega
          have HF : Hid (reg s0 (bs.take (k + 1)) = t) := show reg s0 (bs.take (k + 1)) = t by rw [reg_take_succ _ _ _ hkb, HT.out]; unfold feed; rw [← HS.out, ← HX.out, ← HS1.out]
          go_wp2
          go_round
          case rel => exact ⟨k + 1, by omega, by go_num, by rw [HF.out]⟩
          case measure => simp [intOf]; omega
    · obtain rfl : k = s.size := by omega
      have hn := not_u32 t0 hslt
      have HF : Hid (4294967295 - t0 = moreB sum bs) := show 4294967295 - t0 = moreB sum bs by unfold moreB; rw [HS.out, ← HS0.out, ← HBL.out, List.take_length]
      rw [HF.out] at hn
      go_wp2
      go_ret
      exact ⟨rfl, rfl⟩

set_option maxHeartbeats 1000000 in
set_option maxRecDepth 100000 in
theorem refSum_any (s : ByteArray) (w : World) (hl : s.size ≤ 9223372036854775000) :
    Calls Try.prog 55 #[.string s] w fun e w' => e = .returned (.int .u32 (sumB s.data.toList)) ∧ w = w' := by
  go_enter Try.func55, Try.ntmps55
  go_wp2_with fail
  refine (refMore_any 0 (by decide) s w hl).mono ?_
  rintro e w1 ⟨rfl, rfl⟩
  go_wp2
  go_ret
  exact ⟨rfl, rfl⟩

theorem ba_list (a b : List UInt8) : (⟨a.toArray⟩ ++ ⟨b.toArray⟩ : ByteArray) = ⟨(a ++ b).toArray⟩ := by
  have h := ba_append a ⟨b.toArray⟩
  simpa using h

set_option maxHeartbeats 2000000 in
set_option maxRecDepth 100000 in
theorem refFrame_any (xs : List UInt8) (w : World) (hl : xs.length ≤ 1048576) :
    Calls Try.prog 39 #[.string ⟨xs.toArray⟩] w fun e w' => e = .returned (.string ⟨(frameB xs).toArray⟩) ∧ Below w.heap.size w w' := by
  have hsz : (⟨xs.toArray⟩ : ByteArray).size = xs.length := rfl
  have hnl := numB_len (n := (xs.length : Int)) (by omega) (by omega)
  go_enter Try.func39, Try.ntmps39
  go_wp2_with fail
  refine (refInt_any xs.length (by omega) (by omega) w).mono ?_
  rintro e w1 ⟨rfl, hb1⟩
  go_wp2_with fail
  rw [ba_list, show numB xs.length ++ xs = headB xs from rfl]
  have hhl : (headB xs).length ≤ 1048600 := by unfold headB; rw [List.length_append]; omega
  have c2 := refSum_any ⟨(headB xs).toArray⟩ w1 (by show (headB xs).length ≤ _; omega)
  rw [show (⟨(headB xs).toArray⟩ : ByteArray).data.toList = headB xs from rfl] at c2
  obtain ⟨sm, hsm⟩ : ∃ sm, sm = sumB (headB xs) := ⟨_, rfl⟩
  have hslt : sm < 4294967296 := by rw [hsm]; exact moreB_lt _ _
  have HSM : Hid (sm = sumB (headB xs)) := hsm
  rw [← hsm] at c2
  clear hsm
  refine c2.mono ?_
  clear c2
  rintro e w2 ⟨rfl, rfl⟩
  obtain ⟨H, hH⟩ : ∃ H, H = headB xs := ⟨_, rfl⟩
  rw [← hH] at hhl ⊢
  have HH : Hid (H = headB xs) := hH
  have hle : (leB sm).length = 4 := leB_len sm
  clear hH hnl
  have hby : bytesAt (w1.alloc (.cells #[.int .u8 ((sm : Int) % 256), .int .u8 ((sm : Int) / 256 % 256), .int .u8 ((sm : Int) / 65536 % 256), .int .u8 ((sm : Int) / 16777216)] 5)) (.slice (some ⟨w1.heap.size, 0, none⟩) 4 4) (leB sm) :=
    bytesAt_lit rfl (by unfold maxLen; decide) (fun j u hj => by
      have h0 : ∀ x : Nat, x < 256 → ((x.toUInt8).toNat : Int) = x := fun x hx => by rw [Lib.toUInt8_toNat hx]
      simp only [Lib.byteCells, leB, List.map_cons, List.map_nil] at hj
      rw [h0 _ (by omega), h0 _ (by omega), h0 _ (by omega), h0 _ (by omega)] at hj
      have e3 : sm / 16777216 % 256 = sm / 16777216 := by omega
      rw [e3] at hj
      match j, hj with
      | 0, hj => simp at hj; subst hj; simp
      | 1, hj => simp at hj; subst hj; simp
      | 2, hj => simp at hj; subst hj; simp
      | 3, hj => simp at hj; subst hj; simp)
  have hcv := conv_row _ _ (leB sm) 4 (bytesAt_row hby).2.1
  rw [leB_len] at hcv
  clear hby
  go_wp2
  go_ret
  refine ⟨?_, hb1.alloc hb1.size _⟩
  rw [show frameB xs = H ++ leB sm by rw [HH.out, HSM.out]; rfl, ← ba_list]
  rfl

end Go.Proofs.Ytffedjgbhdaecaa
