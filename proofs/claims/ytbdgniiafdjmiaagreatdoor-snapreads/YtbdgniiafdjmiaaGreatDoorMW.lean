import Derived.Test.YtbdgniiafdjmiaaGreatDoorWMath
import Derived.Lib.MinMax
import Derived.Lib.Strings
import Derived.Laws.DeepStrings4
/- The document's answer: Unfold and number of the reference. -/
namespace Go.Proofs.YtbdgniiafdjmiaaGreatDoor
open Go.RowKit

set_option maxHeartbeats 1000000 in
set_option maxRecDepth 100000 in
theorem refUnfold_any (f : Nat) (h1 : f < 18446744073709551616) (w : World) :
    Calls Tryz.prog 114 #[.int .u64 f] w fun e w' => e = .returned (.int .i64 (Lib.unzigzag f)) ∧ w = w' := by
  have hc : f % 2 = 1 ∨ f % 2 = 0 := by omega
  rcases hc with hc | hc
  · have hu : Hid (Lib.unzigzag f = -((f : Int) / 2) - 1) := by rw [unz_odd hc]; show _ = _; omega
    have ht : (((f : Int) % 2) == 1) = true := by simp; omega
    go_enter Tryz.func114, Tryz.ntmps114
    go_wp2
    go_ret
    exact ⟨by rw [hu.out]; rfl, rfl⟩
  · have hu : Hid (Lib.unzigzag f = (f : Int) / 2) := by rw [unz_even hc]; show _ = _; omega
    have ht : (((f : Int) % 2) == 1) = false := by simp; omega
    go_enter Tryz.func114, Tryz.ntmps114
    go_wp2
    go_ret
    exact ⟨by rw [hu.out]; rfl, rfl⟩

/-- The number at a place: it, the place behind, what went wrong. -/
def numR (l : List UInt8) (at0 : Nat) : Int × Nat × Nat :=
  if (getI (l.drop at0)).2.2 = 0 then ((getI (l.drop at0)).1, at0 + (getI (l.drop at0)).2.1, 0) else (0, 0, (getI (l.drop at0)).2.2)

theorem numR_err {l : List UInt8} {at0 e : Nat} (h : getI (l.drop at0) = (0, 0, e)) (he : e ≠ 0) : numR l at0 = (0, 0, e) := by
  unfold numR; rw [h]; simp [he]
theorem numR_ok {l : List UInt8} {at0 k : Nat} {n : Int} (h : getI (l.drop at0) = (n, k, 0)) : numR l at0 = (n, at0 + k, 0) := by
  unfold numR; rw [h]; simp

theorem ret3n {a : Int × Nat × Nat} {n i : Int} {k : Nat} (h : a = (n, k, 0)) (hi : i = (k : Int)) : (Ending.returned (.tuple #[.int .i64 n, .int .i64 i, .int .i64 0]) : Ending) = Ending.returned (.tuple #[.int .i64 a.1, .int .i64 a.2.1, .int .i64 a.2.2]) := by
  rw [h, hi]; rfl

set_option maxRecDepth 100000 in
theorem index_at (w : World) (s : ByteArray) (at0 k : Nat) (h : at0 + k < s.size) :
    (Instr.index 9 (.string s) (.int .i64 ((at0 : Int) + (k : Int)))).run Tryz.prog w = .ok (.int .u8 ((s.data.toList[at0 + k]'(by rw [data_len]; exact h)).toNat : Int)) w := by
  have e3 : ((at0 : Int) + (k : Int)).toNat = at0 + k := by omega
  rw [run_index_string (P := Tryz.prog) (w := w) 9 s .i64 _ Tryz.underlying9, dif_pos ⟨by omega, by omega⟩]
  simp only [e3]
  rfl

theorem sum_step {k acc x : Nat} (hk : k ≤ 9) (hacc : acc < 128 ^ k) (h9 : k = 9 → x % 128 ≤ 1) :
    IntKind.u64.wrap ((acc : Int) + IntKind.u64.wrap ((x : Int) % 128 * 2 ^ (7 * k))) = ((acc + x % 128 * 128 ^ k : Nat) : Int) := by
  have hr := room9 hk h9
  have h64 := acc_64 hk hacc h9
  have e : (x : Int) % 128 * 2 ^ (7 * k) = ((x % 128 * 128 ^ k : Nat) : Int) := by
    rw [pow7, Int.natCast_mul, Int.natCast_pow]; rfl
  have h3 : IntKind.u64.wrap ((x % 128 * 128 ^ k : Nat) : Int) = ((x % 128 * 128 ^ k : Nat) : Int) := wraps_u64 _ (by omega) (by omega)
  have e2 : (acc : Int) + ((x % 128 * 128 ^ k : Nat) : Int) = ((acc + x % 128 * 128 ^ k : Nat) : Int) := by omega
  rw [e, h3, e2, wraps_u64 _ (by omega) (by omega)]

set_option maxHeartbeats 2000000 in
set_option maxRecDepth 100000 in
theorem number_any (s : ByteArray) (at0 : Nat) (w : World) (hs : s.size ≤ 9223372036854775000) (ha : at0 ≤ s.size) :
    Calls Tryz.prog 95 #[.string s, .int .i64 at0] w fun e w' => e = .returned (.tuple #[.int .i64 (numR s.data.toList at0).1, .int .i64 (numR s.data.toList at0).2.1, .int .i64 (numR s.data.toList at0).2.2]) ∧ w = w' := by
  obtain ⟨L, hL⟩ : ∃ L, L = s.data.toList.drop at0 := ⟨_, rfl⟩
  have HL : Hid (L = s.data.toList.drop at0) := hL
  have hLl : L.length = s.size - at0 := by rw [hL, List.length_drop, data_len]
  have HLL : Hid (L.length = s.size - at0) := hLl
  clear hL hLl
  go_enter Tryz.func95, Tryz.ntmps95
  go_wp2
  go_loop [7, 8] (fun f i => ∃ k acc : Nat, k ≤ L.length ∧ k ≤ 9 ∧ i = .int .i64 k ∧ f = .int .u64 acc ∧ acc < 128 ^ k ∧ scan 0 0 L = scan k acc (L.drop k)) (fun _ i => 10 - (intOf i).toNat)
  case atStart => exact ⟨0, 0, Nat.zero_le _, Nat.zero_le _, rfl, rfl, by simp, rfl⟩
  case round =>
    obtain ⟨k, acc, hk, hk9, rfl, rfl, hacc, hsc⟩ := hrel
    have HSC : Hid (scan 0 0 L = scan k acc (L.drop k)) := hsc
    have HA : Hid (acc < 128 ^ k) := hacc
    have hkl := HLL.out
    clear hsc hacc
    by_cases hlt : k < L.length
    · have hlt2 : at0 + k < s.size := by omega
      obtain ⟨x, hx⟩ : ∃ x, x = L[k].toNat := ⟨_, rfl⟩
      have hidx := fun wx => index_at wx s at0 k hlt2
      have hxe : (s.data.toList[at0 + k]'(by rw [data_len]; exact hlt2)).toNat = x := by
        rw [hx]; congr 1; simp only [HL.out]; rw [List.getElem_drop]
      rw [hxe] at hidx
      have hx256 : x < 256 := by rw [hx]; exact UInt8.toNat_lt _
      have HX : Hid (x = L[k].toNat) := hx
      have hlt3 : (at0 : Int) + (k : Int) < (s.size : Int) := by omega
      clear hx hxe hkl
      have hkk : (k : Int) < 10 := by omega
      by_cases hbad : (0 < k ∧ x = 0) ∨ (k = 9 ∧ x ≠ 1)
      · have HG : Hid (numR s.data.toList at0 = (0, 0, 4)) := numR_err (by rw [← HL.out]; exact getI_err (HSC.out.trans (scan_bad hlt (by rw [← HX.out]; exact hbad))) (by decide)) (by decide)
        by_cases hn9 : k = 9
        · have t2 : ((k : Int) == 9) = true := by rw [beq_iff_eq]; omega
          have hx1 : x ≠ 1 := by omega
          have t3 : ((x : Int) != 1) = true := by rw [bne_iff_ne]; omega
          clear hbad hn9
          go_wp2
          go_ret3
          exact ⟨ret3 HG.out, rfl⟩
        · have t2 : ((k : Int) == 9) = false := by rw [beq_eq_false_iff_ne]; omega
          have t3 : ((x : Int) == 0) = true := by rw [beq_iff_eq]; omega
          have t4 : 0 < k := by omega
          have t5 : x < 128 := by omega
          clear hbad hn9
          go_wp2
          go_ret3
          exact ⟨ret3 HG.out, rfl⟩
      · have h9 : k = 9 → x % 128 ≤ 1 := by omega
        have hsum := sum_step hk9 HA.out h9
        have h64 := acc_64 hk9 HA.out h9
        have hlt9 := acc_lt (x := x) HA.out
        obtain ⟨acc', hacc'⟩ : ∃ acc', acc' = acc + x % 128 * 128 ^ k := ⟨_, rfl⟩
        rw [← hacc'] at hsum h64 hlt9
        have HA' : Hid (acc' = acc + x % 128 * 128 ^ k) := hacc'
        have HLT : Hid (acc' < 128 ^ (k + 1)) := hlt9
        have HBAD : Hid (¬ ((0 < k ∧ x = 0) ∨ (k = 9 ∧ x ≠ 1))) := hbad
        clear hacc' hlt9 h9
        by_cases hx128 : x < 128
        · have HG : Hid (numR s.data.toList at0 = (Lib.unzigzag acc', at0 + (k + 1), 0)) := numR_ok (by rw [← HL.out]; exact getI_ok (HSC.out.trans (by rw [scan_end hlt (by rw [← HX.out]; exact HBAD.out) (by rw [← HX.out]; exact hx128), HA'.out, HX.out])))
          by_cases hn9 : k = 9
          · have t2 : ((k : Int) == 9) = true := by rw [beq_iff_eq]; omega
            have t3 : ((x : Int) != 1) = false := by rw [bne_eq_false_iff_eq]; omega
            have t4 : ((x : Int) == 0) = false := by rw [beq_eq_false_iff_ne]; omega
            clear hbad hn9
            go_wp2_with (go_at_call 114; refine (refUnfold_any _ h64 _).mono ?_; rintro e w' ⟨rfl, rfl⟩)
            go_ret3
            exact ⟨ret3n HG.out (by omega), rfl⟩
          · have t2 : ((k : Int) == 9) = false := by rw [beq_eq_false_iff_ne]; omega
            by_cases hx0 : x = 0
            · have t4 : ((x : Int) == 0) = true := by rw [beq_iff_eq]; omega
              have t5 : ¬ (0 < k) := by omega
              clear hbad hn9 hx0
              go_wp2_with (go_at_call 114; refine (refUnfold_any _ h64 _).mono ?_; rintro e w' ⟨rfl, rfl⟩)
              go_ret3
              exact ⟨ret3n HG.out (by omega), rfl⟩
            · have t4 : ((x : Int) == 0) = false := by rw [beq_eq_false_iff_ne]; omega
              clear hbad hn9 hx0
              go_wp2_with (go_at_call 114; refine (refUnfold_any _ h64 _).mono ?_; rintro e w' ⟨rfl, rfl⟩)
              go_ret3
              exact ⟨ret3n HG.out (by omega), rfl⟩
        · have HM : Hid (scan 0 0 L = scan (k + 1) acc' (L.drop (k + 1))) := HSC.out.trans (by rw [scan_more hlt (by rw [← HX.out]; exact HBAD.out) (by rw [← HX.out]; exact hx128), HA'.out, HX.out])
          have hk8 : k ≤ 8 := by omega
          have t2 : ((k : Int) == 9) = false := by rw [beq_eq_false_iff_ne]; omega
          clear hbad hk9
          go_wp2
          go_round
          case rel => exact ⟨k + 1, acc', by omega, by omega, by go_num, rfl, HLT.out, HM.out⟩
          case measure => simp [intOf]; omega
    · have HG : Hid (numR s.data.toList at0 = (0, 0, 3)) := numR_err (by rw [← HL.out]; exact getI_err (HSC.out.trans (scan_none (by omega))) (by decide)) (by decide)
      have hge : ¬ ((at0 : Int) + (k : Int) < (s.size : Int)) := by omega
      have hkk : (k : Int) < 10 := by omega
      clear hkl
      go_wp2
      go_ret3
      exact ⟨ret3 HG.out, rfl⟩
end Go.Proofs.YtbdgniiafdjmiaaGreatDoor
/- The document's reader: wrong, Int, Bool, Count, Text, End of the reference. -/
namespace Go.Proofs.YtbdgniiafdjmiaaGreatDoor
open Go.RowKit

theorem below2 (w : World) (a b : Obj) : Below w.heap.size w ((w.alloc a).alloc b) := ((Below.refl _ _).alloc (Nat.le_refl _) _).alloc (by simp) _

set_option maxHeartbeats 1000000 in
set_option maxRecDepth 100000 in
theorem wrong_any (s : ByteArray) (a e0 : Nat) (e1 : Int) (w : World) :
    Calls Tryz.prog 96 #[.agg #[.string s, .int .i64 a, .int .i64 e0], .int .i64 e1] w fun e w' => e = .returned (.agg #[.string s, .int .i64 a, .int .i64 e1]) ∧ Below w.heap.size w w' := by
  go_enter Tryz.func96, Tryz.ntmps96
  go_wp2
  exact bodyPost_ret (v := .agg #[.string s, .int .i64 a, .int .i64 e1]) (by simp [results, Tryz.results96, go_sem]) rfl ⟨rfl, below2 _ _ _⟩

theorem bcell {W w1 : World} (hb : Below W.heap.size W w1) : (∀ b o, b < W.heap.size → w1.cell? ⟨b, o, none⟩ = W.cell? ⟨b, o, none⟩) ∧ (∀ b o, b < W.heap.size → w1.frozen? ⟨b, o, none⟩ = W.frozen? ⟨b, o, none⟩) :=
  ⟨fun b o h => hb.cell (p := ⟨b, o, none⟩) h, fun b o h => hb.frozen (p := ⟨b, o, none⟩) h⟩

theorem numR_step (l : List UInt8) (at0 : Nat) : (∃ e, e ≠ 0 ∧ e ≤ 9 ∧ numR l at0 = (0, 0, e) ∧ stepR (0 : Int) at0 0 (getI (l.drop at0)) = (0, at0, e)) ∨ (∃ n k, numR l at0 = (n, k, 0) ∧ stepR (0 : Int) at0 0 (getI (l.drop at0)) = (n, k, 0)) := by
  obtain ⟨v, k, e, hq⟩ : ∃ v k e, getI (l.drop at0) = (v, k, e) := ⟨_, _, _, rfl⟩
  have h9 := getI_e (l.drop at0)
  rw [hq] at h9
  by_cases he : e = 0
  · subst he
    right
    refine ⟨v, at0 + k, numR_ok hq, ?_⟩
    rw [hq]; unfold stepR; simp
  · left
    refine ⟨e, he, h9, ?_, ?_⟩
    · unfold numR; rw [hq]; simp [he]
    · rw [hq]; unfold stepR; simp [he]

set_option maxHeartbeats 2000000 in
set_option maxRecDepth 100000 in
theorem refRInt_any (s : ByteArray) (at0 er : Nat) (w : World) (hs : s.size ≤ 9223372036854775000) (ha : at0 ≤ s.size) :
    Calls Tryz.prog 65 #[.agg #[.string s, .int .i64 at0, .int .i64 er]] w fun e w' =>
      e = .returned (.tuple #[.agg #[.string s, .int .i64 (stepR (0 : Int) at0 er (getI (s.data.toList.drop at0))).2.1, .int .i64 (stepR (0 : Int) at0 er (getI (s.data.toList.drop at0))).2.2], .int .i64 (stepR (0 : Int) at0 er (getI (s.data.toList.drop at0))).1]) ∧ Below w.heap.size w w' := by
  by_cases her : er ≠ 0
  · have HS : Hid (stepR (0 : Int) at0 er (getI (s.data.toList.drop at0)) = (0, at0, er)) := if_pos her
    have t0 : ((er : Int) != 0) = true := by rw [bne_iff_ne]; omega
    clear her
    rw [HS.out]
    go_enter Tryz.func65, Tryz.ntmps65
    go_wp2
    exact bodyPost_ret (v := .tuple #[.agg #[.string s, .int .i64 at0, .int .i64 er], .int .i64 0]) (by simp [results, Tryz.results65, go_sem]) rfl ⟨rfl, below2 _ _ _⟩
  · have e9 : er = 0 := by omega
    subst e9
    clear her
    have HN : Hid (∀ wx, Calls Tryz.prog 95 #[.string s, .int .i64 at0] wx fun e w' => e = .returned (.tuple #[.int .i64 (numR s.data.toList at0).1, .int .i64 (numR s.data.toList at0).2.1, .int .i64 (numR s.data.toList at0).2.2]) ∧ wx = w') := fun wx => number_any s at0 wx hs ha
    rcases numR_step s.data.toList at0 with ⟨e, h1, _, h2, h3⟩ | ⟨n, k, h2, h3⟩
    · rw [h3]
      rw [h2] at HN
      have t0 : ((e : Int) != 0) = true := by rw [bne_iff_ne]; omega
      clear h1 h2 h3
      go_enter Tryz.func65, Tryz.ntmps65
      go_wp2_with fail
      refine (HN.out _).mono ?_
      rintro e' wx ⟨rfl, rfl⟩
      go_wp2_with fail
      refine (wrong_any s at0 0 e _).mono ?_
      rintro e' w1 ⟨rfl, hb⟩
      obtain ⟨hc, hf⟩ := bcell hb
      have hz : w.heap.size + 1 < w1.heap.size := by have := hb.size; simp at this; omega
      have hB : Below w.heap.size w w1 := (below2 w _ _).trans (hb.mono (by simp; omega))
      have HB : Hid (Below w.heap.size w w1) := hB
      clear hB hb
      go_wp2
      refine bodyPost_ret (v := .tuple #[.agg #[.string s, .int .i64 at0, .int .i64 e], .int .i64 0]) (by simp [results, Tryz.results65, go_sem, hc]) rfl ⟨rfl, ?_⟩
      exact ((HB.out.setCell (by simp) _).setCell (by simp) _).setCell (by simp) _
    · rw [h3]
      rw [h2] at HN
      clear h2 h3
      go_enter Tryz.func65, Tryz.ntmps65
      go_wp2_with fail
      refine (HN.out _).mono ?_
      rintro e' wx ⟨rfl, rfl⟩
      go_wp2
      exact bodyPost_ret (v := .tuple #[.agg #[.string s, .int .i64 k, .int .i64 0], .int .i64 n]) (by simp [results, Tryz.results65, go_sem]) rfl ⟨rfl, below2 _ _ _⟩
end Go.Proofs.YtbdgniiafdjmiaaGreatDoor
/- The document's reader, further: Bool, Count and End of the reference. -/
namespace Go.Proofs.YtbdgniiafdjmiaaGreatDoor
open Go.RowKit

theorem below1 (w : World) (a : Obj) : Below w.heap.size w (w.alloc a) := (Below.refl _ _).alloc (Nat.le_refl _) _

set_option maxRecDepth 100000 in
theorem index_at0 (w : World) (s : ByteArray) (at0 : Nat) (h : at0 < s.size) :
    (Instr.index 9 (.string s) (.int .i64 (at0 : Int))).run Tryz.prog w = .ok (.int .u8 ((s.data.toList[at0]'(by rw [data_len]; exact h)).toNat : Int)) w := by
  rw [run_index_string (P := Tryz.prog) (w := w) 9 s .i64 _ Tryz.underlying9, dif_pos ⟨by omega, by omega⟩]
  simp only [Int.toNat_natCast]
  rfl

set_option maxHeartbeats 2000000 in
set_option maxRecDepth 100000 in
theorem refREnd_any (s : ByteArray) (at0 er : Nat) (w : World) :
    Calls Tryz.prog 37 #[.agg #[.string s, .int .i64 at0, .int .i64 er]] w fun e w' => e = .returned (.int .i64 (endR s.size at0 er)) ∧ Below w.heap.size w w' := by
  by_cases her : er ≠ 0
  · have HS : Hid (endR s.size at0 er = er) := if_pos her
    have t0 : ((er : Int) == 0) = false := by rw [beq_eq_false_iff_ne]; omega
    clear her
    rw [HS.out]
    go_enter Tryz.func37, Tryz.ntmps37
    go_wp2
    go_ret
    exact ⟨rfl, below1 _ _⟩
  · have e9 : er = 0 := by omega
    subst e9
    by_cases hlt : at0 < s.size
    · have HS : Hid (endR s.size at0 0 = 5) := (if_neg her).trans (if_pos hlt)
      rw [HS.out]
      have t1 : decide ((at0 : Int) < (s.size : Int)) = true := decide_eq_true (by omega)
      clear her
      go_enter Tryz.func37, Tryz.ntmps37
      go_wp2
      go_ret
      exact ⟨rfl, below1 _ _⟩
    · have HS : Hid (endR s.size at0 0 = 0) := (if_neg her).trans (if_neg hlt)
      rw [HS.out]
      have t1 : decide ((at0 : Int) < (s.size : Int)) = false := decide_eq_false (by omega)
      clear her
      go_enter Tryz.func37, Tryz.ntmps37
      go_wp2
      go_ret
      exact ⟨rfl, below1 _ _⟩

theorem getB_step (l : List UInt8) (at0 : Nat) :
    (l.length ≤ at0 ∧ stepR false at0 0 (getB (l.drop at0)) = (false, at0, 3)) ∨
    (∃ h : at0 < l.length, 1 < (l[at0]).toNat ∧ stepR false at0 0 (getB (l.drop at0)) = (false, at0, 4)) ∨
    (∃ h : at0 < l.length, ¬ 1 < (l[at0]).toNat ∧ stepR false at0 0 (getB (l.drop at0)) = ((l[at0]).toNat == 1, at0 + 1, 0)) := by
  by_cases h : at0 < l.length
  · right
    have e : getB (l.drop at0) = if 1 < (l[at0]).toNat then (false, 0, 4) else ((l[at0]).toNat == 1, 1, 0) := by rw [drop_at h]; rfl
    by_cases hx : 1 < (l[at0]).toNat
    · left; refine ⟨h, hx, ?_⟩; rw [e, if_pos hx]; unfold stepR; simp
    · right; refine ⟨h, hx, ?_⟩; rw [e, if_neg hx]; unfold stepR; simp
  · left
    refine ⟨by omega, ?_⟩
    rw [List.drop_eq_nil_of_le (by omega)]; rfl

theorem getC_step (l : List UInt8) (at0 : Nat) (most : Int) :
    (∃ e, e ≠ 0 ∧ numR l at0 = (0, 0, e) ∧ stepR (0 : Int) at0 0 (getC (l.drop at0) most) = (0, at0, e)) ∨
    (∃ n k, numR l at0 = (n, k, 0) ∧ n < 0 ∧ stepR (0 : Int) at0 0 (getC (l.drop at0) most) = (0, at0, 4)) ∨
    (∃ n k, numR l at0 = (n, k, 0) ∧ 0 ≤ n ∧ max 0 most < n ∧ stepR (0 : Int) at0 0 (getC (l.drop at0) most) = (0, at0, 5)) ∨
    (∃ n k, numR l at0 = (n, k, 0) ∧ 0 ≤ n ∧ n ≤ max 0 most ∧ stepR (0 : Int) at0 0 (getC (l.drop at0) most) = (n, k, 0)) := by
  obtain ⟨v, k, e, hq⟩ : ∃ v k e, getI (l.drop at0) = (v, k, e) := ⟨_, _, _, rfl⟩
  have hc : getC (l.drop at0) most = if e ≠ 0 then (0, 0, e) else if v < 0 then (0, 0, 4) else if max most 0 < v then (0, 0, 5) else (v, k, e) := by unfold getC; rw [hq]
  by_cases he : e = 0
  · subst he
    right
    have hn : numR l at0 = (v, at0 + k, 0) := numR_ok hq
    rw [if_neg (by simp)] at hc
    by_cases hv : v < 0
    · left; exact ⟨v, _, hn, hv, by rw [hc, if_pos hv]; unfold stepR; simp⟩
    · right
      rw [if_neg hv] at hc
      by_cases hm : max most 0 < v
      · left; exact ⟨v, _, hn, by omega, by omega, by rw [hc, if_pos hm]; unfold stepR; simp⟩
      · right; exact ⟨v, _, hn, by omega, by omega, by rw [hc, if_neg hm]; unfold stepR; simp⟩
  · left
    refine ⟨e, he, ?_, ?_⟩
    · unfold numR; rw [hq]; simp [he]
    · rw [hc, if_pos he]; unfold stepR; simp [he]

set_option maxHeartbeats 4000000 in
set_option maxRecDepth 100000 in
theorem refRCount_any (s : ByteArray) (at0 er : Nat) (most : Int) (w : World) (hs : s.size ≤ 9223372036854775000) (ha : at0 ≤ s.size) :
    Calls Tryz.prog 67 #[.agg #[.string s, .int .i64 at0, .int .i64 er], .int .i64 most] w fun e w' =>
      e = .returned (.tuple #[.agg #[.string s, .int .i64 (stepR (0 : Int) at0 er (getC (s.data.toList.drop at0) most)).2.1, .int .i64 (stepR (0 : Int) at0 er (getC (s.data.toList.drop at0) most)).2.2], .int .i64 (stepR (0 : Int) at0 er (getC (s.data.toList.drop at0) most)).1]) ∧ Below w.heap.size w w' := by
  by_cases her : er ≠ 0
  · have HS : Hid (stepR (0 : Int) at0 er (getC (s.data.toList.drop at0) most) = (0, at0, er)) := if_pos her
    have t0 : ((er : Int) != 0) = true := by rw [bne_iff_ne]; omega
    clear her
    rw [HS.out]
    go_enter Tryz.func67, Tryz.ntmps67
    go_wp2
    exact bodyPost_ret (v := .tuple #[.agg #[.string s, .int .i64 at0, .int .i64 er], .int .i64 0]) (by simp [results, Tryz.results67, go_sem]) rfl ⟨rfl, below2 _ _ _⟩
  · have e9 : er = 0 := by omega
    subst e9
    clear her
    have HN : Hid (∀ wx, Calls Tryz.prog 95 #[.string s, .int .i64 at0] wx fun e w' => e = .returned (.tuple #[.int .i64 (numR s.data.toList at0).1, .int .i64 (numR s.data.toList at0).2.1, .int .i64 (numR s.data.toList at0).2.2]) ∧ wx = w') := fun wx => number_any s at0 wx hs ha
    rcases getC_step s.data.toList at0 most with ⟨e, h1, h2, h3⟩ | ⟨n, k, h2, g1, h3⟩ | ⟨n, k, h2, g1, g2, h3⟩ | ⟨n, k, h2, g1, g2, h3⟩
    · rw [h3]
      rw [h2] at HN
      have t0 : ((e : Int) != 0) = true := by rw [bne_iff_ne]; omega
      clear h1 h2 h3
      go_enter Tryz.func67, Tryz.ntmps67
      go_wp2_with fail
      refine (HN.out _).mono ?_
      rintro e' wx ⟨rfl, rfl⟩
      go_wp2_with fail
      refine (wrong_any s at0 0 e _).mono ?_
      rintro e' w1 ⟨rfl, hb⟩
      obtain ⟨hc, hf⟩ := bcell hb
      have hz : w.heap.size + 1 < w1.heap.size := by have := hb.size; simp at this; omega
      have HB : Hid (Below w.heap.size w w1) := (below2 w _ _).trans (hb.mono (by simp; omega))
      clear hb
      go_wp2
      refine bodyPost_ret (v := .tuple #[.agg #[.string s, .int .i64 at0, .int .i64 e], .int .i64 0]) (by simp [results, Tryz.results67, go_sem, hc]) rfl ⟨rfl, ?_⟩
      exact ((HB.out.setCell (by simp) _).setCell (by simp) _).setCell (by simp) _
    · rw [h3]
      rw [h2] at HN
      clear h2 h3
      go_enter Tryz.func67, Tryz.ntmps67
      go_wp2_with fail
      refine (HN.out _).mono ?_
      rintro e' wx ⟨rfl, rfl⟩
      go_wp2_with fail
      refine (wrong_any s at0 0 4 _).mono ?_
      rintro e' w1 ⟨rfl, hb⟩
      obtain ⟨hc, hf⟩ := bcell hb
      have hz : w.heap.size + 1 < w1.heap.size := by have := hb.size; simp at this; omega
      have HB : Hid (Below w.heap.size w w1) := (below2 w _ _).trans (hb.mono (by simp; omega))
      clear hb
      go_wp2
      refine bodyPost_ret (v := .tuple #[.agg #[.string s, .int .i64 at0, .int .i64 4], .int .i64 0]) (by simp [results, Tryz.results67, go_sem, hc]) rfl ⟨rfl, ?_⟩
      exact ((HB.out.setCell (by simp) _).setCell (by simp) _).setCell (by simp) _
    · rw [h3]
      rw [h2] at HN
      have t1 : decide (max 0 most < n) = true := decide_eq_true (by omega)
      clear h2 h3
      go_enter Tryz.func67, Tryz.ntmps67
      go_wp2_with fail
      refine (HN.out _).mono ?_
      rintro e' wx ⟨rfl, rfl⟩
      go_wp2_with fail
      refine (wrong_any s at0 0 5 _).mono ?_
      rintro e' w1 ⟨rfl, hb⟩
      obtain ⟨hc, hf⟩ := bcell hb
      have hz : w.heap.size + 1 < w1.heap.size := by have := hb.size; simp at this; omega
      have HB : Hid (Below w.heap.size w w1) := (below2 w _ _).trans (hb.mono (by simp; omega))
      clear hb
      go_wp2
      refine bodyPost_ret (v := .tuple #[.agg #[.string s, .int .i64 at0, .int .i64 5], .int .i64 0]) (by simp [results, Tryz.results67, go_sem, hc]) rfl ⟨rfl, ?_⟩
      exact ((HB.out.setCell (by simp) _).setCell (by simp) _).setCell (by simp) _
    · rw [h3]
      rw [h2] at HN
      have t1 : decide (max 0 most < n) = false := decide_eq_false (by omega)
      clear h2 h3
      go_enter Tryz.func67, Tryz.ntmps67
      go_wp2_with fail
      refine (HN.out _).mono ?_
      rintro e' wx ⟨rfl, rfl⟩
      go_wp2
      exact bodyPost_ret (v := .tuple #[.agg #[.string s, .int .i64 k, .int .i64 0], .int .i64 n]) (by simp [results, Tryz.results67, go_sem]) rfl ⟨rfl, below2 _ _ _⟩
end Go.Proofs.YtbdgniiafdjmiaaGreatDoor
/- The document's reader: Text of the reference. -/
namespace Go.Proofs.YtbdgniiafdjmiaaGreatDoor
open Go.RowKit

theorem getT_step (l : List UInt8) (at0 er : Nat) (most : Int) (ha : at0 ≤ l.length) :
    (∃ a1 e1, e1 ≠ 0 ∧ stepR (0 : Int) at0 er (getC (l.drop at0) most) = (0, a1, e1) ∧ stepR ([] : List UInt8) at0 er (getT (l.drop at0) most) = ([], a1, e1)) ∨
    (er = 0 ∧ ∃ n a1 : Nat, stepR (0 : Int) at0 er (getC (l.drop at0) most) = ((n : Int), a1, 0) ∧ a1 ≤ l.length ∧ (l.length : Int) - (a1 : Int) < (n : Int) ∧ stepR ([] : List UInt8) at0 er (getT (l.drop at0) most) = ([], at0, 3)) ∨
    (er = 0 ∧ ∃ n a1 : Nat, stepR (0 : Int) at0 er (getC (l.drop at0) most) = ((n : Int), a1, 0) ∧ a1 + n ≤ l.length ∧ stepR ([] : List UInt8) at0 er (getT (l.drop at0) most) = ((l.drop a1).take n, a1 + n, 0)) := by
  by_cases her : er ≠ 0
  · left
    exact ⟨at0, er, her, if_pos her, if_pos her⟩
  · have e9 : er = 0 := by omega
    subst e9
    obtain ⟨v, k, e, hq⟩ : ∃ v k e, getC (l.drop at0) most = (v, k, e) := ⟨_, _, _, rfl⟩
    have hk := getC_len (l.drop at0) most
    have hv := getC_nonneg (l.drop at0) most
    rw [hq] at hk hv
    rw [List.length_drop] at hk
    simp only at hk hv
    obtain ⟨n, rfl⟩ := Int.eq_ofNat_of_zero_le hv
    have ht : getT (l.drop at0) most = if e ≠ 0 then ([], 0, e) else if ((l.drop at0).length : Int) - (k : Int) < (n : Int) then ([], 0, 3) else (((l.drop at0).drop k).take n, k + n, 0) := by
      unfold getT; rw [hq]; simp only [Int.toNat_natCast]
    by_cases he : e ≠ 0
    · left
      rw [if_pos he] at ht
      refine ⟨at0, e, he, ?_, ?_⟩
      · rw [hq]; exact (if_neg her).trans (if_pos he)
      · rw [ht]; exact (if_neg her).trans (if_pos he)
    · right
      have e8 : e = 0 := by omega
      subst e8
      rw [if_neg he] at ht
      have hc : stepR (0 : Int) at0 0 (getC (l.drop at0) most) = ((n : Int), at0 + k, 0) := by rw [hq]; exact (if_neg her).trans (if_neg he)
      rw [List.length_drop] at ht
      by_cases hlt : (((l.length - at0 : Nat) : Int) - (k : Int)) < (n : Int)
      · left
        rw [if_pos hlt] at ht
        refine ⟨rfl, n, at0 + k, hc, by omega, by omega, ?_⟩
        rw [ht]; exact (if_neg her).trans (if_pos (by simp))
      · right
        rw [if_neg hlt] at ht
        refine ⟨rfl, n, at0 + k, hc, by omega, ?_⟩
        rw [ht, List.drop_drop]
        refine ((if_neg her).trans (if_neg (by simp))).trans ?_
        simp only [Nat.add_assoc]

set_option maxRecDepth 100000 in
theorem slice_text (w : World) (s : ByteArray) (a n : Nat) (h : a + n ≤ s.size) :
    (Instr.slice 9 (.string s) (some (.int .i64 (a : Int))) (some (.int .i64 ((a : Int) + (n : Int)))) none).run Tryz.prog w = .ok (.string ⟨((s.data.toList.drop a).take n).toArray⟩) w := by
  rw [run_slice_string_if (P := Tryz.prog) (w := w) 9 s .i64 .i64 _ _ Tryz.underlying9, if_pos ⟨by omega, by omega⟩, if_pos ⟨by omega, by omega⟩]
  have e1 : ((a : Int) + (n : Int)).toNat = a + n := by omega
  have e2 := Lib.extract_data s a (a + n)
  rw [show a + n - a = n by omega] at e2
  rw [e1, Int.toNat_natCast, ← e2]

theorem fin_cells {w1 : World} {b : Nat} {u0 u1 u2 : Value} (h0 : w1.cell? ⟨b, 0, none⟩ = some u0) (h1 : w1.cell? ⟨b, 1, none⟩ = some u1) (h2 : w1.cell? ⟨b, 2, none⟩ = some u2) (v0 v1 v2 : Value) (o : Obj) :
    ((((w1.setCell ⟨b, 0, none⟩ v0).setCell ⟨b, 1, none⟩ v1).setCell ⟨b, 2, none⟩ v2).alloc o).cell? ⟨b, 0, none⟩ = some v0 ∧
    ((((w1.setCell ⟨b, 0, none⟩ v0).setCell ⟨b, 1, none⟩ v1).setCell ⟨b, 2, none⟩ v2).alloc o).cell? ⟨b, 1, none⟩ = some v1 ∧
    ((((w1.setCell ⟨b, 0, none⟩ v0).setCell ⟨b, 1, none⟩ v1).setCell ⟨b, 2, none⟩ v2).alloc o).cell? ⟨b, 2, none⟩ = some v2 := by
  have ne : ∀ i j : Nat, i ≠ j → (⟨b, i, none⟩ : Addr) ≠ ⟨b, j, none⟩ := fun i j h e => by cases e; exact h rfl
  refine ⟨Lib.cell?_alloc_some o ?_, Lib.cell?_alloc_some o ?_, Lib.cell?_alloc_some o ?_⟩
  · rw [World.cell?_setCell_other (h := ne 2 0 (by decide)), World.cell?_setCell_other (h := ne 1 0 (by decide))]
    exact World.cell?_setCell_same _ _ _ h0
  · rw [World.cell?_setCell_other (h := ne 2 1 (by decide))]
    exact World.cell?_setCell_same (u := u1) _ _ _ (by rw [World.cell?_setCell_other (h := ne 0 1 (by decide))]; exact h1)
  · exact World.cell?_setCell_same (u := u2) _ _ _ (by rw [World.cell?_setCell_other (h := ne 1 2 (by decide)), World.cell?_setCell_other (h := ne 0 2 (by decide))]; exact h2)

theorem res_cells {w w1 : World} {x0 x1 x2 y0 y1 y2 : Value} {t : TypeId} (hb : Below ((w.alloc (.cells #[x0, x1, x2] t)).alloc (.cells #[y0, y1, y2] t)).heap.size ((w.alloc (.cells #[x0, x1, x2] t)).alloc (.cells #[y0, y1, y2] t)) w1) :
    w1.cell? ⟨w.heap.size + 1, 0, none⟩ = some y0 ∧ w1.cell? ⟨w.heap.size + 1, 1, none⟩ = some y1 ∧ w1.cell? ⟨w.heap.size + 1, 2, none⟩ = some y2 := by
  obtain ⟨hc, hf⟩ := bcell hb
  refine ⟨?_, ?_, ?_⟩
  · rw [hc _ _ (by simp)]; simp
  · rw [hc _ _ (by simp)]; simp
  · rw [hc _ _ (by simp)]; simp

theorem text_cells {w w1 : World} {x0 x1 x2 y0 y1 y2 : Value} {t : TypeId} (hb : Below ((w.alloc (.cells #[x0, x1, x2] t)).alloc (.cells #[y0, y1, y2] t)).heap.size ((w.alloc (.cells #[x0, x1, x2] t)).alloc (.cells #[y0, y1, y2] t)) w1) :
    w1.cell? ⟨w.heap.size, 0, none⟩ = some x0 ∧ w1.cell? ⟨w.heap.size, 1, none⟩ = some x1 ∧ w1.cell? ⟨w.heap.size, 2, none⟩ = some x2 := by
  have hz := hb.size
  simp at hz
  obtain ⟨hc, hf⟩ := bcell hb
  refine ⟨?_, ?_, ?_⟩
  · rw [hc _ _ (by simp; omega)]; simp
  · rw [hc _ _ (by simp; omega)]; simp
  · rw [hc _ _ (by simp; omega)]; simp

set_option maxHeartbeats 4000000 in
set_option maxRecDepth 100000 in
theorem refRText_any (s : ByteArray) (at0 er : Nat) (most : Int) (w : World) (hs : s.size ≤ 9223372036854775000) (ha : at0 ≤ s.size) :
    Calls Tryz.prog 66 #[.agg #[.string s, .int .i64 at0, .int .i64 er], .int .i64 most] w fun e w' =>
      e = .returned (.tuple #[.agg #[.string s, .int .i64 (stepR ([] : List UInt8) at0 er (getT (s.data.toList.drop at0) most)).2.1, .int .i64 (stepR ([] : List UInt8) at0 er (getT (s.data.toList.drop at0) most)).2.2], .string ⟨(stepR ([] : List UInt8) at0 er (getT (s.data.toList.drop at0) most)).1.toArray⟩]) ∧ Below w.heap.size w w' := by
  have HC := fun wx => refRCount_any s at0 er most wx hs ha
  have hl := data_len s
  rcases getT_step s.data.toList at0 er most (by rw [hl]; exact ha) with ⟨a1, e1, h1, h2, h3⟩ | ⟨rfl, n, a1, h2, g1, g2, h3⟩ | ⟨rfl, n, a1, h2, g1, h3⟩
  · rw [h3]
    rw [h2] at HC
    have HK : Hid (∀ wx : World, Calls Tryz.prog 67 #[.agg #[.string s, .int .i64 at0, .int .i64 er], .int .i64 most] wx fun e w' => e = .returned (.tuple #[.agg #[.string s, .int .i64 a1, .int .i64 e1], .int .i64 0]) ∧ Below wx.heap.size wx w') := HC
    have t0 : ((e1 : Int) != 0) = true := by rw [bne_iff_ne]; omega
    clear h1 h2 h3 HC hl
    go_enter Tryz.func66, Tryz.ntmps66
    go_wp2_with fail
    refine (HK.out _).mono ?_
    rintro e' w1 ⟨rfl, hb⟩
    obtain ⟨k0, k1, k2⟩ := text_cells hb
    obtain ⟨r0, r1, r2⟩ := res_cells hb
    have HFin := fin_cells r0 r1 r2
    have HFIN : Hid (∀ (v0 v1 v2 : Value) (o : Obj), ((((w1.setCell ⟨w.heap.size + 1, 0, none⟩ v0).setCell ⟨w.heap.size + 1, 1, none⟩ v1).setCell ⟨w.heap.size + 1, 2, none⟩ v2).alloc o).cell? ⟨w.heap.size + 1, 0, none⟩ = some v0 ∧ ((((w1.setCell ⟨w.heap.size + 1, 0, none⟩ v0).setCell ⟨w.heap.size + 1, 1, none⟩ v1).setCell ⟨w.heap.size + 1, 2, none⟩ v2).alloc o).cell? ⟨w.heap.size + 1, 1, none⟩ = some v1 ∧ ((((w1.setCell ⟨w.heap.size + 1, 0, none⟩ v0).setCell ⟨w.heap.size + 1, 1, none⟩ v1).setCell ⟨w.heap.size + 1, 2, none⟩ v2).alloc o).cell? ⟨w.heap.size + 1, 2, none⟩ = some v2) := HFin
    clear HFin
    obtain ⟨hc, hf⟩ := bcell hb
    have hz2 : w.heap.size < w1.heap.size := by have := hb.size; simp at this; omega
    have hz3 : w.heap.size ≠ w1.heap.size := by omega
    have hz : w.heap.size + 1 < w1.heap.size := by have := hb.size; simp at this; omega
    have HB : Hid (Below w.heap.size w w1) := (below2 w _ _).trans (hb.mono (by simp; omega))
    clear hb
    go_wp2
    refine bodyPost_ret (v := .tuple #[.agg #[.string s, .int .i64 a1, .int .i64 e1], .string ⟨#[]⟩]) (by simp [results, Tryz.results66, go_sem, (HFIN.out _ _ _ _).1, (HFIN.out _ _ _ _).2.1, (HFIN.out _ _ _ _).2.2]) rfl ⟨rfl, ?_⟩
    exact (((HB.out.setCell (by simp) _).setCell (by simp) _).setCell (by simp) _).alloc (by simp [World.setCell]; omega) _
  · rw [h3]
    rw [h2] at HC
    have HK : Hid (∀ wx : World, Calls Tryz.prog 67 #[.agg #[.string s, .int .i64 at0, .int .i64 ((0 : Nat) : Int)], .int .i64 most] wx fun e w' => e = .returned (.tuple #[.agg #[.string s, .int .i64 a1, .int .i64 ((0 : Nat) : Int)], .int .i64 n]) ∧ Below wx.heap.size wx w') := HC
    rw [hl] at g1 g2
    clear h2 h3 HC hl
    go_enter Tryz.func66, Tryz.ntmps66
    go_wp2_with fail
    refine (HK.out _).mono ?_
    rintro e' w1 ⟨rfl, hb⟩
    obtain ⟨k0, k1, k2⟩ := text_cells hb
    obtain ⟨r0, r1, r2⟩ := res_cells hb
    have HFin := fin_cells r0 r1 r2
    have HFIN : Hid (∀ (v0 v1 v2 : Value) (o : Obj), ((((w1.setCell ⟨w.heap.size + 1, 0, none⟩ v0).setCell ⟨w.heap.size + 1, 1, none⟩ v1).setCell ⟨w.heap.size + 1, 2, none⟩ v2).alloc o).cell? ⟨w.heap.size + 1, 0, none⟩ = some v0 ∧ ((((w1.setCell ⟨w.heap.size + 1, 0, none⟩ v0).setCell ⟨w.heap.size + 1, 1, none⟩ v1).setCell ⟨w.heap.size + 1, 2, none⟩ v2).alloc o).cell? ⟨w.heap.size + 1, 1, none⟩ = some v1 ∧ ((((w1.setCell ⟨w.heap.size + 1, 0, none⟩ v0).setCell ⟨w.heap.size + 1, 1, none⟩ v1).setCell ⟨w.heap.size + 1, 2, none⟩ v2).alloc o).cell? ⟨w.heap.size + 1, 2, none⟩ = some v2) := HFin
    clear HFin
    obtain ⟨hc, hf⟩ := bcell hb
    have hz2 : w.heap.size < w1.heap.size := by have := hb.size; simp at this; omega
    have hz3 : w.heap.size ≠ w1.heap.size := by omega
    have hz : w.heap.size + 1 < w1.heap.size := by have := hb.size; simp at this; omega
    have HB : Hid (Below w.heap.size w w1) := (below2 w _ _).trans (hb.mono (by simp; omega))
    clear hb
    go_wp2_with fail
    refine (wrong_any s at0 0 3 _).mono ?_
    rintro e' w2 ⟨rfl, hb2⟩
    have hB2 : Below w1.heap.size w1 w2 := (below1 w1 _).trans (hb2.mono (by simp))
    obtain ⟨hc2, hf2⟩ := bcell hB2
    have hz4 : w.heap.size + 1 < w2.heap.size := by have := hB2.size; omega
    have HB2 : Hid (Below w.heap.size w w2) := HB.out.trans (hB2.mono (by omega))
    clear hb2 hB2
    go_wp2
    refine bodyPost_ret (v := .tuple #[.agg #[.string s, .int .i64 at0, .int .i64 3], .string ⟨#[]⟩]) (by simp [results, Tryz.results66, go_sem, hc2, hc, hz]) rfl ⟨rfl, ?_⟩
    exact ((HB2.out.setCell (by simp) _).setCell (by simp) _).setCell (by simp) _
  · rw [h3]
    rw [h2] at HC
    have HK : Hid (∀ wx : World, Calls Tryz.prog 67 #[.agg #[.string s, .int .i64 at0, .int .i64 ((0 : Nat) : Int)], .int .i64 most] wx fun e w' => e = .returned (.tuple #[.agg #[.string s, .int .i64 a1, .int .i64 ((0 : Nat) : Int)], .int .i64 n]) ∧ Below wx.heap.size wx w') := HC
    rw [hl] at g1
    have hsl := fun wx => slice_text wx s a1 n g1
    clear h2 h3 HC hl
    generalize (s.data.toList.drop a1).take n = ts at *
    go_enter Tryz.func66, Tryz.ntmps66
    go_wp2_with fail
    refine (HK.out _).mono ?_
    rintro e' w1 ⟨rfl, hb⟩
    obtain ⟨k0, k1, k2⟩ := text_cells hb
    obtain ⟨r0, r1, r2⟩ := res_cells hb
    have HFin := fin_cells r0 r1 r2
    have HFIN : Hid (∀ (v0 v1 v2 : Value) (o : Obj), ((((w1.setCell ⟨w.heap.size + 1, 0, none⟩ v0).setCell ⟨w.heap.size + 1, 1, none⟩ v1).setCell ⟨w.heap.size + 1, 2, none⟩ v2).alloc o).cell? ⟨w.heap.size + 1, 0, none⟩ = some v0 ∧ ((((w1.setCell ⟨w.heap.size + 1, 0, none⟩ v0).setCell ⟨w.heap.size + 1, 1, none⟩ v1).setCell ⟨w.heap.size + 1, 2, none⟩ v2).alloc o).cell? ⟨w.heap.size + 1, 1, none⟩ = some v1 ∧ ((((w1.setCell ⟨w.heap.size + 1, 0, none⟩ v0).setCell ⟨w.heap.size + 1, 1, none⟩ v1).setCell ⟨w.heap.size + 1, 2, none⟩ v2).alloc o).cell? ⟨w.heap.size + 1, 2, none⟩ = some v2) := HFin
    clear HFin
    obtain ⟨hc, hf⟩ := bcell hb
    have hz2 : w.heap.size < w1.heap.size := by have := hb.size; simp at this; omega
    have hz3 : w.heap.size ≠ w1.heap.size := by omega
    have hz : w.heap.size + 1 < w1.heap.size := by have := hb.size; simp at this; omega
    have HB : Hid (Below w.heap.size w w1) := (below2 w _ _).trans (hb.mono (by simp; omega))
    clear hb
    go_wp2
    refine bodyPost_ret (v := .tuple #[.agg #[.string s, .int .i64 (a1 + n : Int), .int .i64 0], .string ⟨ts.toArray⟩]) (by simp [results, Tryz.results66, go_sem, (HFIN.out _ _ _ _).1, (HFIN.out _ _ _ _).2.1, (HFIN.out _ _ _ _).2.2]) rfl ⟨rfl, ?_⟩
    exact (((HB.out.setCell (by simp) _).setCell (by simp) _).setCell (by simp) _).alloc (by simp [World.setCell]; omega) _
end Go.Proofs.YtbdgniiafdjmiaaGreatDoor
