/- A count, and a text's length, is read up to the greatest that may be, and no further: the walk of WireBounds. -/
import Derived.Test.YtaakkbimlhlihaaWMath
import Derived.Test.YtaakkbimlhlihaaWLives
namespace Go.Proofs.Ytaakkbimlhlihaa
open Go.RowKit

theorem stepR_ok {α : Type} (z : α) (a : Nat) (g : α × Nat × Nat) (h : g.2.2 = 0) : stepR z a 0 g = (g.1, a + g.2.1, 0) := by
  unfold stepR; rw [if_neg (by decide), if_neg (by rw [h]; decide)]
theorem stepR_bad {α : Type} (z : α) (a : Nat) (g : α × Nat × Nat) (h : g.2.2 ≠ 0) : stepR z a 0 g = (z, a, g.2.2) := by
  unfold stepR; rw [if_neg (by decide), if_pos h]

theorem byteArray_eta (s : ByteArray) : (⟨s.data.toList.toArray⟩ : ByteArray) = s := by
  cases s; simp

theorem bounds_x {n most x : Int} {L at1 er1 : Nat} (h : (x, at1, er1) = stepR 0 0 0 (if n < 0 then (0, 0, 4) else if max most 0 < n then (0, 0, 5) else (n, L, 0))) :
    (n < 0 ∧ x = 0 ∧ er1 = 4) ∨ (0 ≤ n ∧ n ≤ most ∧ x = n ∧ er1 = 0) ∨ (0 < n ∧ most < n ∧ x = 0 ∧ er1 = 5) ∨ (n = 0 ∧ most < n ∧ x = 0 ∧ er1 = 0) := by
  by_cases c1 : n < 0
  · rw [if_pos c1, stepR_bad _ _ _ (by simp)] at h
    simp only [Prod.mk.injEq] at h
    exact .inl ⟨c1, h.1, h.2.2⟩
  · rw [if_neg c1] at h
    by_cases c2 : max most 0 < n
    · rw [if_pos c2, stepR_bad _ _ _ (by simp)] at h
      simp only [Prod.mk.injEq] at h
      exact .inr (.inr (.inl ⟨by omega, by omega, h.1, h.2.2⟩))
    · rw [if_neg c2, stepR_ok _ _ _ (by simp)] at h
      simp only [Prod.mk.injEq] at h
      by_cases c3 : n ≤ most
      · exact .inr (.inl ⟨by omega, c3, h.1, h.2.2⟩)
      · exact .inr (.inr (.inr ⟨by omega, by omega, by omega, h.2.2⟩))

theorem bounds_t {most : Int} {N L at2 er2 : Nat} {y d : List UInt8} (h : (y, at2, er2) = stepR [] 0 0 (if max most 0 < (N : Int) then ([], 0, 5) else (d, L, 0))) :
    (0 < N ∧ most < (N : Int) ∧ y = [] ∧ er2 = 5) ∨ (¬ (0 < N ∧ most < (N : Int)) ∧ y = d ∧ at2 = L ∧ er2 = 0) := by
  by_cases c2 : max most 0 < (N : Int)
  · rw [if_pos c2, stepR_bad _ _ _ (by simp)] at h
    simp only [Prod.mk.injEq] at h
    exact .inl ⟨by omega, by omega, h.1, h.2.2⟩
  · rw [if_neg c2, stepR_ok _ _ _ (by simp)] at h
    simp only [Prod.mk.injEq, Nat.zero_add] at h
    exact .inr ⟨by omega, h.1, h.2.1, h.2.2⟩

set_option maxHeartbeats 4000000 in
set_option maxRecDepth 100000 in
theorem bounds_walk (n most : Int) (s : ByteArray) (h0 : -9223372036854775808 ≤ n) (h1 : n ≤ 9223372036854775807) (hs : s.size ≤ 140737488351232) (w : World) :
    Calls Try.prog 8 #[.int .i64 n, .int .i64 most, .string s] w fun e w' => e = .returned (.bool true) ∧ Below w.heap.size w w' := by
  have hnl := numB_len h0 h1
  have hnl2 := numB_len (n := (s.size : Int)) (by omega) (by omega)
  have htl := textB_len s
  go_enter Try.func8, Try.ntmps8
  go_wp2_with fail
  refine (putInt_any (.slice none 0 0) [] n h0 h1 w (bytesAt_nil w) (by decide)).mono ?_
  rintro e w1 ⟨v1, rfl, hown, hb1⟩
  rw [List.nil_append] at hown
  have hB1 := bytesAt_own hown
  have hz1 := hb1.size
  go_wp2_with fail
  refine (newReader_any v1 (numB n) w1 hB1 (by omega)).mono ?_
  rintro e w2 ⟨p1, base1, cap1, rfl, hR1, hp1, hp1', ha1, hb2⟩
  have hz2 := hb2.size
  have H2 : Hid (ReaderAt w2 p1 base1 cap1 (numB n) 0 0 ∧ Below w.heap.size w w2 ∧ (∀ a, base1 = some a → a.block < w2.heap.size)) := ⟨hR1, hb1.trans (hb2.mono hz1), fun a ha => (ha1 a ha).2⟩
  clear hown hB1 hR1 ha1 hb1 hb2
  go_wp2_with fail
  refine (putText_any (.slice none 0 0) [] s w2 (bytesAt_nil w2) (by simp; omega)).mono ?_
  rintro e w3 ⟨v3, rfl, hown, hb3⟩
  rw [List.nil_append] at hown
  have hB3 := bytesAt_own hown
  have hz3 := hb3.size
  go_wp2_with fail
  refine (newReader_any v3 (textB s) w3 hB3 (by omega)).mono ?_
  rintro e w4 ⟨p2, base2, cap2, rfl, hR2, hp2, hp2', ha2, hb4⟩
  have hz4 := hb4.size
  have H4 : Hid (ReaderAt w4 p1 base1 cap1 (numB n) 0 0 ∧ ReaderAt w4 p2 base2 cap2 (textB s) 0 0 ∧ Below w.heap.size w w4 ∧ (∀ a, base1 = some a → a.block ≠ p2) ∧ (∀ a, base2 = some a → a.block ≠ p1)) :=
    ⟨(H2.out.1.below hb3 (Nat.le_refl _)).below hb4 (Nat.le_refl _), hR2, (H2.out.2.1.trans (hb3.mono (by omega))).trans (hb4.mono (by omega)), fun a ha => by have := H2.out.2.2 a ha; omega, fun a ha => by have := (ha2 a ha).1; omega⟩
  clear hown hB3 hR2 ha2 hb3 hb4 H2
  go_wp2_with fail
  have c5 := count_any most H4.out.1
  rw [List.drop_zero] at c5
  have hgc := getC_put h0 h1 [] most
  rw [List.append_nil] at hgc
  obtain ⟨q, hq⟩ : ∃ q, q = stepR 0 0 0 (getC (numB n) most) := ⟨_, rfl⟩
  rw [← hq] at c5
  rw [hgc] at hq
  clear hgc
  refine c5.mono ?_
  clear c5
  rintro e w5 ⟨rfl, hr, hg⟩
  have hz5 := hg.size
  have H5 : Hid (ReaderAt w5 p1 base1 cap1 (numB n) q.2.1 q.2.2 ∧ ReaderAt w5 p2 base2 cap2 (textB s) 0 0 ∧ Below w.heap.size w w5 ∧ (∀ a, base1 = some a → a.block ≠ p2)) :=
    ⟨hr, H4.out.2.1.other hg (by omega) H4.out.2.2.2.2, below_of_grown H4.out.2.2.1 hg (by omega) (by omega), H4.out.2.2.2.1⟩
  have HQ : Hid (q = stepR 0 0 0 (if n < 0 then (0, 0, 4) else if max most 0 < n then (0, 0, 5) else (n, (numB n).length, 0))) := hq
  clear hr hg H4 hq
  go_wp2_with fail
  have c6 := text_any most H5.out.2.1
  rw [List.drop_zero] at c6
  have hgt := getT_put s [] most (by omega)
  rw [List.append_nil] at hgt
  obtain ⟨t, ht⟩ : ∃ t, t = stepR [] 0 0 (getT (textB s) most) := ⟨_, rfl⟩
  rw [← ht] at c6
  rw [hgt] at ht
  clear hgt
  refine c6.mono ?_
  clear c6
  rintro e w6 ⟨rfl, hr, hg⟩
  have hz6 := hg.size
  have H6 : Hid (ReaderAt w6 p1 base1 cap1 (numB n) q.2.1 q.2.2 ∧ ReaderAt w6 p2 base2 cap2 (textB s) t.2.1 t.2.2 ∧ Below w.heap.size w w6) :=
    ⟨H5.out.1.other hg (by omega) H5.out.2.2.2, hr, below_of_grown H5.out.2.2.1 hg (by omega) (by omega)⟩
  have HT : Hid (t = stepR [] 0 0 (if max most 0 < (s.size : Int) then ([], 0, 5) else (s.data.toList, (textB s).length, 0))) := ht
  clear hr hg H5 ht
  obtain ⟨x, at1, er1⟩ := q
  obtain ⟨y, at2, er2⟩ := t
  have HE1 : Hid (Calls Try.prog 19 #[.pointer (some ⟨p1, 0, none⟩)] w6 fun e w' => e = .returned (.int .i64 er1) ∧ w6 = w') := err_any H6.out.1
  have HE2 : Hid (Calls Try.prog 19 #[.pointer (some ⟨p2, 0, none⟩)] w6 fun e w' => e = .returned (.int .i64 er2) ∧ w6 = w') := err_any H6.out.2.1
  have HN2 : Hid (Calls Try.prog 20 #[.pointer (some ⟨p2, 0, none⟩)] w6 fun e w' => e = .returned (.int .i64 (endR (textB s).length at2 er2)) ∧ ∃ n, w' = w6.drewN n) := end_any H6.out.2.1
  have hbel := H6.out.2.2
  have HBel : Hid (Below w.heap.size w w6) := hbel
  clear hbel H6
  have hz : w.heap.size ≤ w6.heap.size := by omega
  clear hz1 hz2 hz3 hz4 hz5 hz6 hp1 hp1' hp2 hp2'
  have hxc := bounds_x HQ.out
  have htc := bounds_t HT.out
  clear HT HQ
  have hlv := lives_any
  have HLV : Hid (∀ w : World, Calls Try.prog 15 #[] w fun e w' => e = .returned (.bool true) ∧ Below w.heap.size w w') := hlv
  clear hlv
  rcases hxc with ⟨c1, hx, he⟩ | ⟨c1, c2, hx, he⟩ | ⟨c1, c2, hx, he⟩ | ⟨c1, c2, hx, he⟩
  · subst hx
    subst he
    rcases htc with ⟨d1, d2, rfl, rfl⟩ | ⟨d1, rfl, rfl, rfl⟩
    · have t1 : decide ((0 : Int) < (s.size : Int)) = true := decide_eq_true (by omega)
      have t2 : decide (most < (s.size : Int)) = true := decide_eq_true (by omega)
      go_wp2_with fail
      refine HE1.out.mono ?_
      rintro e w' ⟨rfl, rfl⟩
      go_wp2_with fail
      refine HE2.out.mono ?_
      rintro e w' ⟨rfl, rfl⟩
      go_wp2_with fail
      refine (HLV.out _).mono ?_
      rintro e w7 ⟨rfl, hb7⟩
      have HF : Hid (Below w.heap.size w w7) := HBel.out.trans (hb7.mono hz)
      clear hb7
      go_wp2
      go_ret
      exact ⟨rfl, HF.out⟩
    · rw [byteArray_eta]
      have he : endR (textB s).length (textB s).length 0 = 0 := by simp [endR]
      rw [he] at HN2
      clear he
      by_cases d2 : 0 < s.size
      · have t1 : decide ((0 : Int) < (s.size : Int)) = true := decide_eq_true (by omega)
        have t2 : decide (most < (s.size : Int)) = false := decide_eq_false (by omega)
        go_wp2_with fail
        refine HE1.out.mono ?_
        rintro e w' ⟨rfl, rfl⟩
        go_wp2_with fail
        refine HN2.out.mono ?_
        rintro e w' ⟨rfl, nq, rfl⟩
        go_wp2_with fail
        refine (HLV.out _).mono ?_
        rintro e w7 ⟨rfl, hb7⟩
        have HF : Hid (Below w.heap.size w w7) := HBel.out.trans ((⟨rfl, rfl, rfl, Nat.le_refl _, fun _ _ => rfl⟩ : Below w.heap.size w6 (w6.drewN nq)).trans (hb7.mono hz))
        clear hb7
        go_wp2
        go_ret
        exact ⟨rfl, HF.out⟩
      · have t1 : decide ((0 : Int) < (s.size : Int)) = false := decide_eq_false (by omega)
        go_wp2_with fail
        refine HE1.out.mono ?_
        rintro e w' ⟨rfl, rfl⟩
        go_wp2_with fail
        refine HN2.out.mono ?_
        rintro e w' ⟨rfl, nq, rfl⟩
        go_wp2_with fail
        refine (HLV.out _).mono ?_
        rintro e w7 ⟨rfl, hb7⟩
        have HF : Hid (Below w.heap.size w w7) := HBel.out.trans ((⟨rfl, rfl, rfl, Nat.le_refl _, fun _ _ => rfl⟩ : Below w.heap.size w6 (w6.drewN nq)).trans (hb7.mono hz))
        clear hb7
        go_wp2
        go_ret
        exact ⟨rfl, HF.out⟩
  · have hxn : ((x : Int) != n) = false := by rw [bne_eq_false_iff_eq]; exact hx
    subst he
    clear hx
    by_cases c3 : 0 < n
    · have c4 : ¬ (most < n) := by omega
      rcases htc with ⟨d1, d2, rfl, rfl⟩ | ⟨d1, rfl, rfl, rfl⟩
      · have t1 : decide ((0 : Int) < (s.size : Int)) = true := decide_eq_true (by omega)
        have t2 : decide (most < (s.size : Int)) = true := decide_eq_true (by omega)
        go_wp2_with fail
        refine HE1.out.mono ?_
        rintro e w' ⟨rfl, rfl⟩
        go_wp2_with fail
        refine HE2.out.mono ?_
        rintro e w' ⟨rfl, rfl⟩
        go_wp2_with fail
        refine (HLV.out _).mono ?_
        rintro e w7 ⟨rfl, hb7⟩
        have HF : Hid (Below w.heap.size w w7) := HBel.out.trans (hb7.mono hz)
        clear hb7
        go_wp2
        go_ret
        exact ⟨rfl, HF.out⟩
      · rw [byteArray_eta]
        have he : endR (textB s).length (textB s).length 0 = 0 := by simp [endR]
        rw [he] at HN2
        clear he
        by_cases d2 : 0 < s.size
        · have t1 : decide ((0 : Int) < (s.size : Int)) = true := decide_eq_true (by omega)
          have t2 : decide (most < (s.size : Int)) = false := decide_eq_false (by omega)
          go_wp2_with fail
          refine HE1.out.mono ?_
          rintro e w' ⟨rfl, rfl⟩
          go_wp2_with fail
          refine HN2.out.mono ?_
          rintro e w' ⟨rfl, nq, rfl⟩
          go_wp2_with fail
          refine (HLV.out _).mono ?_
          rintro e w7 ⟨rfl, hb7⟩
          have HF : Hid (Below w.heap.size w w7) := HBel.out.trans ((⟨rfl, rfl, rfl, Nat.le_refl _, fun _ _ => rfl⟩ : Below w.heap.size w6 (w6.drewN nq)).trans (hb7.mono hz))
          clear hb7
          go_wp2
          go_ret
          exact ⟨rfl, HF.out⟩
        · have t1 : decide ((0 : Int) < (s.size : Int)) = false := decide_eq_false (by omega)
          go_wp2_with fail
          refine HE1.out.mono ?_
          rintro e w' ⟨rfl, rfl⟩
          go_wp2_with fail
          refine HN2.out.mono ?_
          rintro e w' ⟨rfl, nq, rfl⟩
          go_wp2_with fail
          refine (HLV.out _).mono ?_
          rintro e w7 ⟨rfl, hb7⟩
          have HF : Hid (Below w.heap.size w w7) := HBel.out.trans ((⟨rfl, rfl, rfl, Nat.le_refl _, fun _ _ => rfl⟩ : Below w.heap.size w6 (w6.drewN nq)).trans (hb7.mono hz))
          clear hb7
          go_wp2
          go_ret
          exact ⟨rfl, HF.out⟩
    · have c4 : ¬ (n < 0) := by omega
      rcases htc with ⟨d1, d2, rfl, rfl⟩ | ⟨d1, rfl, rfl, rfl⟩
      · have t1 : decide ((0 : Int) < (s.size : Int)) = true := decide_eq_true (by omega)
        have t2 : decide (most < (s.size : Int)) = true := decide_eq_true (by omega)
        go_wp2_with fail
        refine HE1.out.mono ?_
        rintro e w' ⟨rfl, rfl⟩
        go_wp2_with fail
        refine HE2.out.mono ?_
        rintro e w' ⟨rfl, rfl⟩
        go_wp2_with fail
        refine (HLV.out _).mono ?_
        rintro e w7 ⟨rfl, hb7⟩
        have HF : Hid (Below w.heap.size w w7) := HBel.out.trans (hb7.mono hz)
        clear hb7
        go_wp2
        go_ret
        exact ⟨rfl, HF.out⟩
      · rw [byteArray_eta]
        have he : endR (textB s).length (textB s).length 0 = 0 := by simp [endR]
        rw [he] at HN2
        clear he
        by_cases d2 : 0 < s.size
        · have t1 : decide ((0 : Int) < (s.size : Int)) = true := decide_eq_true (by omega)
          have t2 : decide (most < (s.size : Int)) = false := decide_eq_false (by omega)
          go_wp2_with fail
          refine HE1.out.mono ?_
          rintro e w' ⟨rfl, rfl⟩
          go_wp2_with fail
          refine HN2.out.mono ?_
          rintro e w' ⟨rfl, nq, rfl⟩
          go_wp2_with fail
          refine (HLV.out _).mono ?_
          rintro e w7 ⟨rfl, hb7⟩
          have HF : Hid (Below w.heap.size w w7) := HBel.out.trans ((⟨rfl, rfl, rfl, Nat.le_refl _, fun _ _ => rfl⟩ : Below w.heap.size w6 (w6.drewN nq)).trans (hb7.mono hz))
          clear hb7
          go_wp2
          go_ret
          exact ⟨rfl, HF.out⟩
        · have t1 : decide ((0 : Int) < (s.size : Int)) = false := decide_eq_false (by omega)
          go_wp2_with fail
          refine HE1.out.mono ?_
          rintro e w' ⟨rfl, rfl⟩
          go_wp2_with fail
          refine HN2.out.mono ?_
          rintro e w' ⟨rfl, nq, rfl⟩
          go_wp2_with fail
          refine (HLV.out _).mono ?_
          rintro e w7 ⟨rfl, hb7⟩
          have HF : Hid (Below w.heap.size w w7) := HBel.out.trans ((⟨rfl, rfl, rfl, Nat.le_refl _, fun _ _ => rfl⟩ : Below w.heap.size w6 (w6.drewN nq)).trans (hb7.mono hz))
          clear hb7
          go_wp2
          go_ret
          exact ⟨rfl, HF.out⟩
  · subst hx
    subst he
    rcases htc with ⟨d1, d2, rfl, rfl⟩ | ⟨d1, rfl, rfl, rfl⟩
    · have t1 : decide ((0 : Int) < (s.size : Int)) = true := decide_eq_true (by omega)
      have t2 : decide (most < (s.size : Int)) = true := decide_eq_true (by omega)
      go_wp2_with fail
      refine HE1.out.mono ?_
      rintro e w' ⟨rfl, rfl⟩
      go_wp2_with fail
      refine HE2.out.mono ?_
      rintro e w' ⟨rfl, rfl⟩
      go_wp2_with fail
      refine (HLV.out _).mono ?_
      rintro e w7 ⟨rfl, hb7⟩
      have HF : Hid (Below w.heap.size w w7) := HBel.out.trans (hb7.mono hz)
      clear hb7
      go_wp2
      go_ret
      exact ⟨rfl, HF.out⟩
    · rw [byteArray_eta]
      have he : endR (textB s).length (textB s).length 0 = 0 := by simp [endR]
      rw [he] at HN2
      clear he
      by_cases d2 : 0 < s.size
      · have t1 : decide ((0 : Int) < (s.size : Int)) = true := decide_eq_true (by omega)
        have t2 : decide (most < (s.size : Int)) = false := decide_eq_false (by omega)
        go_wp2_with fail
        refine HE1.out.mono ?_
        rintro e w' ⟨rfl, rfl⟩
        go_wp2_with fail
        refine HN2.out.mono ?_
        rintro e w' ⟨rfl, nq, rfl⟩
        go_wp2_with fail
        refine (HLV.out _).mono ?_
        rintro e w7 ⟨rfl, hb7⟩
        have HF : Hid (Below w.heap.size w w7) := HBel.out.trans ((⟨rfl, rfl, rfl, Nat.le_refl _, fun _ _ => rfl⟩ : Below w.heap.size w6 (w6.drewN nq)).trans (hb7.mono hz))
        clear hb7
        go_wp2
        go_ret
        exact ⟨rfl, HF.out⟩
      · have t1 : decide ((0 : Int) < (s.size : Int)) = false := decide_eq_false (by omega)
        go_wp2_with fail
        refine HE1.out.mono ?_
        rintro e w' ⟨rfl, rfl⟩
        go_wp2_with fail
        refine HN2.out.mono ?_
        rintro e w' ⟨rfl, nq, rfl⟩
        go_wp2_with fail
        refine (HLV.out _).mono ?_
        rintro e w7 ⟨rfl, hb7⟩
        have HF : Hid (Below w.heap.size w w7) := HBel.out.trans ((⟨rfl, rfl, rfl, Nat.le_refl _, fun _ _ => rfl⟩ : Below w.heap.size w6 (w6.drewN nq)).trans (hb7.mono hz))
        clear hb7
        go_wp2
        go_ret
        exact ⟨rfl, HF.out⟩
  · subst hx
    subst he
    have c3 : ¬ (n < 0) := by omega
    have c4 : ¬ (0 < n) := by omega
    have c5 : 0 ≤ n := by omega
    clear c1
    rcases htc with ⟨d1, d2, rfl, rfl⟩ | ⟨d1, rfl, rfl, rfl⟩
    · have t1 : decide ((0 : Int) < (s.size : Int)) = true := decide_eq_true (by omega)
      have t2 : decide (most < (s.size : Int)) = true := decide_eq_true (by omega)
      go_wp2_with fail
      refine HE2.out.mono ?_
      rintro e w' ⟨rfl, rfl⟩
      go_wp2_with fail
      refine (HLV.out _).mono ?_
      rintro e w7 ⟨rfl, hb7⟩
      have HF : Hid (Below w.heap.size w w7) := HBel.out.trans (hb7.mono hz)
      clear hb7
      go_wp2
      go_ret
      exact ⟨rfl, HF.out⟩
    · rw [byteArray_eta]
      have he : endR (textB s).length (textB s).length 0 = 0 := by simp [endR]
      rw [he] at HN2
      clear he
      by_cases d2 : 0 < s.size
      · exact absurd ⟨d2, by omega⟩ d1
      · have t1 : decide ((0 : Int) < (s.size : Int)) = false := decide_eq_false (by omega)
        go_wp2_with fail
        refine HN2.out.mono ?_
        rintro e w' ⟨rfl, nq, rfl⟩
        go_wp2_with fail
        refine (HLV.out _).mono ?_
        rintro e w7 ⟨rfl, hb7⟩
        have HF : Hid (Below w.heap.size w w7) := HBel.out.trans ((⟨rfl, rfl, rfl, Nat.le_refl _, fun _ _ => rfl⟩ : Below w.heap.size w6 (w6.drewN nq)).trans (hb7.mono hz))
        clear hb7
        go_wp2
        go_ret
        exact ⟨rfl, HF.out⟩
end Go.Proofs.Ytaakkbimlhlihaa
