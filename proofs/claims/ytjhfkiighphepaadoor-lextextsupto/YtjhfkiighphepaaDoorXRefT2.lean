/- The document's own functions of layer 3: a text as it is written; a token's text. -/
import Derived.Test.YtjhfkiighphepaaDoorXRefT
import Derived.Test.YtjhfkiighphepaaDoorXRef5
namespace Go.Proofs.YtjhfkiighphepaaDoor
open Go.RowKit Go.Shelf

set_option maxHeartbeats 4000000 in
set_option maxRecDepth 100000 in
theorem refQuote_any (s : List UInt8) (w : World) (hl : s.length ≤ 100000000) :
    Calls Tryd.prog 25 #[.string (strB s)] w fun e w' => e = .returned (.string (strB (quoteB s))) ∧ Below w.heap.size w w' := by
  have hsz : (strB s).size = s.length := rfl
  have HO1 : Hid ((w.alloc (.cells #[.int .u8 ((34 : Nat) : Int)] 5)).ownsRow w.heap.size 5 1 (.slice (some ⟨w.heap.size, 0, none⟩) 1 1) [(34 : Nat).toUInt8].length (Lib.byteCells [(34 : Nat).toUInt8])) := own_fresh1 w 34 (by decide)
  have HB1 : Hid (Below w.heap.size w (w.alloc (.cells #[.int .u8 ((34 : Nat) : Int)] 5))) := (Below.refl _ w).alloc (Nat.le_refl _) _
  go_enter Tryd.func25, Tryd.ntmps25
  go_wp2
  go_loopw [3, 4] (fun vb vi wr => ∃ i : Nat, i ≤ s.length ∧ vi = .int .i64 i ∧ wr.ownsRow w.heap.size 5 1 vb (34 :: (s.take i).flatMap escB).length (Lib.byteCells (34 :: (s.take i).flatMap escB)) ∧ Below w.heap.size w wr) (fun _ vi _ => s.length - (intOf vi).toNat)
  case atStart => exact ⟨0, Nat.zero_le _, rfl, HO1.out, HB1.out⟩
  case round =>
    obtain ⟨i, hi, rfl, hown, hbw⟩ := hrel
    have hszw := hbw.size
    have HB : Hid (Below w.heap.size w wr) := hbw
    have hfl : (34 :: (s.take i).flatMap escB).length ≤ 2 * s.length + 1 := by
      have h9 := flat_len (s.take i)
      rw [List.length_take] at h9
      rw [List.length_cons]
      omega
    by_cases hlt : i < s.length
    · have hidx := fun wx => str_at wx s i hlt
      have HNX : Hid ((34 :: (s.take i).flatMap escB) ++ escB s[i] = 34 :: (s.take (i + 1)).flatMap escB) := by
        show _ = _
        rw [flat_take s i hlt]; rfl
      obtain ⟨us, hus⟩ : ∃ us, us = 34 :: (s.take i).flatMap escB := ⟨_, rfl⟩
      rw [← hus] at HNX hown hfl
      have HO : Hid (wr.ownsRow w.heap.size 5 1 u3 us.length (Lib.byteCells us)) := hown
      have hes : escB s[i] = if (s[i]).toNat = 92 then [92, 92] else if (s[i]).toNat = 34 then [92, 34] else if (s[i]).toNat = 10 then [92, 110] else [s[i]] := rfl
      obtain ⟨x, hx⟩ : ∃ x, x = s[i] := ⟨_, rfl⟩
      rw [← hx] at hes HNX hidx
      obtain ⟨n, hn⟩ : ∃ n, n = x.toNat := ⟨_, rfl⟩
      rw [← hn] at hes hidx
      have hn256 : n < 256 := by rw [hn]; exact UInt8.toNat_lt x
      have hxn : x = n.toUInt8 := by rw [hn]; exact (toUInt8_of x).symm
      clear hown hbw hus hx hn
      by_cases h92 : n = 92
      · have HES : Hid (escB x = [(92 : Nat).toUInt8, (92 : Nat).toUInt8]) := hes.trans (if_pos h92)
        clear hes
        subst h92
        go_wp2_with (at_builtin; refine append_bytes rfl _ _ rfl w.heap.size _ us rfl (HO.out.alloc _) _ [(92 : Nat).toUInt8, (92 : Nat).toUInt8] rfl (bytesAt_two (by omega) (by omega) (by simp) (by simp)) (by simp; omega) (by simp; omega) ?_; intro v3 w3 hown3 hgrow)
        have HB3 : Hid (Below w.heap.size w w3) := (HB.out.alloc hszw _).grown hgrow (by simp; omega) (fun q hq => (HO.out.lt q hq).1)
        refine ⟨⟨i + 1, by omega, by go_num, ?_, HB3.out⟩, by simp [intOf]; omega⟩
        rw [← HNX.out, HES.out]
        exact hown3
      · have h92b : ((n : Int) == 92) = false := by rw [beq_eq_false_iff_ne]; omega
        rw [if_neg h92] at hes
        by_cases h34 : n = 34
        · have HES : Hid (escB x = [(92 : Nat).toUInt8, (34 : Nat).toUInt8]) := hes.trans (if_pos h34)
          clear hes
          subst h34
          go_wp2_with (at_builtin; refine append_bytes rfl _ _ rfl w.heap.size _ us rfl (HO.out.alloc _) _ [(92 : Nat).toUInt8, (34 : Nat).toUInt8] rfl (bytesAt_two (by omega) (by omega) (by simp) (by simp)) (by simp; omega) (by simp; omega) ?_; intro v3 w3 hown3 hgrow)
          have HB3 : Hid (Below w.heap.size w w3) := (HB.out.alloc hszw _).grown hgrow (by simp; omega) (fun q hq => (HO.out.lt q hq).1)
          refine ⟨⟨i + 1, by omega, by go_num, ?_, HB3.out⟩, by simp [intOf]; omega⟩
          rw [← HNX.out, HES.out]
          exact hown3
        · have h34b : ((n : Int) == 34) = false := by rw [beq_eq_false_iff_ne]; omega
          rw [if_neg h34] at hes
          by_cases h10 : n = 10
          · have HES : Hid (escB x = [(92 : Nat).toUInt8, (110 : Nat).toUInt8]) := hes.trans (if_pos h10)
            clear hes
            subst h10
            go_wp2_with (at_builtin; refine append_bytes rfl _ _ rfl w.heap.size _ us rfl (HO.out.alloc _) _ [(92 : Nat).toUInt8, (110 : Nat).toUInt8] rfl (bytesAt_two (by omega) (by omega) (by simp) (by simp)) (by simp; omega) (by simp; omega) ?_; intro v3 w3 hown3 hgrow)
            have HB3 : Hid (Below w.heap.size w w3) := (HB.out.alloc hszw _).grown hgrow (by simp; omega) (fun q hq => (HO.out.lt q hq).1)
            refine ⟨⟨i + 1, by omega, by go_num, ?_, HB3.out⟩, by simp [intOf]; omega⟩
            rw [← HNX.out, HES.out]
            exact hown3
          · have h10b : ((n : Int) == 10) = false := by rw [beq_eq_false_iff_ne]; omega
            rw [if_neg h10] at hes
            have HES : Hid (escB x = [n.toUInt8]) := show _ = _ by rw [hes, ← hxn]
            clear hes hxn
            go_wp2_with (at_builtin; refine append_bytes rfl _ _ rfl w.heap.size _ us rfl (HO.out.alloc _) _ [n.toUInt8] rfl (bytesAt_one (by omega) (by simp)) (by simp; omega) (by simp; omega) ?_; intro v3 w3 hown3 hgrow)
            have HB3 : Hid (Below w.heap.size w w3) := (HB.out.alloc hszw _).grown hgrow (by simp; omega) (fun q hq => (HO.out.lt q hq).1)
            refine ⟨⟨i + 1, by omega, by go_num, ?_, HB3.out⟩, by simp [intOf]; omega⟩
            rw [← HNX.out, HES.out]
            exact hown3
    · obtain rfl : i = s.length := by omega
      have hi2 : ¬ (s.length : Int) < s.length := by omega
      have HQ : Hid (quoteB s = (34 :: (s.take s.length).flatMap escB) ++ [(34 : Nat).toUInt8]) := by
        show _ = _
        rw [List.take_length]; rfl
      obtain ⟨us, hus⟩ : ∃ us, us = 34 :: (s.take s.length).flatMap escB := ⟨_, rfl⟩
      rw [← hus] at HQ hown hfl
      have HO : Hid (wr.ownsRow w.heap.size 5 1 u3 us.length (Lib.byteCells us)) := hown
      clear hus hown hbw
      go_wp2_with (at_builtin; refine append_bytes rfl _ _ rfl w.heap.size _ us rfl (HO.out.alloc _) _ [(34 : Nat).toUInt8] rfl (bytesAt_one (by decide) (by simp)) (by simp; omega) (by simp; omega) ?_; intro v3 w3 hown3 hgrow; obtain ⟨b3, cap3, rfl, hrow3, -, -, -⟩ := own_row hown3; have hcv := conv_row w3 b3 _ cap3 hrow3; rw [show (us ++ [(34 : Nat).toUInt8]).length = us.length + 1 by simp] at hcv ⊢)
      have HB3 : Hid (Below w.heap.size w w3) := (HB.out.alloc hszw _).grown hgrow (by simp; omega) (fun q hq => (HO.out.lt q hq).1)
      clear hrow3 hown3 hgrow
      go_ret
      rw [HQ.out]
      exact ⟨rfl, HB3.out⟩

/-- What is told of a token's text. -/
def ttV (R : List UInt8 × Nat) : Value := .tuple #[.string (strB R.1), .int .i64 R.2]

set_option maxHeartbeats 4000000 in
set_option maxRecDepth 100000 in
theorem refText_other (k n a b : Int) (s : List UInt8) (w : World) (_hn0 : -9223372036854775808 ≤ n) (_hn1 : n ≤ 9223372036854775807) (hl : s.length ≤ 100000000) (h0 : k ≠ 0) (h1 : k ≠ 1) (h2 : k ≠ 2) (h3 : k ≠ 3) (h4 : k ≠ 4) (h5 : k ≠ 5) :
    Calls Tryd.prog 12 #[.agg #[.int .i64 k, .string (strB s), .int .i64 n, .int .i64 a, .int .i64 b]] w fun e w' => e = .returned (ttV (refT k n s)) ∧ Below w.heap.size w w' := by
  obtain ⟨W, hW⟩ : ∃ W, W = w.alloc (.cells #[.int .i64 k, .string (strB s), .int .i64 n, .int .i64 a, .int .i64 b] 33) := ⟨_, rfl⟩
  have hz : w.heap.size < W.heap.size := by rw [hW]; simp
  have HBW : Hid (Below w.heap.size w W) := by show Below _ _ _; rw [hW]; exact (Below.refl _ w).alloc (Nat.le_refl _) _
  have q0 : W.cell? ⟨w.heap.size, 0, none⟩ = some (.int .i64 k) := by rw [hW]; simp
  have q1 : W.cell? ⟨w.heap.size, 1, none⟩ = some (.string (strB s)) := by rw [hW]; simp
  have q2 : W.cell? ⟨w.heap.size, 2, none⟩ = some (.int .i64 n) := by rw [hW]; simp
  have cx0 := cls_cell (n := W.heap.size) q0 hz
  have cx1 := cls_cell (n := W.heap.size) q1 hz
  have cx2 := cls_cell (n := W.heap.size) q2 hz
  have HNm : Hid (∀ wx, Below W.heap.size W wx → Calls Tryd.prog 20 #[.string (strB s)] wx fun e w'' => e = .returned (.bool (nameQ s)) ∧ Below W.heap.size W w'') := fun wx h => (refName_any s wx hl).mono (fun e w' ⟨he, hb⟩ => ⟨he, h.trans (hb.mono h.size)⟩)
  have HWd : Hid (∀ wx, Below W.heap.size W wx → Calls Tryd.prog 14 #[.string (strB s)] wx fun e w'' => e = .returned (.bool (isWord s)) ∧ Below W.heap.size W w'') := fun wx h => (refWord_any s wx).mono (fun e w' ⟨he, hb⟩ => ⟨he, h.trans (hb.mono h.size)⟩)
  have HR : Hid (refT k n s = ([], 2)) := by
    show _ = _
    unfold refT
    rw [if_neg (fun h => h0 h.1), if_neg (fun h => by rcases h with h | h | h; exact h1 h.1; exact h4 h.1; exact h5 h.1), if_neg (fun h => h2 h.1), if_neg (fun h => h3 h.1)]
  have b0 : (k == 0) = false := by rw [beq_eq_false_iff_ne]; exact h0
  have b1 : (k == 1) = false := by rw [beq_eq_false_iff_ne]; exact h1
  have b2 : (k == 2) = false := by rw [beq_eq_false_iff_ne]; exact h2
  have b3 : (k == 3) = false := by rw [beq_eq_false_iff_ne]; exact h3
  have b4 : (k == 4) = false := by rw [beq_eq_false_iff_ne]; exact h4
  have b5 : (k == 5) = false := by rw [beq_eq_false_iff_ne]; exact h5
  go_enter Tryd.func12, Tryd.ntmps12
  go_wp2_with fail
  rw [← hW]
  refine wp_region_cls (n := W.heap.size) (w0 := W) (Below.refl _ _) (by kernel_rfl) (by kernel_rfl) ?_
  repeat (go_big_quiet_step (first | exact cls_calls HNm.out _ | exact cls_calls HWd.out _))
  refine wpQuiet_nil ?_
  rintro _ ⟨c, rfl⟩
  have d0 := cx0 c
  have d1 := cx1 c
  have d2 := cx2 c
  have HBc : Hid (Below w.heap.size w c.1) := HBW.out.trans (c.2.mono HBW.out.size)
  clear cx0 cx1 cx2 q0 q1 q2 hW

  go_wp2
  go_ret2
  rw [HR.out]
  exact ⟨rfl, HBc.out⟩

set_option maxHeartbeats 4000000 in
set_option maxRecDepth 100000 in
theorem refText_zero (k n a b : Int) (s : List UInt8) (w : World) (hn0 : -9223372036854775808 ≤ n) (hn1 : n ≤ 9223372036854775807) (hl : s.length ≤ 100000000) (hk : k = 0) :
    Calls Tryd.prog 12 #[.agg #[.int .i64 k, .string (strB s), .int .i64 n, .int .i64 a, .int .i64 b]] w fun e w' => e = .returned (ttV (refT k n s)) ∧ Below w.heap.size w w' := by
  obtain ⟨W, hW⟩ : ∃ W, W = w.alloc (.cells #[.int .i64 k, .string (strB s), .int .i64 n, .int .i64 a, .int .i64 b] 33) := ⟨_, rfl⟩
  have hz : w.heap.size < W.heap.size := by rw [hW]; simp
  have HBW : Hid (Below w.heap.size w W) := by show Below _ _ _; rw [hW]; exact (Below.refl _ w).alloc (Nat.le_refl _) _
  have q0 : W.cell? ⟨w.heap.size, 0, none⟩ = some (.int .i64 k) := by rw [hW]; simp
  have q1 : W.cell? ⟨w.heap.size, 1, none⟩ = some (.string (strB s)) := by rw [hW]; simp
  have q2 : W.cell? ⟨w.heap.size, 2, none⟩ = some (.int .i64 n) := by rw [hW]; simp
  have cx0 := cls_cell (n := W.heap.size) q0 hz
  have cx1 := cls_cell (n := W.heap.size) q1 hz
  have cx2 := cls_cell (n := W.heap.size) q2 hz
  have HNm : Hid (∀ wx, Below W.heap.size W wx → Calls Tryd.prog 20 #[.string (strB s)] wx fun e w'' => e = .returned (.bool (nameQ s)) ∧ Below W.heap.size W w'') := fun wx h => (refName_any s wx hl).mono (fun e w' ⟨he, hb⟩ => ⟨he, h.trans (hb.mono h.size)⟩)
  have HWd : Hid (∀ wx, Below W.heap.size W wx → Calls Tryd.prog 14 #[.string (strB s)] wx fun e w'' => e = .returned (.bool (isWord s)) ∧ Below W.heap.size W w'') := fun wx h => (refWord_any s wx).mono (fun e w' ⟨he, hb⟩ => ⟨he, h.trans (hb.mono h.size)⟩)
  subst hk
  cases s with
  | nil =>
    by_cases h0 : n = 0
    · have HR : Hid (refT 0 n [] = ([], 0)) := if_pos ⟨rfl, rfl, h0⟩
      subst h0
      have HBc : Hid (Below w.heap.size w (w.alloc (.cells #[.int .i64 0, .string (strB []), .int .i64 0, .int .i64 a, .int .i64 b] 33))) := by show Below _ _ _; rw [← hW]; exact HBW.out
      clear cx0 cx1 cx2 q0 q1 q2 hW
      go_enter Tryd.func12, Tryd.ntmps12
      go_wp2
      go_ret2
      rw [HR.out]
      exact ⟨rfl, HBc.out⟩
    · have HR : Hid (refT 0 n [] = ([], 2)) := by
        show _ = _
        unfold refT
        rw [if_neg (fun h => h0 h.2.2), if_neg (by omega), if_neg (by omega), if_neg (by omega)]
      have b0 : (n == 0) = false := by rw [beq_eq_false_iff_ne]; exact h0
      go_enter Tryd.func12, Tryd.ntmps12
      go_wp2_with fail
      rw [← hW]
      refine wp_region_cls (n := W.heap.size) (w0 := W) (Below.refl _ _) (by kernel_rfl) (by kernel_rfl) ?_
      repeat (go_big_quiet_step (first | exact cls_calls HNm.out _ | exact cls_calls HWd.out _))
      refine wpQuiet_nil ?_
      rintro _ ⟨c, rfl⟩
      have d0 := cx0 c
      have d1 := cx1 c
      have d2 := cx2 c
      have HBc : Hid (Below w.heap.size w c.1) := HBW.out.trans (c.2.mono HBW.out.size)
      clear cx0 cx1 cx2 q0 q1 q2 hW

      go_wp2
      go_ret2
      rw [HR.out]
      exact ⟨rfl, HBc.out⟩
  | cons x r =>
    have HR : Hid (refT 0 n (x :: r) = ([], 2)) := by
      show _ = _
      unfold refT
      rw [if_neg (fun h => by cases h.2.1), if_neg (by omega), if_neg (by omega), if_neg (by omega)]
    have hne : ¬ (x :: r) = [] := by simp
    go_enter Tryd.func12, Tryd.ntmps12
    go_wp2_with fail
    rw [← hW]
    refine wp_region_cls (n := W.heap.size) (w0 := W) (Below.refl _ _) (by kernel_rfl) (by kernel_rfl) ?_
    repeat (go_big_quiet_step (first | exact cls_calls HNm.out _ | exact cls_calls HWd.out _))
    refine wpQuiet_nil ?_
    rintro _ ⟨c, rfl⟩
    have d0 := cx0 c
    have d1 := cx1 c
    have d2 := cx2 c
    have HBc : Hid (Below w.heap.size w c.1) := HBW.out.trans (c.2.mono HBW.out.size)
    clear cx0 cx1 cx2 q0 q1 q2 hW

    go_wp2
    go_ret2
    rw [HR.out]
    exact ⟨rfl, HBc.out⟩

set_option maxHeartbeats 4000000 in
set_option maxRecDepth 100000 in
theorem refText_name (k n a b : Int) (s : List UInt8) (w : World) (hn0 : -9223372036854775808 ≤ n) (hn1 : n ≤ 9223372036854775807) (hl : s.length ≤ 100000000) (hk : k = 1) :
    Calls Tryd.prog 12 #[.agg #[.int .i64 k, .string (strB s), .int .i64 n, .int .i64 a, .int .i64 b]] w fun e w' => e = .returned (ttV (refT k n s)) ∧ Below w.heap.size w w' := by
  obtain ⟨W, hW⟩ : ∃ W, W = w.alloc (.cells #[.int .i64 k, .string (strB s), .int .i64 n, .int .i64 a, .int .i64 b] 33) := ⟨_, rfl⟩
  have hz : w.heap.size < W.heap.size := by rw [hW]; simp
  have HBW : Hid (Below w.heap.size w W) := by show Below _ _ _; rw [hW]; exact (Below.refl _ w).alloc (Nat.le_refl _) _
  have q0 : W.cell? ⟨w.heap.size, 0, none⟩ = some (.int .i64 k) := by rw [hW]; simp
  have q1 : W.cell? ⟨w.heap.size, 1, none⟩ = some (.string (strB s)) := by rw [hW]; simp
  have q2 : W.cell? ⟨w.heap.size, 2, none⟩ = some (.int .i64 n) := by rw [hW]; simp
  have cx0 := cls_cell (n := W.heap.size) q0 hz
  have cx1 := cls_cell (n := W.heap.size) q1 hz
  have cx2 := cls_cell (n := W.heap.size) q2 hz
  have HNm : Hid (∀ wx, Below W.heap.size W wx → Calls Tryd.prog 20 #[.string (strB s)] wx fun e w'' => e = .returned (.bool (nameQ s)) ∧ Below W.heap.size W w'') := fun wx h => (refName_any s wx hl).mono (fun e w' ⟨he, hb⟩ => ⟨he, h.trans (hb.mono h.size)⟩)
  have HWd : Hid (∀ wx, Below W.heap.size W wx → Calls Tryd.prog 14 #[.string (strB s)] wx fun e w'' => e = .returned (.bool (isWord s)) ∧ Below W.heap.size W w'') := fun wx h => (refWord_any s wx).mono (fun e w' ⟨he, hb⟩ => ⟨he, h.trans (hb.mono h.size)⟩)
  subst hk
  cases hq : nameQ s with
  | false =>
    have HR : Hid (refT 1 n s = ([], 2)) := by
      show _ = _
      unfold refT
      rw [if_neg (by omega), if_neg (fun h => by rcases h with h | h | h <;> first | (have := h.2.1; rw [hq] at this; cases this) | (have := h.1; omega)), if_neg (by omega), if_neg (by omega)]
    rw [hq] at HNm
    go_enter Tryd.func12, Tryd.ntmps12
    go_wp2_with fail
    rw [← hW]
    refine wp_region_cls (n := W.heap.size) (w0 := W) (Below.refl _ _) (by kernel_rfl) (by kernel_rfl) ?_
    repeat (go_big_quiet_step (first | exact cls_calls HNm.out _ | exact cls_calls HWd.out _))
    refine wpQuiet_nil ?_
    rintro _ ⟨c, rfl⟩
    have d0 := cx0 c
    have d1 := cx1 c
    have d2 := cx2 c
    have HBc : Hid (Below w.heap.size w c.1) := HBW.out.trans (c.2.mono HBW.out.size)
    clear cx0 cx1 cx2 q0 q1 q2 hW

    go_wp2
    go_ret2
    rw [HR.out]
    exact ⟨rfl, HBc.out⟩
  | true =>
    rw [hq] at HNm
    by_cases h0 : n = 0
    · have HR : Hid (refT 1 n s = (s, 0)) := by
        show _ = _
        unfold refT
        rw [if_neg (by omega), if_pos (.inl ⟨rfl, hq, h0⟩)]
      subst h0
      go_enter Tryd.func12, Tryd.ntmps12
      go_wp2_with fail
      rw [← hW]
      refine wp_region_cls (n := W.heap.size) (w0 := W) (Below.refl _ _) (by kernel_rfl) (by kernel_rfl) ?_
      repeat (go_big_quiet_step (first | exact cls_calls HNm.out _ | exact cls_calls HWd.out _))
      refine wpQuiet_nil ?_
      rintro _ ⟨c, rfl⟩
      have d0 := cx0 c
      have d1 := cx1 c
      have d2 := cx2 c
      have HBc : Hid (Below w.heap.size w c.1) := HBW.out.trans (c.2.mono HBW.out.size)
      clear cx0 cx1 cx2 q0 q1 q2 hW

      go_wp2
      go_ret2
      rw [HR.out]
      exact ⟨rfl, HBc.out⟩
    · have HR : Hid (refT 1 n s = ([], 2)) := by
        show _ = _
        unfold refT
        rw [if_neg (by omega), if_neg (fun h => by rcases h with h | h | h <;> exact h0 h.2.2), if_neg (by omega), if_neg (by omega)]
      have b0 : (n == 0) = false := by rw [beq_eq_false_iff_ne]; exact h0
      go_enter Tryd.func12, Tryd.ntmps12
      go_wp2_with fail
      rw [← hW]
      refine wp_region_cls (n := W.heap.size) (w0 := W) (Below.refl _ _) (by kernel_rfl) (by kernel_rfl) ?_
      repeat (go_big_quiet_step (first | exact cls_calls HNm.out _ | exact cls_calls HWd.out _))
      refine wpQuiet_nil ?_
      rintro _ ⟨c, rfl⟩
      have d0 := cx0 c
      have d1 := cx1 c
      have d2 := cx2 c
      have HBc : Hid (Below w.heap.size w c.1) := HBW.out.trans (c.2.mono HBW.out.size)
      clear cx0 cx1 cx2 q0 q1 q2 hW

      go_wp2
      go_ret2
      rw [HR.out]
      exact ⟨rfl, HBc.out⟩

set_option maxHeartbeats 4000000 in
set_option maxRecDepth 100000 in
theorem refText_word (k n a b : Int) (s : List UInt8) (w : World) (hn0 : -9223372036854775808 ≤ n) (hn1 : n ≤ 9223372036854775807) (hl : s.length ≤ 100000000) (hk : k = 5) :
    Calls Tryd.prog 12 #[.agg #[.int .i64 k, .string (strB s), .int .i64 n, .int .i64 a, .int .i64 b]] w fun e w' => e = .returned (ttV (refT k n s)) ∧ Below w.heap.size w w' := by
  obtain ⟨W, hW⟩ : ∃ W, W = w.alloc (.cells #[.int .i64 k, .string (strB s), .int .i64 n, .int .i64 a, .int .i64 b] 33) := ⟨_, rfl⟩
  have hz : w.heap.size < W.heap.size := by rw [hW]; simp
  have HBW : Hid (Below w.heap.size w W) := by show Below _ _ _; rw [hW]; exact (Below.refl _ w).alloc (Nat.le_refl _) _
  have q0 : W.cell? ⟨w.heap.size, 0, none⟩ = some (.int .i64 k) := by rw [hW]; simp
  have q1 : W.cell? ⟨w.heap.size, 1, none⟩ = some (.string (strB s)) := by rw [hW]; simp
  have q2 : W.cell? ⟨w.heap.size, 2, none⟩ = some (.int .i64 n) := by rw [hW]; simp
  have cx0 := cls_cell (n := W.heap.size) q0 hz
  have cx1 := cls_cell (n := W.heap.size) q1 hz
  have cx2 := cls_cell (n := W.heap.size) q2 hz
  have HNm : Hid (∀ wx, Below W.heap.size W wx → Calls Tryd.prog 20 #[.string (strB s)] wx fun e w'' => e = .returned (.bool (nameQ s)) ∧ Below W.heap.size W w'') := fun wx h => (refName_any s wx hl).mono (fun e w' ⟨he, hb⟩ => ⟨he, h.trans (hb.mono h.size)⟩)
  have HWd : Hid (∀ wx, Below W.heap.size W wx → Calls Tryd.prog 14 #[.string (strB s)] wx fun e w'' => e = .returned (.bool (isWord s)) ∧ Below W.heap.size W w'') := fun wx h => (refWord_any s wx).mono (fun e w' ⟨he, hb⟩ => ⟨he, h.trans (hb.mono h.size)⟩)
  subst hk
  cases hq : isWord s with
  | false =>
    have HR : Hid (refT 5 n s = ([], 2)) := by
      show _ = _
      unfold refT
      rw [if_neg (by omega), if_neg (fun h => by rcases h with h | h | h <;> first | (have := h.2.1; rw [hq] at this; cases this) | (have := h.1; omega)), if_neg (by omega), if_neg (by omega)]
    rw [hq] at HWd
    go_enter Tryd.func12, Tryd.ntmps12
    go_wp2_with fail
    rw [← hW]
    refine wp_region_cls (n := W.heap.size) (w0 := W) (Below.refl _ _) (by kernel_rfl) (by kernel_rfl) ?_
    repeat (go_big_quiet_step (first | exact cls_calls HNm.out _ | exact cls_calls HWd.out _))
    refine wpQuiet_nil ?_
    rintro _ ⟨c, rfl⟩
    have d0 := cx0 c
    have d1 := cx1 c
    have d2 := cx2 c
    have HBc : Hid (Below w.heap.size w c.1) := HBW.out.trans (c.2.mono HBW.out.size)
    clear cx0 cx1 cx2 q0 q1 q2 hW

    go_wp2
    go_ret2
    rw [HR.out]
    exact ⟨rfl, HBc.out⟩
  | true =>
    rw [hq] at HWd
    by_cases h0 : n = 0
    · have HR : Hid (refT 5 n s = (s, 0)) := by
        show _ = _
        unfold refT
        rw [if_neg (by omega), if_pos (.inr <| .inr ⟨rfl, hq, h0⟩)]
      subst h0
      go_enter Tryd.func12, Tryd.ntmps12
      go_wp2_with fail
      rw [← hW]
      refine wp_region_cls (n := W.heap.size) (w0 := W) (Below.refl _ _) (by kernel_rfl) (by kernel_rfl) ?_
      repeat (go_big_quiet_step (first | exact cls_calls HNm.out _ | exact cls_calls HWd.out _))
      refine wpQuiet_nil ?_
      rintro _ ⟨c, rfl⟩
      have d0 := cx0 c
      have d1 := cx1 c
      have d2 := cx2 c
      have HBc : Hid (Below w.heap.size w c.1) := HBW.out.trans (c.2.mono HBW.out.size)
      clear cx0 cx1 cx2 q0 q1 q2 hW

      go_wp2
      go_ret2
      rw [HR.out]
      exact ⟨rfl, HBc.out⟩
    · have HR : Hid (refT 5 n s = ([], 2)) := by
        show _ = _
        unfold refT
        rw [if_neg (by omega), if_neg (fun h => by rcases h with h | h | h <;> exact h0 h.2.2), if_neg (by omega), if_neg (by omega)]
      have b0 : (n == 0) = false := by rw [beq_eq_false_iff_ne]; exact h0
      go_enter Tryd.func12, Tryd.ntmps12
      go_wp2_with fail
      rw [← hW]
      refine wp_region_cls (n := W.heap.size) (w0 := W) (Below.refl _ _) (by kernel_rfl) (by kernel_rfl) ?_
      repeat (go_big_quiet_step (first | exact cls_calls HNm.out _ | exact cls_calls HWd.out _))
      refine wpQuiet_nil ?_
      rintro _ ⟨c, rfl⟩
      have d0 := cx0 c
      have d1 := cx1 c
      have d2 := cx2 c
      have HBc : Hid (Below w.heap.size w c.1) := HBW.out.trans (c.2.mono HBW.out.size)
      clear cx0 cx1 cx2 q0 q1 q2 hW

      go_wp2
      go_ret2
      rw [HR.out]
      exact ⟨rfl, HBc.out⟩

set_option maxHeartbeats 4000000 in
set_option maxRecDepth 100000 in
theorem refText_num (k n a b : Int) (s : List UInt8) (w : World) (hn0 : -9223372036854775808 ≤ n) (hn1 : n ≤ 9223372036854775807) (hl : s.length ≤ 100000000) (hk : k = 2) :
    Calls Tryd.prog 12 #[.agg #[.int .i64 k, .string (strB s), .int .i64 n, .int .i64 a, .int .i64 b]] w fun e w' => e = .returned (ttV (refT k n s)) ∧ Below w.heap.size w w' := by
  obtain ⟨W, hW⟩ : ∃ W, W = w.alloc (.cells #[.int .i64 k, .string (strB s), .int .i64 n, .int .i64 a, .int .i64 b] 33) := ⟨_, rfl⟩
  have hz : w.heap.size < W.heap.size := by rw [hW]; simp
  have HBW : Hid (Below w.heap.size w W) := by show Below _ _ _; rw [hW]; exact (Below.refl _ w).alloc (Nat.le_refl _) _
  have q0 : W.cell? ⟨w.heap.size, 0, none⟩ = some (.int .i64 k) := by rw [hW]; simp
  have q1 : W.cell? ⟨w.heap.size, 1, none⟩ = some (.string (strB s)) := by rw [hW]; simp
  have q2 : W.cell? ⟨w.heap.size, 2, none⟩ = some (.int .i64 n) := by rw [hW]; simp
  have cx0 := cls_cell (n := W.heap.size) q0 hz
  have cx1 := cls_cell (n := W.heap.size) q1 hz
  have cx2 := cls_cell (n := W.heap.size) q2 hz
  have HNm : Hid (∀ wx, Below W.heap.size W wx → Calls Tryd.prog 20 #[.string (strB s)] wx fun e w'' => e = .returned (.bool (nameQ s)) ∧ Below W.heap.size W w'') := fun wx h => (refName_any s wx hl).mono (fun e w' ⟨he, hb⟩ => ⟨he, h.trans (hb.mono h.size)⟩)
  have HWd : Hid (∀ wx, Below W.heap.size W wx → Calls Tryd.prog 14 #[.string (strB s)] wx fun e w'' => e = .returned (.bool (isWord s)) ∧ Below W.heap.size W w'') := fun wx h => (refWord_any s wx).mono (fun e w' ⟨he, hb⟩ => ⟨he, h.trans (hb.mono h.size)⟩)
  subst hk
  cases s with
  | cons x r =>
    have HR : Hid (refT 2 n (x :: r) = ([], 2)) := by
      show _ = _
      unfold refT
      rw [if_neg (by omega), if_neg (by omega), if_neg (fun h => by cases h.2.1), if_neg (by omega)]
    have hne : ¬ (x :: r) = [] := by simp
    go_enter Tryd.func12, Tryd.ntmps12
    go_wp2_with fail
    rw [← hW]
    refine wp_region_cls (n := W.heap.size) (w0 := W) (Below.refl _ _) (by kernel_rfl) (by kernel_rfl) ?_
    repeat (go_big_quiet_step (first | exact cls_calls HNm.out _ | exact cls_calls HWd.out _))
    refine wpQuiet_nil ?_
    rintro _ ⟨c, rfl⟩
    have d0 := cx0 c
    have d1 := cx1 c
    have d2 := cx2 c
    have HBc : Hid (Below w.heap.size w c.1) := HBW.out.trans (c.2.mono HBW.out.size)
    clear cx0 cx1 cx2 q0 q1 q2 hW

    go_wp2
    go_ret2
    rw [HR.out]
    exact ⟨rfl, HBc.out⟩
  | nil =>
    by_cases h0 : 0 ≤ n
    · have HR : Hid (refT 2 n [] = (Lib.decDigits n.toNat, 0)) := by
        show _ = _
        unfold refT
        rw [if_neg (by omega), if_neg (by omega), if_pos ⟨rfl, rfl, h0⟩]
      obtain ⟨m, rfl⟩ : ∃ m : Nat, n = m := ⟨n.toNat, by omega⟩
      rw [Int.toNat_natCast] at HR
      have cd := fun wx => refDigits_any m wx (by omega)
      go_enter Tryd.func12, Tryd.ntmps12
      go_wp2_with fail
      rw [← hW]
      refine wp_region_cls (n := W.heap.size) (w0 := W) (Below.refl _ _) (by kernel_rfl) (by kernel_rfl) ?_
      repeat (go_big_quiet_step (first | exact cls_calls HNm.out _ | exact cls_calls HWd.out _))
      refine wpQuiet_nil ?_
      rintro _ ⟨c, rfl⟩
      have d0 := cx0 c
      have d1 := cx1 c
      have d2 := cx2 c
      have HBc : Hid (Below w.heap.size w c.1) := HBW.out.trans (c.2.mono HBW.out.size)
      clear cx0 cx1 cx2 q0 q1 q2 hW
      go_wp2_with fail
      refine (cd _).mono ?_
      clear cd
      rintro e w4 ⟨rfl, hb4⟩
      have HB4 : Hid (Below w.heap.size w w4) := HBc.out.trans (hb4.mono HBc.out.size)
      clear hb4
      go_wp2
      go_ret2
      rw [HR.out]
      exact ⟨rfl, HB4.out⟩
    · have HR : Hid (refT 2 n [] = ([], 2)) := by
        show _ = _
        unfold refT
        rw [if_neg (by omega), if_neg (by omega), if_neg (fun h => h0 h.2.2), if_neg (by omega)]
      go_enter Tryd.func12, Tryd.ntmps12
      go_wp2_with fail
      rw [← hW]
      refine wp_region_cls (n := W.heap.size) (w0 := W) (Below.refl _ _) (by kernel_rfl) (by kernel_rfl) ?_
      repeat (go_big_quiet_step (first | exact cls_calls HNm.out _ | exact cls_calls HWd.out _))
      refine wpQuiet_nil ?_
      rintro _ ⟨c, rfl⟩
      have d0 := cx0 c
      have d1 := cx1 c
      have d2 := cx2 c
      have HBc : Hid (Below w.heap.size w c.1) := HBW.out.trans (c.2.mono HBW.out.size)
      clear cx0 cx1 cx2 q0 q1 q2 hW

      go_wp2
      go_ret2
      rw [HR.out]
      exact ⟨rfl, HBc.out⟩

set_option maxHeartbeats 4000000 in
set_option maxRecDepth 100000 in
theorem refText_text (k n a b : Int) (s : List UInt8) (w : World) (hn0 : -9223372036854775808 ≤ n) (hn1 : n ≤ 9223372036854775807) (hl : s.length ≤ 100000000) (hk : k = 3) :
    Calls Tryd.prog 12 #[.agg #[.int .i64 k, .string (strB s), .int .i64 n, .int .i64 a, .int .i64 b]] w fun e w' => e = .returned (ttV (refT k n s)) ∧ Below w.heap.size w w' := by
  obtain ⟨W, hW⟩ : ∃ W, W = w.alloc (.cells #[.int .i64 k, .string (strB s), .int .i64 n, .int .i64 a, .int .i64 b] 33) := ⟨_, rfl⟩
  have hz : w.heap.size < W.heap.size := by rw [hW]; simp
  have HBW : Hid (Below w.heap.size w W) := by show Below _ _ _; rw [hW]; exact (Below.refl _ w).alloc (Nat.le_refl _) _
  have q0 : W.cell? ⟨w.heap.size, 0, none⟩ = some (.int .i64 k) := by rw [hW]; simp
  have q1 : W.cell? ⟨w.heap.size, 1, none⟩ = some (.string (strB s)) := by rw [hW]; simp
  have q2 : W.cell? ⟨w.heap.size, 2, none⟩ = some (.int .i64 n) := by rw [hW]; simp
  have cx0 := cls_cell (n := W.heap.size) q0 hz
  have cx1 := cls_cell (n := W.heap.size) q1 hz
  have cx2 := cls_cell (n := W.heap.size) q2 hz
  have HNm : Hid (∀ wx, Below W.heap.size W wx → Calls Tryd.prog 20 #[.string (strB s)] wx fun e w'' => e = .returned (.bool (nameQ s)) ∧ Below W.heap.size W w'') := fun wx h => (refName_any s wx hl).mono (fun e w' ⟨he, hb⟩ => ⟨he, h.trans (hb.mono h.size)⟩)
  have HWd : Hid (∀ wx, Below W.heap.size W wx → Calls Tryd.prog 14 #[.string (strB s)] wx fun e w'' => e = .returned (.bool (isWord s)) ∧ Below W.heap.size W w'') := fun wx h => (refWord_any s wx).mono (fun e w' ⟨he, hb⟩ => ⟨he, h.trans (hb.mono h.size)⟩)
  subst hk
  have cp := fun wx => refPlain_any s wx hl
  cases hq : plainQ s with
  | false =>
    have HR : Hid (refT 3 n s = ([], 2)) := by
      show _ = _
      unfold refT
      rw [if_neg (by omega), if_neg (by omega), if_neg (by omega), if_neg (fun h => by have := h.2.1; rw [hq] at this; cases this)]
    rw [hq] at cp
    go_enter Tryd.func12, Tryd.ntmps12
    go_wp2_with fail
    rw [← hW]
    refine wp_region_cls (n := W.heap.size) (w0 := W) (Below.refl _ _) (by kernel_rfl) (by kernel_rfl) ?_
    repeat (go_big_quiet_step (first | exact cls_calls HNm.out _ | exact cls_calls HWd.out _))
    refine wpQuiet_nil ?_
    rintro _ ⟨c, rfl⟩
    have d0 := cx0 c
    have d1 := cx1 c
    have d2 := cx2 c
    have HBc : Hid (Below w.heap.size w c.1) := HBW.out.trans (c.2.mono HBW.out.size)
    clear cx0 cx1 cx2 q0 q1 q2 hW
    go_wp2_with fail
    refine (cp _).mono ?_
    clear cp
    rintro e w4 ⟨rfl, rfl⟩
    go_wp2
    go_ret2
    rw [HR.out]
    exact ⟨rfl, HBc.out⟩
  | true =>
    rw [hq] at cp
    by_cases h0 : n = 0
    · have HR : Hid (refT 3 n s = (quoteB s, 0)) := by
        show _ = _
        unfold refT
        rw [if_neg (by omega), if_neg (by omega), if_neg (by omega), if_pos ⟨rfl, hq, h0⟩]
      have cq := fun wx => refQuote_any s wx hl
      subst h0
      go_enter Tryd.func12, Tryd.ntmps12
      go_wp2_with fail
      rw [← hW]
      refine wp_region_cls (n := W.heap.size) (w0 := W) (Below.refl _ _) (by kernel_rfl) (by kernel_rfl) ?_
      repeat (go_big_quiet_step (first | exact cls_calls HNm.out _ | exact cls_calls HWd.out _))
      refine wpQuiet_nil ?_
      rintro _ ⟨c, rfl⟩
      have d0 := cx0 c
      have d1 := cx1 c
      have d2 := cx2 c
      have HBc : Hid (Below w.heap.size w c.1) := HBW.out.trans (c.2.mono HBW.out.size)
      clear cx0 cx1 cx2 q0 q1 q2 hW
      go_wp2_with fail
      refine (cp _).mono ?_
      clear cp
      rintro e w4 ⟨rfl, rfl⟩
      go_wp2_with fail
      refine (cq _).mono ?_
      clear cq
      rintro e w4 ⟨rfl, hb4⟩
      have HB4 : Hid (Below w.heap.size w w4) := HBc.out.trans (hb4.mono HBc.out.size)
      clear hb4
      go_wp2
      go_ret2
      rw [HR.out]
      exact ⟨rfl, HB4.out⟩
    · have HR : Hid (refT 3 n s = ([], 2)) := by
        show _ = _
        unfold refT
        rw [if_neg (by omega), if_neg (by omega), if_neg (by omega), if_neg (fun h => h0 h.2.2)]
      have b0 : (n == 0) = false := by rw [beq_eq_false_iff_ne]; exact h0
      go_enter Tryd.func12, Tryd.ntmps12
      go_wp2_with fail
      rw [← hW]
      refine wp_region_cls (n := W.heap.size) (w0 := W) (Below.refl _ _) (by kernel_rfl) (by kernel_rfl) ?_
      repeat (go_big_quiet_step (first | exact cls_calls HNm.out _ | exact cls_calls HWd.out _))
      refine wpQuiet_nil ?_
      rintro _ ⟨c, rfl⟩
      have d0 := cx0 c
      have d1 := cx1 c
      have d2 := cx2 c
      have HBc : Hid (Below w.heap.size w c.1) := HBW.out.trans (c.2.mono HBW.out.size)
      clear cx0 cx1 cx2 q0 q1 q2 hW
      go_wp2_with fail
      refine (cp _).mono ?_
      clear cp
      rintro e w4 ⟨rfl, rfl⟩
      go_wp2
      go_ret2
      rw [HR.out]
      exact ⟨rfl, HBc.out⟩
end Go.Proofs.YtjhfkiighphepaaDoor
