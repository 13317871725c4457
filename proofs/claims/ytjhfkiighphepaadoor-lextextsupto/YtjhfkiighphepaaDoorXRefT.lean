/- The document's own functions of layer 3: digits, plain texts, names, a text as it is written. -/
import Derived.Test.YtjhfkiighphepaaDoorXTextMath2
import Derived.Deep.RegionHeld3
import Derived.Deep.RegionWith
namespace Go.Proofs.YtjhfkiighphepaaDoor
open Go.RowKit Go.Shelf

theorem dec_len (u : Nat) (hu : u ≤ 9223372036854775808) : (Lib.decDigits u).length ≤ 100 := by
  have h := wrB_len 2 (u : Int) []
  by_cases h9 : (u : Int) ≤ 9223372036854775807
  · have h8 := h (by omega) h9
    have e : wrB 2 (u : Int) [] = Lib.decDigits u := by
      show Lib.itoa (u : Int) = _
      unfold Lib.itoa
      rw [if_neg (by omega), Int.toNat_natCast]
    rw [e] at h8
    simp at h8
    omega
  · have e : u = 9223372036854775808 := by omega
    subst e
    rw [Lib.decDigits_length]
    decide +kernel

set_option maxRecDepth 100000 in
theorem conv_one (wx : World) (g c : Nat) (hc : c < 256) (h : wx.cell? ⟨g, 0, none⟩ = some (.int .u8 (c : Int))) : (convert 60 9 (.slice (some ⟨g, 0, none⟩) 1 1)).run Tryd.prog wx = .ok (.string (strB [c.toUInt8])) wx :=
  conv_row wx (some ⟨g, 0, none⟩) [c.toUInt8] 1 (bytesAt_row (bytesAt_one hc h)).2.1

set_option maxRecDepth 100000 in
set_option maxHeartbeats 1000000 in
theorem refDigits_any (n : Nat) : ∀ (w : World), n < 9223372036854775808 →
    Calls Tryd.prog 23 #[.int .i64 (n : Int)] w fun e w' => e = .returned (.string (strB (Lib.decDigits n))) ∧ Below w.heap.size w w' := by
  induction n using Nat.strongRecOn with
  | _ n ih =>
    intro w hn
    by_cases h : n < 10
    · obtain ⟨x, hx⟩ : ∃ x : UInt8, x = (n + 48).toUInt8 := ⟨_, rfl⟩
      have HD : Hid (Lib.decDigits n = [x]) := by
        show _ = _
        rw [Lib.decDigits, dif_pos h, Nat.add_comm, hx]
      have hcv := conv_one (w.alloc (.cells #[.int .u8 ((n : Int) + 48)] 5)) w.heap.size (n + 48) (by omega) (by simp)
      rw [← hx] at hcv
      have e9 : (48 : Int) + n = n + 48 := by omega
      clear ih hx
      go_enter Tryd.func23, Tryd.ntmps23
      go_wp2
      go_ret
      rw [HD.out]
      exact ⟨rfl, (Below.refl _ w).alloc (Nat.le_refl _) _⟩
    · obtain ⟨q, hq⟩ : ∃ q, q = n / 10 := ⟨_, rfl⟩
      obtain ⟨d, hd⟩ : ∃ d, d = n % 10 := ⟨_, rfl⟩
      obtain ⟨x, hx⟩ : ∃ x : UInt8, x = (d + 48).toUInt8 := ⟨_, rfl⟩
      have HD : Hid (Lib.decDigits n = Lib.decDigits q ++ [x]) := by
        show _ = _
        rw [Lib.decDigits, dif_neg h, ← hq, ← hd, Nat.add_comm, hx]
      have hd10 : d < 10 := by omega
      have hqb : q < 922337203685477581 := by omega
      have cq := fun wx => ih q (by omega) wx (by omega)
      have hql := dec_len q (by omega)
      obtain ⟨y, hy⟩ : ∃ y, y = Lib.decDigits q := ⟨_, rfl⟩
      rw [← hy] at cq HD hql
      have hys : (strB y).size = y.length := rfl
      have hcv : ∀ (wx : World) (g : Nat), wx.cell? ⟨g, 0, none⟩ = some (.int .u8 ((d : Int) + 48)) → (convert 60 9 (.slice (some ⟨g, 0, none⟩) 1 1)).run Tryd.prog wx = .ok (.string (strB [x])) wx := fun wx g hc => by
        rw [hx]; exact conv_one wx g (d + 48) (by omega) (by rw [hc]; rfl)
      have e1 : (n : Int).tdiv 10 = q := by rw [Int.tdiv_eq_ediv_of_nonneg (by omega)]; omega
      have e2 : (n : Int).tmod 10 = d := by rw [Int.tmod_eq_emod_of_nonneg (by omega)]; omega
      have e3 : (n : Int) / 10 = q := by omega
      have e4 : (n : Int) % 10 = d := by omega
      have e9 : (48 : Int) + d = d + 48 := by omega
      have h10 : ¬ (n : Int) < 10 := by omega
      have hwq : IntKind.i64.wrap (q : Int) = q := by rw [IntKind.wrap_i64]; omega
      have hwd : IntKind.i64.wrap (d : Int) = d := by rw [IntKind.wrap_i64]; omega
      have hw1 : IntKind.i64.wrap ((d : Int) + 48) = d + 48 := by rw [IntKind.wrap_i64]; omega
      have hw2 : IntKind.u8.wrap ((d : Int) + 48) = d + 48 := by rw [IntKind.wrap_u8]; omega
      have hcat : strB y ++ strB [x] = strB (y ++ [x]) := strB_append y [x]
      clear ih hx hy hq hd
      go_enter Tryd.func23, Tryd.ntmps23
      go_wp2_with fail
      go_region_with (go_at_call 23; refine (cq _).mono ?_; rintro e w2 ⟨rfl, hb2⟩; have hc2 := fun hlt => below_cell (j := 0) (g := w.heap.size) hb2 hlt)
      all_goals go_wp2
      all_goals go_ret
      all_goals rw [HD.out]
      all_goals first
        | exact ⟨rfl, (((Below.refl w.heap.size w).drew).trans hb2).alloc hb2.size _⟩
        | exact ⟨rfl, (((Below.refl w.heap.size w).alloc (Nat.le_refl _) _).drew).trans (hb2.mono (by simp))⟩
        | exact ⟨rfl, (((Below.refl w.heap.size w).drew).alloc (Nat.le_refl _) _).trans (hb2.mono (by simp))⟩

set_option maxRecDepth 100000 in
set_option maxHeartbeats 2000000 in
theorem refPlain_any (s : List UInt8) (w : World) (hl : s.length ≤ 100000000) :
    Calls Tryd.prog 24 #[.string (strB s)] w fun e w' => e = .returned (.bool (plainQ s)) ∧ w = w' := by
  have hsz : (strB s).size = s.length := rfl
  go_enter Tryd.func24, Tryd.ntmps24
  go_wp2
  go_loop [3] (fun v => ∃ i : Nat, i ≤ s.length ∧ v = .int .i64 i ∧ (s.take i).all okC = true) (fun v => s.length - (intOf v).toNat)
  case atStart => exact ⟨0, Nat.zero_le _, rfl, rfl⟩
  case round =>
    obtain ⟨i, hi, rfl, hall⟩ := hrel
    have HA : Hid ((s.take i).all okC = true) := hall
    clear hall
    by_cases hlt : i < s.length
    · have hidx := fun wx => str_at wx s i hlt
      obtain ⟨c, hc⟩ : ∃ c, c = (s[i]).toNat := ⟨_, rfl⟩
      rw [← hc] at hidx
      have hc256 : c < 256 := by rw [hc]; exact UInt8.toNat_lt _
      have HNX : Hid ((s.take (i + 1)).all okC = okC s[i]) := by
        show _ = _
        rw [List.take_succ_eq_append_getElem hlt, List.all_append, HA.out, Bool.true_and]
        simp
      have HOK : Hid (okC s[i] = true ↔ (c = 10 ∨ (32 ≤ c ∧ c ≤ 126))) := by rw [hc]; exact okC_iff _
      have HBAD : Hid (okC s[i] = false → plainQ s = false) := fun h => by
        unfold plainQ
        have : s.all okC = false := by
          rw [Bool.eq_false_iff]
          intro h9
          have := List.all_eq_true.1 h9 s[i] (List.getElem_mem hlt)
          rw [h] at this; cases this
        rw [this]; rfl
      clear hc
      by_cases h10 : c = 10
      · have HN : Hid ((s.take (i + 1)).all okC = true) := HNX.out.trans (HOK.out.2 (.inl h10))
        subst h10
        go_wp2
        exact ⟨⟨i + 1, by omega, by go_num, HN.out⟩, by simp [intOf]; omega⟩
      · have h10b : ((c : Int) != 10) = true := by rw [bne_iff_ne]; omega
        by_cases hlo : c < 32
        · have HP : Hid (plainQ s = false) := HBAD.out (by rw [Bool.eq_false_iff]; intro h; rcases HOK.out.1 h with h | h <;> omega)
          go_wp2
          go_ret
          rw [HP.out]
          exact ⟨rfl, rfl⟩
        · by_cases hhi : 126 < c
          · have HP : Hid (plainQ s = false) := HBAD.out (by rw [Bool.eq_false_iff]; intro h; rcases HOK.out.1 h with h | h <;> omega)
            go_wp2
            go_ret
            rw [HP.out]
            exact ⟨rfl, rfl⟩
          · have HN : Hid ((s.take (i + 1)).all okC = true) := HNX.out.trans (HOK.out.2 (.inr (by omega)))
            go_wp2
            exact ⟨⟨i + 1, by omega, by go_num, HN.out⟩, by simp [intOf]; omega⟩
    · obtain rfl : i = s.length := by omega
      have HP : Hid (plainQ s = decide ((s.length : Int) ≤ 255)) := by
        show _ = _
        have h9 := HA.out
        rw [List.take_length] at h9
        unfold plainQ
        rw [h9, Bool.true_and, Bool.eq_iff_iff, decide_eq_true_eq, decide_eq_true_eq]
        omega
      go_wp2
      all_goals go_ret
      all_goals rw [HP.out]
      all_goals exact ⟨rfl, rfl⟩

set_option maxRecDepth 100000 in
set_option maxHeartbeats 4000000 in
theorem refName_any (s : List UInt8) (w : World) (hl : s.length ≤ 100000000) :
    Calls Tryd.prog 20 #[.string (strB s)] w fun e w' => e = .returned (.bool (nameQ s)) ∧ Below w.heap.size w w' := by
  have hsz : (strB s).size = s.length := rfl
  cases s with
  | nil =>
    go_enter Tryd.func20, Tryd.ntmps20
    go_wp2
    go_ret
    exact ⟨rfl, Below.refl _ _⟩
  | cons x r =>
    have hlen : (x :: r).length = r.length + 1 := rfl
    have HQ : Hid (nameQ (x :: r) = (letterN x.toNat && r.all (fun c => nameN c.toNat) && !isWord (x :: r) && decide ((x :: r).length ≤ 20))) := rfl
    have hidx0 := fun wx => str_at wx (x :: r) 0 (by simp)
    rw [show ((0 : Nat) : Int) = 0 from rfl, show (x :: r)[0] = x from rfl] at hidx0
    obtain ⟨n, hn⟩ : ∃ n, n = x.toNat := ⟨_, rfl⟩
    have hn256 : n < 256 := by rw [hn]; exact UInt8.toNat_lt x
    rw [← hn] at hidx0 HQ
    have cl := refLetter_any n w hn256
    have cw := refWord_any (x :: r) w
    rw [hsz] at *
    have hcell : ∀ j (h : j < (x :: r).length) (wx : World), (Instr.index 9 (.string (strB (x :: r))) (.int .i64 (j : Int))).run Tryd.prog wx = .ok (.int .u8 (((x :: r)[j]).toNat : Int)) wx := fun j h wx => str_at wx (x :: r) j h
    have HCE : Hid (∀ j (h : j < (x :: r).length) (wx : World), (Instr.index 9 (.string (strB (x :: r))) (.int .i64 (j : Int))).run Tryd.prog wx = .ok (.int .u8 (((x :: r)[j]).toNat : Int)) wx) := hcell
    clear hn hcell
    by_cases h20 : 20 < r.length + 1
    · have HF : Hid (nameQ (x :: r) = false) := by
        show _ = false
        rw [HQ.out, show decide ((x :: r).length ≤ 20) = false from decide_eq_false (by rw [List.length_cons]; omega), Bool.and_false]
      have h1 : ¬ (r.length : Int) + 1 < 1 := by omega
      have h2 : (20 : Int) < (r.length : Int) + 1 := by omega
      go_enter Tryd.func20, Tryd.ntmps20
      go_wp2
      go_ret
      rw [HF.out]
      exact ⟨rfl, Below.refl _ _⟩
    · have h1 : ¬ (r.length : Int) + 1 < 1 := by omega
      have h2 : ¬ (20 : Int) < (r.length : Int) + 1 := by omega
      go_enter Tryd.func20, Tryd.ntmps20
      go_wp2_with fail
      refine cl.mono ?_
      clear cl
      rintro e w1 ⟨rfl, rfl⟩
      cases hq : letterN n with
      | false =>
        have HF : Hid (nameQ (x :: r) = false) := by show _ = false; rw [HQ.out, hq]; rfl
        go_wp2
        go_ret
        rw [HF.out]
        exact ⟨rfl, Below.refl _ _⟩
      | true =>
        go_wp2_with fail
        refine cw.mono ?_
        clear cw
        rintro e w1 ⟨rfl, hb1⟩
        have HB1 : Hid (Below w.heap.size w w1) := hb1
        clear hb1
        cases hw : isWord (x :: r) with
        | true =>
          have HF : Hid (nameQ (x :: r) = false) := by show _ = false; rw [HQ.out, hw]; simp
          go_wp2
          go_ret
          rw [HF.out]
          exact ⟨rfl, HB1.out⟩
        | false =>
          have HQ2 : Hid (nameQ (x :: r) = r.all (fun c => nameN c.toNat)) := by
            show _ = _
            rw [HQ.out, hq, hw, show decide ((x :: r).length ≤ 20) = true from decide_eq_true (by rw [List.length_cons]; omega)]
            simp
          clear hidx0
          go_wp2
          go_loop [3] (fun v => ∃ i : Nat, 1 ≤ i ∧ i ≤ r.length + 1 ∧ v = .int .i64 i ∧ (r.take (i - 1)).all (fun c => nameN c.toNat) = true) (fun v => r.length + 1 - (intOf v).toNat)
          case atStart => exact ⟨1, Nat.le_refl _, by omega, rfl, rfl⟩
          case round =>
            obtain ⟨i, hi1, hi, rfl, hall⟩ := hrel
            have HA : Hid ((r.take (i - 1)).all (fun c => nameN c.toNat) = true) := hall
            clear hall
            by_cases hlt : i < r.length + 1
            · have hidx := HCE.out i (by rw [List.length_cons]; exact hlt)
              have hxi : (x :: r)[i]'(by rw [List.length_cons]; exact hlt) = r[i - 1]'(by omega) := by
                obtain ⟨j, rfl⟩ : ∃ j, i = j + 1 := ⟨i - 1, by omega⟩
                rfl
              rw [hxi] at hidx
              obtain ⟨c, hc⟩ : ∃ c, c = (r[i - 1]'(by omega)).toNat := ⟨_, rfl⟩
              rw [← hc] at hidx
              have hc256 : c < 256 := by rw [hc]; exact UInt8.toNat_lt _
              have HNX : Hid ((r.take i).all (fun c => nameN c.toNat) = nameN c) := by
                show _ = _
                have e9 : r.take i = r.take (i - 1) ++ [r[i - 1]'(by omega)] := by
                  have := List.take_succ_eq_append_getElem (show i - 1 < r.length by omega)
                  rw [show i - 1 + 1 = i by omega] at this
                  exact this
                rw [e9, List.all_append, HA.out, Bool.true_and, hc]
                simp
              have HBAD : Hid (nameN c = false → r.all (fun c => nameN c.toNat) = false) := fun h => by
                rw [Bool.eq_false_iff]
                intro h9
                have := List.all_eq_true.1 h9 (r[i - 1]'(by omega)) (List.getElem_mem _)
                rw [← hc, h] at this; cases this
              have c2 := refLetter_any c w1 hc256
              have c3 := refDigit_any c w1 hc256
              have hi2 : (i : Int) < (r.length : Int) + 1 := by omega
              clear hc hxi
              go_wp2_with fail
              refine c2.mono ?_
              clear c2
              rintro e w3 ⟨rfl, rfl⟩
              cases hq1 : letterN c with
              | true =>
                have HN : Hid ((r.take i).all (fun c => nameN c.toNat) = true) := HNX.out.trans (by simp [nameN, hq1])
                go_wp2
                exact ⟨⟨i + 1, by omega, by omega, by go_num, by rw [Nat.add_sub_cancel]; exact HN.out⟩, by simp [intOf]; omega⟩
              | false =>
                go_wp2_with fail
                refine c3.mono ?_
                clear c3
                rintro e w3 ⟨rfl, rfl⟩
                cases hq2 : digitN c with
                | true =>
                  have HN : Hid ((r.take i).all (fun c => nameN c.toNat) = true) := HNX.out.trans (by simp [nameN, hq2])
                  go_wp2
                  exact ⟨⟨i + 1, by omega, by omega, by go_num, by rw [Nat.add_sub_cancel]; exact HN.out⟩, by simp [intOf]; omega⟩
                | false =>
                  have HF : Hid (nameQ (x :: r) = false) := HQ2.out.trans (HBAD.out (by simp [nameN, hq1, hq2]))
                  go_wp2
                  go_ret
                  rw [HF.out]
                  exact ⟨rfl, HB1.out⟩
            · obtain rfl : i = r.length + 1 := by omega
              have hi2 : ¬ ((r.length : Int) + 1) < (r.length : Int) + 1 := by omega
              have HF : Hid (nameQ (x :: r) = true) := by
                show _ = true
                rw [HQ2.out]
                have := HA.out
                rw [Nat.add_sub_cancel, List.take_length] at this
                exact this
              go_wp2
              go_ret
              rw [HF.out]
              exact ⟨rfl, HB1.out⟩
end Go.Proofs.YtjhfkiighphepaaDoor
