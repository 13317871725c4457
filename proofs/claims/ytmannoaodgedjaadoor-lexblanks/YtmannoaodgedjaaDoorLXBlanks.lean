/- LexBlanks. -/
import Derived.Test.YtmannoaodgedjaaDoorXLives
import Derived.Test.YtmannoaodgedjaaDoorXBlank2
namespace Go.Proofs.YtmannoaodgedjaaDoor
open Go.RowKit Go.Shelf

theorem strB_append (a b : List UInt8) : strB a ++ strB b = strB (a ++ b) := by
  apply ByteArray.ext
  rw [ByteArray.data_append]
  unfold strB
  simp

theorem row_max {w : World} {B e sz n : Nat} {v : Value} {xs : List Value} (h : w.ownsRow B e sz v n xs) : n ≤ maxLen := by
  obtain ⟨-, ⟨-, h0⟩ | ⟨g, cap, cur, -, -, -, hc, hm, -⟩⟩ := h
  · omega
  · omega

theorem tkCells_at : ∀ (ts : List Tk) (i : Nat) (h : i < ts.length), (tkCells ts)[i * 5]? = some (.int .i64 (ts[i]).k) ∧ (tkCells ts)[i * 5 + 1]? = some (.string (strB (ts[i]).s)) ∧ (tkCells ts)[i * 5 + 2]? = some (.int .i64 (ts[i]).n) ∧
    (tkCells ts)[i * 5 + 3]? = some (.int .i64 (ts[i]).line) ∧ (tkCells ts)[i * 5 + 4]? = some (.int .i64 (ts[i]).at0)
  | [], _, h => by cases h
  | t :: ts, 0, _ => ⟨rfl, rfl, rfl, rfl, rfl⟩
  | t :: ts, i + 1, h => by
    have ih := tkCells_at ts i (by simpa using h)
    have e : tkCells (t :: ts) = [.int .i64 t.k, .string (strB t.s), .int .i64 t.n, .int .i64 t.line, .int .i64 t.at0] ++ tkCells ts := rfl
    have key : ∀ q, (tkCells (t :: ts))[(i + 1) * 5 + q]? = (tkCells ts)[i * 5 + q]? := fun q => by
      rw [e, List.getElem?_append_right (by simp; omega)]
      congr 1
      simp
      omega
    have k0 := key 0
    simp only [Nat.add_zero] at k0
    rw [k0, key 1, key 2, key 3, key 4]
    exact ih

set_option maxRecDepth 100000 in
set_option maxHeartbeats 4000000 in
theorem blanks_bad (s more : List UInt8) (n : Int) (w : World) (ht : Tabs w) (hb : 3000 < s.length ∨ 500 < more.length ∨ n < 0 ∨ 100 < n) :
    Calls Tryd.prog 7 #[.string (strB s), .int .i64 n, .string (strB more)] w fun e w' => e = .returned (.bool true) ∧ Below w.heap.size w w' := by
  have hs0 : (strB s).size = s.length := rfl
  have hm0 : (strB more).size = more.length := rfl
  have HL : Hid (Calls Tryd.prog 11 #[] w fun e w' => e = .returned (.bool true) ∧ Below w.heap.size w w') := lives03_any w ht
  clear ht
  go_enter Tryd.func7, Tryd.ntmps7
  go_wp2_with (go_at_call 11; refine HL.out.mono ?_; rintro e w1 ⟨rfl, hb1⟩)
  all_goals first | (go_ret; exact ⟨rfl, hb1⟩) | (exfalso; omega)

set_option maxRecDepth 100000 in
set_option maxHeartbeats 4000000 in
theorem blanks_any (s more : List UInt8) (n : Nat) (w : World) (ht : Tabs w) (h1 : s.length ≤ 3000) (h2 : more.length ≤ 500) (h3 : n ≤ 100) :
    Calls Tryd.prog 7 #[.string (strB s), .int .i64 n, .string (strB more)] w fun e w' => e = .returned (.bool true) ∧ Below w.heap.size w w' := by
  have hs0 : (strB s).size = s.length := rfl
  have hm0 : (strB more).size = more.length := rfl
  have HT : Hid (Tabs w) := ht
  have HL : Hid (∀ wx, Tabs wx → Calls Tryd.prog 11 #[] wx fun e w' => e = .returned (.bool true) ∧ Below wx.heap.size wx w') := lives03_any
  have d1 : decide ((3000 : Int) < s.length) = false := by simp; omega
  have d2 : decide ((500 : Int) < more.length) = false := by simp; omega
  have d3 : decide ((n : Int) < 0) = false := by simp
  have d4 : decide ((100 : Int) < n) = false := by simp; omega
  clear ht
  go_enter Tryd.func7, Tryd.ntmps7
  go_wp2
  go_loopw [7] (fun vi wr => ∃ k : Nat, k ≤ more.length ∧ vi = .int .i64 k ∧ w = wr ∧ ∀ x ∈ more.take k, x ≠ (10 : UInt8)) (fun vi _ => more.length - (intOf vi).toNat)
  case atStart => exact ⟨0, Nat.zero_le _, rfl, rfl, fun x hx => by simp at hx⟩
  case round =>
    obtain ⟨k, hk, rfl, rfl, hne⟩ := hrel
    have HNE : Hid (∀ x ∈ more.take k, x ≠ (10 : UInt8)) := hne
    clear hne
    by_cases hlt : k < more.length
    · have hidx := fun wx => str_at wx more k hlt
      obtain ⟨c, hc⟩ : ∃ c, c = (more[k]).toNat := ⟨_, rfl⟩
      rw [← hc] at hidx
      by_cases h10 : c = 10
      · have hb : ((c : Int) == 10) = true := by rw [h10]; rfl
        go_wp2_with (go_at_call 11; refine (HL.out _ HT.out).mono ?_; rintro e w1 ⟨rfl, hb1⟩)
        go_ret
        exact ⟨rfl, hb1⟩
      · have hb : ((c : Int) == 10) = false := by rw [beq_eq_false_iff_ne]; omega
        go_wp2
        refine ⟨⟨k + 1, by omega, by go_num, by first | rfl | trivial, fun x hx => ?_⟩, ?_⟩
        · rw [List.take_succ_eq_append_getElem hlt] at hx
          rcases List.mem_append.1 hx with h | h
          · exact HNE.out x h
          · rw [List.mem_singleton] at h
            intro e
            apply h10
            rw [hc, ← h, e]
            rfl
        · simp [intOf]; omega
    · obtain rfl : k = more.length := by omega
      have HM : Hid ((10 : UInt8) ∉ more) := fun h => HNE.out 10 (by rw [List.take_length]; exact h) rfl
      clear HNE hlt hk
      go_wp2
      go_loopw [8, 9] (fun vt vi wr => ∃ k : Nat, k ≤ n ∧ vt = .string (strB (List.replicate k 10)) ∧ vi = .int .i64 k ∧ w = wr) (fun _ vi _ => n - (intOf vi).toNat)
      case atStart => exact ⟨0, Nat.zero_le _, rfl, rfl, rfl⟩
      case round =>
        obtain ⟨k, hk, rfl, rfl, rfl⟩ := hrel
        have hz : (strB (List.replicate k 10)).size = k := by rw [strB_size, List.length_replicate]
        by_cases hlt : k < n
        · go_wp2
          refine ⟨⟨k + 1, by omega, ?_, by go_num, by first | rfl | trivial⟩, ?_⟩
          · rw [List.replicate_succ', ← strB_append]
          · simp [intOf]; omega
        · obtain rfl : k = n := by omega
          clear hlt hk
          go_wp2_with fail
          refine (scan_any s w HT.out).mono ?_
          rintro e w1 ⟨r1, rfl, ho1, hb1⟩
          have HCAT : Hid (strB (List.replicate k 10) ++ strB s ++ ⟨#[10, 47, 47]⟩ ++ strB more = strB (longL k s more)) := by
            show strB (List.replicate k 10) ++ strB s ++ strB [10, 47, 47] ++ strB more = strB (longL k s more)
            rw [strB_append, strB_append, strB_append]
            unfold longL
            simp
          have HT1 : Hid (Tabs w1) := HT.out.below hb1 (Nat.le_refl _)
          have HB1 : Hid (Below w.heap.size w w1) := hb1
          have HO1 : Hid (w1.ownsRow w.heap.size 33 5 r1 (scanB s).1.length (tkCells (scanB s).1)) := ho1
          have HR := scanB_long (n := k) (s := s) HM.out h1 h2 h3
          have HBO := scanB_bound s
          obtain ⟨A, hA⟩ : ∃ A, A = scanB s := ⟨_, rfl⟩
          rw [← hA] at HO1 HR HBO ⊢
          have hq1 := HBO.1
          have HQ : Hid (∀ t ∈ A.1, t.line ≤ s.length + 1 ∧ t.at0 ≤ s.length) := HBO.2
          clear HBO
          clear hb1 ho1 hA
          have hcat := HCAT.out
          obtain ⟨B, hB⟩ : ∃ B, B = scanB (longL k s more) := ⟨_, rfl⟩
          rw [← hB] at HR
          have HBB : Hid (B = scanB (longL k s more)) := hB
          have HRR : Hid ((A.2.2 ≠ 0 → B.2.2 = A.2.2 ∧ B.2.1 = A.2.1 + k) ∧ (A.2.2 = 0 → B.2.2 = 0 ∧ ∃ ts t t', A.1 = ts ++ [t] ∧ B.1 = ts.map (shiftT k) ++ [t'])) := HR
          clear hB HR
          go_wp2_with fail
          refine (scan_any (longL k s more) w1 HT1.out).mono ?_
          rw [← HBB.out]
          rintro e w2 ⟨r2, rfl, ho2, hb2⟩
          have HT2 : Hid (Tabs w2) := HT1.out.below hb2 (Nat.le_refl _)
          have HB2 : Hid (Below w1.heap.size w1 w2) := hb2
          have HO2 : Hid (w2.ownsRow w1.heap.size 33 5 r2 B.1.length (tkCells B.1)) := ho2
          clear ho2 hb2
          have HBW : Hid (Below w.heap.size w w2) := HB1.out.trans (HB2.out.mono HB1.out.size)
          by_cases hE : A.2.2 ≠ 0
          · obtain ⟨q1, q2⟩ := HRR.out.1 hE
            have f1 : ((A.2.2 : Int) != 0) = true := by rw [bne_iff_ne]; omega
            have f2 : ((A.2.2 : Int) != A.2.2) = false := by simp
            rw [q1, q2]
            have f3 : (((A.2.1 : Int) + k) == ((A.2.1 + k : Nat) : Int)) = true := by rw [beq_iff_eq]; omega
            have HL2 : Hid (Calls Tryd.prog 11 #[] w2 fun e w' => e = .returned (.bool true) ∧ Below w2.heap.size w2 w') := HL.out w2 HT2.out
            go_wp2_with (go_at_call 11; refine HL2.out.mono ?_; rintro e w3 ⟨rfl, hb3⟩)
            go_ret
            exact ⟨rfl, HBW.out.trans (hb3.mono (Nat.le_trans HB1.out.size HB2.out.size))⟩
          · have hE0 : A.2.2 = 0 := by omega
            obtain ⟨q1, ts, t, t', q2, q3⟩ := HRR.out.2 hE0
            obtain ⟨g1, cap1, rfl, -, hg1, hcp1, hc1⟩ := row_cells HO1.out (by rw [q2]; simp)
            obtain ⟨g2, cap2, rfl, -, hg2, hcp2, hc2⟩ := row_cells HO2.out (by rw [q3]; simp)
            have hc3 : ∀ j u, (tkCells A.1)[j]? = some u → w2.cell? ⟨g1, j, none⟩ = some u := fun j u h => by
              rw [below_cell HB2.out hg1]; exact hc1 j u h
            have n1 : A.1.length = ts.length + 1 := by rw [q2]; simp
            have n2 : B.1.length = ts.length + 1 := by rw [q3]; simp
            have hmx := row_max HO1.out
            rw [n1] at hmx
            unfold maxLen at hmx
            rw [n1] at hcp1
            rw [n2] at hcp2
            rw [q1, hE0, n1, n2]
            have HC1 : Hid (∀ j u, (tkCells A.1)[j]? = some u → w2.cell? ⟨g1, j, none⟩ = some u) := hc3
            have HC2 : Hid (∀ j u, (tkCells B.1)[j]? = some u → w2.cell? ⟨g2, j, none⟩ = some u) := hc2
            have HQ2 : Hid (A.1 = ts ++ [t] ∧ B.1 = ts.map (shiftT k) ++ [t']) := ⟨q2, q3⟩
            have HG : Hid (g1 < w2.heap.size ∧ g2 < w2.heap.size) := ⟨Nat.lt_of_lt_of_le hg1 HB2.out.size, hg2⟩
            clear hc1 hc2 hc3 q2 q3 n1 n2 hg1 hg2
            go_wp2
            go_loopw [16] (fun vi wr => ∃ i : Nat, i ≤ ts.length ∧ vi = .int .i64 i ∧ Below w2.heap.size w2 wr) (fun vi _ => ts.length - (intOf vi).toNat)
            case atStart => exact ⟨0, Nat.zero_le _, rfl, Below.refl _ _⟩
            case round =>
              obtain ⟨i, hi, rfl, hbr⟩ := hrel
              have HBR : Hid (Below w2.heap.size w2 wr) := hbr
              clear hbr
              by_cases hlt : i < ts.length
              · obtain ⟨T, hT⟩ : ∃ T, T = ts[i] := ⟨_, rfl⟩
                have eA : A.1[i]'(by rw [HQ2.out.1]; simp; omega) = T := by simp [HQ2.out.1, hT, hlt]
                have eB : B.1[i]'(by rw [HQ2.out.2]; simp; omega) = shiftT k T := by simp [HQ2.out.2, hT, hlt]
                have ta := tkCells_at A.1 i (by rw [HQ2.out.1]; simp; omega)
                have tb := tkCells_at B.1 i (by rw [HQ2.out.2]; simp; omega)
                rw [eA] at ta
                rw [eB] at tb
                have hbd := HQ.out T (by rw [← eA]; exact List.getElem_mem _)
                have a0 := (below_cell HBR.out HG.out.1).trans (HC1.out _ _ ta.1)
                have a1 := (below_cell HBR.out HG.out.1).trans (HC1.out _ _ ta.2.1)
                have a2 := (below_cell HBR.out HG.out.1).trans (HC1.out _ _ ta.2.2.1)
                have a3 := (below_cell HBR.out HG.out.1).trans (HC1.out _ _ ta.2.2.2.1)
                have a4 := (below_cell HBR.out HG.out.1).trans (HC1.out _ _ ta.2.2.2.2)
                have b0 : wr.cell? ⟨g2, i * 5, none⟩ = some (.int .i64 T.k) := (below_cell HBR.out HG.out.2).trans (HC2.out _ _ tb.1)
                have b1 : wr.cell? ⟨g2, i * 5 + 1, none⟩ = some (.string (strB T.s)) := (below_cell HBR.out HG.out.2).trans (HC2.out _ _ tb.2.1)
                have b2 : wr.cell? ⟨g2, i * 5 + 2, none⟩ = some (.int .i64 T.n) := (below_cell HBR.out HG.out.2).trans (HC2.out _ _ tb.2.2.1)
                have b3 : wr.cell? ⟨g2, i * 5 + 3, none⟩ = some (.int .i64 ((T.line : Int) + k)) := by
                  have := (below_cell HBR.out HG.out.2).trans (HC2.out _ _ tb.2.2.2.1)
                  rw [this]; simp [shiftT]
                have b4 : wr.cell? ⟨g2, i * 5 + 4, none⟩ = some (.int .i64 ((T.at0 : Int) + k)) := by
                  have := (below_cell HBR.out HG.out.2).trans (HC2.out _ _ tb.2.2.2.2)
                  rw [this]; simp [shiftT]
                clear ta tb eA eB hT
                have t1 := hbd.1
                have t2 := hbd.2
                clear hbd
                have dlt : (i : Int) < ts.length := by omega
                have dlt2 : (i : Int) + 1 < (ts.length : Int) + 1 := by omega
                have nlt : i < ts.length + 1 := by omega
                have nlt2 : (i : Int) < (ts.length : Int) + 1 := by omega
                have hi0 : (0 : Int) ≤ i := by omega
                have hnn : ¬ ((i : Int) < 0) := by omega
                go_wp2
                go_quiet (fail)
                go_wp2
                refine ⟨⟨i + 1, by omega, by go_num, HBR.out.trans (⟨rfl, rfl, rfl, Nat.le_refl _, fun _ _ => rfl⟩ : Below w2.heap.size wr (wr.drewN nq))⟩, ?_⟩
                simp [intOf]
                omega
              · obtain rfl : i = ts.length := by omega
                have HL2 : Hid (Calls Tryd.prog 11 #[] wr fun e w' => e = .returned (.bool true) ∧ Below wr.heap.size wr w') := HL.out wr (HT2.out.below HBR.out (Nat.le_refl _))
                go_wp2_with (go_at_call 11; refine HL2.out.mono ?_; rintro e w3 ⟨rfl, hb3⟩)
                go_ret
                have z1 := HB1.out.size
                have z2 := HB2.out.size
                have z3 := HBR.out.size
                exact ⟨rfl, (HBW.out.trans (HBR.out.mono (by omega))).trans (hb3.mono (by omega))⟩
end Go.Proofs.YtmannoaodgedjaaDoor
