/- LexParts. -/
import Derived.Test.YtjhfkiighphepaaDoorXPartMath
import Derived.Test.YtjhfkiighphepaaDoorXToks
import Derived.BigQuiet
namespace Go.Proofs.YtjhfkiighphepaaDoor
open Go.RowKit Go.Shelf

theorem below_drewN' {n : Nat} {w w' : World} (h : Below n w w') (k : Nat) : Below n w (w'.drewN k) :=
  h.trans (⟨rfl, rfl, rfl, Nat.le_refl _, fun _ _ => rfl⟩ : Below n w' (w'.drewN k))

theorem count_next (s : List UInt8) (a : Nat) (h : a < s.length) : Lib.countByte (s.take (a + 1)) 10 = Lib.countByte (s.take a) 10 + (if (s[a]).toNat = 10 then 1 else 0) := by
  rw [List.take_succ_eq_append_getElem h, count_split]
  congr 1
  by_cases h10 : (s[a]).toNat = 10
  · rw [if_pos h10, show s[a] = 10 from UInt8.toNat_inj.1 h10]; decide
  · rw [if_neg h10]
    have h9 : s[a] ≠ 10 := fun e => h10 (by rw [e]; rfl)
    unfold Lib.countByte
    simp [h9]

set_option maxRecDepth 100000 in
set_option maxHeartbeats 8000000 in
theorem parts_all (s : List UInt8) (w : World) (ht : TabsP w) :
    Calls Tryd.prog 5 #[.string (strB s)] w fun e w' => e = .returned (.bool true) ∧ Below w.heap.size w w' := by
  have HT : Hid (TabsP w) := ht
  have hsz : (strB s).size = s.length := rfl
  have c1 := scan_any s w ht.1
  have HP := scanB_parts s
  obtain ⟨A, hA⟩ : ∃ A, A = scanB s := ⟨_, rfl⟩
  rw [← hA] at c1 HP
  have HPP : Hid ((A.2.2 ≠ 0 → A.1 = []) ∧ (A.2.2 = 0 → s.length ≤ 4096 ∧ partsP s 0 A.1 ∧ ∃ ts line', A.1 = ts ++ [⟨0, [], 0, line', s.length⟩])) := HP
  clear ht hA HP
  go_enter Tryd.func5, Tryd.ntmps5
  go_wp2_with fail
  refine c1.mono ?_
  clear c1
  rintro e w1 ⟨r1, rfl, ho1, hb1⟩
  have HT1 : Hid (TabsP w1) := HT.out.below hb1 (Nat.le_refl _)
  have HB1 : Hid (Below w.heap.size w w1) := hb1
  have hs1 := hb1.size
  have htk := toksAt_own ho1
  clear ho1 hb1
  by_cases hE : A.2.2 ≠ 0
  · have hn := HPP.out.1 hE
    have heb : ((A.2.2 : Int) != 0) = true := by rw [bne_iff_ne]; omega
    have c4 := lives03_any w1 HT1.out.1
    have hl0 : ∃ base cap, r1 = .slice base 0 cap := by
      rcases htk with ⟨h, -⟩ | ⟨g, cap, h, -⟩
      · exact ⟨_, _, h⟩
      · rw [hn] at h; exact ⟨_, _, h⟩
    obtain ⟨base, cap, rfl⟩ := hl0
    clear htk
    go_wp2_with fail
    refine c4.mono ?_
    clear c4
    rintro e w4 ⟨rfl, hb4⟩
    have HB4 : Hid (Below w.heap.size w w4) := HB1.out.trans (hb4.mono hs1)
    clear hb4
    go_wp2
    go_ret
    exact ⟨rfl, HB4.out⟩
  · have hE0 : A.2.2 = 0 := by omega
    obtain ⟨hs4, hpp, ts, line', hts⟩ := HPP.out.2 hE0
    have hnl : A.1.length = ts.length + 1 := by rw [hts]; simp
    rcases htk with ⟨-, h⟩ | ⟨g, cap, rfl, hg, hcp, hmx, hx⟩
    · rw [h] at hnl; simp at hnl
    have HX : Hid (∀ j u, (tkCells A.1)[j]? = some u → w1.cell? ⟨g, j, none⟩ = some u) := hx
    have tl := tkCells_at A.1 ts.length (by omega)
    have e9 : A.1[ts.length]'(by omega) = ⟨0, [], 0, line', s.length⟩ := by simp [hts]
    rw [e9] at tl
    have a0 := hx _ _ tl.1
    have a1 := hx _ _ tl.2.1
    have a2 := hx _ _ tl.2.2.1
    have a3 := hx _ _ tl.2.2.2.1
    have a4 := hx _ _ tl.2.2.2.2
    simp only at a0 a1 a2 a3 a4
    have HPS : Hid (partsP s 0 (A.1.drop 0)) := by rw [List.drop_zero]; exact hpp
    have HNL : Hid (A.1.length = ts.length + 1) := hnl
    rw [hnl] at hcp hmx ⊢
    unfold maxLen at hmx
    rw [hE0]
    have hn0 : ((ts.length : Int) + 1 == 0) = false := by rw [beq_eq_false_iff_ne]; omega
    have hn1 : (ts.length : Int) < (ts.length : Int) + 1 := by omega
    have hn2 : ts.length < ts.length + 1 := by omega
    clear hx tl e9 hts hpp HPP hnl
    go_wp2
    go_quiet (fail)
    go_wp2
    go_loopw [6, 7, 8] (fun va vl vi wr => ∃ i at0 : Nat, i ≤ ts.length + 1 ∧ vi = .int .i64 i ∧ va = .int .i64 at0 ∧ vl = .int .i64 ((1 + Lib.countByte (s.take at0) 10 : Nat) : Int) ∧ at0 ≤ s.length ∧ partsP s at0 (A.1.drop i) ∧ Below w1.heap.size w1 wr) (fun _ _ vi _ => ts.length + 1 - (intOf vi).toNat)
    case atStart => exact ⟨0, 0, Nat.zero_le _, rfl, rfl, by simp [Lib.countByte], Nat.zero_le _, HPS.out, below_drewN' (Below.refl _ _) _⟩
    case round =>
      obtain ⟨i, at0, hi, rfl, rfl, rfl, hat, hps, hbr⟩ := hrel
      have HBR : Hid (Below w1.heap.size w1 wr) := hbr
      have HQ : Hid (partsP s at0 (A.1.drop i)) := hps
      have hsr := hbr.size
      clear hps hbr a0 a1 a2 a3 a4
      by_cases hlt : i < ts.length + 1
      · have hlt' : i < A.1.length := by rw [HNL.out]; exact hlt
        obtain ⟨T, hT⟩ : ∃ T, T = A.1[i] := ⟨_, rfl⟩
        have hq := HQ.out
        rw [List.drop_eq_getElem_cons hlt', ← hT] at hq
        obtain ⟨q1, ⟨p1, p2, p3, p4, p5, p6⟩, q3⟩ := hq
        have t := tkCells_at A.1 i hlt'
        rw [← hT] at t
        have b0 := (below_cell HBR.out hg).trans (HX.out _ _ t.1)
        have b1 := (below_cell HBR.out hg).trans (HX.out _ _ t.2.1)
        have b2 := (below_cell HBR.out hg).trans (HX.out _ _ t.2.2.1)
        have b3 := (below_cell HBR.out hg).trans (HX.out _ _ t.2.2.2.1)
        have b4 := (below_cell HBR.out hg).trans (HX.out _ _ t.2.2.2.2)
        have HTX : Hid ((tkCells A.1)[i * 5]? = some (.int .i64 T.k) ∧ (tkCells A.1)[i * 5 + 4]? = some (.int .i64 T.at0)) := ⟨t.1, t.2.2.2.2⟩
        have HP3 : Hid (backB T.k T.n T.s) := p3
        have HP4 : Hid (T.k ≠ 2 → T.at0 + (wrB T.k T.n T.s).length ≤ s.length ∧ (s.drop T.at0).take (wrB T.k T.n T.s).length = wrB T.k T.n T.s) := p4
        have HQ3 : Hid (partsP s T.at0 (A.1.drop (i + 1))) := q3
        have HP2 : Hid (T.line = 1 + Lib.countByte (s.take T.at0) 10) := p2
        have f1 : ¬ (T.at0 : Int) < at0 := by omega
        have f2 : ¬ (s.length : Int) < T.at0 := by omega
        have hi2 : (i : Int) < (ts.length : Int) + 1 := by omega
        have hcm : ∀ a, Lib.countByte (s.take a) 10 ≤ 4096 := fun a => by
          have h9 := count_le (s.take a) 10
          rw [List.length_take] at h9
          omega
        have hca := hcm at0
        have HCM : Hid (∀ a, Lib.countByte (s.take a) 10 ≤ 4096) := hcm
        clear t p2 p3 p4 q3 hT hlt' HQ hcm
        obtain ⟨cn, hcn⟩ : ∃ cn, cn = Lib.countByte (s.take at0) 10 := ⟨_, rfl⟩
        rw [← hcn] at hca ⊢
        have HCN : Hid (cn = Lib.countByte (s.take at0) 10) := hcn
        clear hcn
        generalize wr = w3 at *
        go_wp2
        go_loopw [6, 7] (fun va vl wr => ∃ b : Nat, va = .int .i64 b ∧ at0 ≤ b ∧ b ≤ T.at0 ∧ vl = .int .i64 ((1 + Lib.countByte (s.take b) 10 : Nat) : Int) ∧ wr = w3) (fun va _ _ => T.at0 - (intOf va).toNat)
        case atStart => exact ⟨at0, rfl, Nat.le_refl _, q1, by rw [← HCN.out]; go_num, rfl⟩
        case round =>
          obtain ⟨b, rfl, hb1, hb2, rfl, rfl⟩ := hrel
          have hcb := HCM.out b
          by_cases hlt2 : b < T.at0
          · have hbl : b < s.length := by omega
            have hidx := fun wx => str_at wx s b hbl
            have hnx := count_next s b hbl
            obtain ⟨c, hc⟩ : ∃ c, c = (s[b]).toNat := ⟨_, rfl⟩
            rw [← hc] at hidx hnx
            have hlt3 : (b : Int) < T.at0 := by omega
            obtain ⟨cb, hcbe⟩ : ∃ cb, cb = Lib.countByte (s.take b) 10 := ⟨_, rfl⟩
            rw [← hcbe] at hcb hnx ⊢
            by_cases h10 : c = 10
            · rw [if_pos h10] at hnx
              have HNX : Hid (Lib.countByte (s.take (b + 1)) 10 = cb + 1) := hnx
              subst h10
              clear hnx hcbe
              go_wp2
              refine ⟨⟨b + 1, by go_num, by omega, by omega, ?_, by first | rfl | trivial⟩, by simp [intOf]; omega⟩
              rw [HNX.out]
              go_num
            · rw [if_neg h10] at hnx
              have h10b : ((c : Int) == 10) = false := by rw [beq_eq_false_iff_ne]; omega
              have HNX : Hid (Lib.countByte (s.take (b + 1)) 10 = cb) := hnx
              clear hnx hcbe
              go_wp2
              refine ⟨⟨b + 1, by go_num, by omega, by omega, ?_, by first | rfl | trivial⟩, by simp [intOf]; omega⟩
              rw [HNX.out]
          · obtain rfl : b = T.at0 := by omega
            have hl2 : ((1 + Lib.countByte (s.take T.at0) 10 : Nat) : Int) = T.line := by rw [HP2.out]
            rw [hl2]
            have hnn : ((T.line : Int) != T.line) = false := by simp
            have hTk : TabsP wr := HT1.out.below HBR.out (Nat.le_refl _)
            have ct := lexText_any T.k T.n T.line T.at0 T.s wr (by omega) (by omega) (by omega) hTk
            have htb : tkB T.k T.n T.s = (wrB T.k T.n T.s, 0) := if_pos HP3.out
            rw [htb] at ct
            have HTB : Hid (TabsP wr) := hTk
            clear htb hTk hl2 hcb
            go_wp2_with fail
            refine ct.mono ?_
            clear ct
            rintro e w4 ⟨rfl, hb4⟩
            have HB4 : Hid (Below w1.heap.size w1 w4) := HBR.out.trans (hb4.mono hsr)
            have d0 := (below_cell HB4.out hg).trans (HX.out _ _ HTX.out.1)
            have d4 := (below_cell HB4.out hg).trans (HX.out _ _ HTX.out.2)
            clear hb4 b0 b1 b2 b3 b4
            have HL2 : Hid (1 + Lib.countByte (s.take T.at0) 10 = T.line) := HP2.out.symm
            by_cases hk : T.k = 2
            · have hkb : ((T.k : Int) == 2) = true := by rw [hk]; rfl
              go_wp2
              refine ⟨⟨i + 1, T.at0, by omega, by go_num, rfl, by rw [HL2.out], p1, HQ3.out, HB4.out⟩, by simp [intOf]; omega⟩
            · have hkb : ((T.k : Int) == 2) = false := by rw [beq_eq_false_iff_ne]; omega
              obtain ⟨k1, k2⟩ := HP4.out hk
              obtain ⟨x, hx⟩ : ∃ x, x = wrB T.k T.n T.s := ⟨_, rfl⟩
              rw [← hx] at k1 k2 ⊢
              have hsub := fun wx => str_sub wx s T.at0 x.length k1
              rw [k2] at hsub
              have hsx : (strB x).size = x.length := rfl
              have hd : decide ((s.length : Int) < (T.at0 : Int) + (x.length : Int)) = false := by simp; omega
              clear hx k2
              go_wp2
              go_quiet (fail)
              go_wp2
              refine ⟨⟨i + 1, T.at0, by omega, by go_num, rfl, by rw [HL2.out], p1, HQ3.out, below_drewN' HB4.out _⟩, by simp [intOf]; omega⟩
      · obtain rfl : i = ts.length + 1 := by omega
        have c4 := lives03_any wr (HT1.out.1.below HBR.out (Nat.le_refl _))
        go_wp2_with fail
        refine c4.mono ?_
        clear c4
        rintro e w4 ⟨rfl, hb4⟩
        have HB4 : Hid (Below w.heap.size w w4) := (HB1.out.trans (HBR.out.mono hs1)).trans (hb4.mono (by omega))
        clear hb4
        go_wp2
        go_ret
        exact ⟨rfl, HB4.out⟩
end Go.Proofs.YtjhfkiighphepaaDoor
