/- The document's own Scan. -/
import Derived.Test.YtjhfkiighphepaaDoorXRef6
namespace Go.Proofs.YtjhfkiighphepaaDoor
open Go.RowKit Go.Shelf

set_option maxRecDepth 100000 in
/-- append of one token's cells onto a row of tokens. -/
theorem append_tokC {ops : Array Oper} {rest : List Oper} {o : Oper} {a : Act} {w : World} {Q : Exit → Act → World → Prop} (hgd : o.guard = none) (s x : Operand)
    (ho : o.op = .call { callee := .builtin .append, args := #[s, x], argTypes := #[22, 22] })
    (B : Nat) (v : Value) (n : Nat) (xs : List Value) (hs : a.eval s = v) (hown : w.ownsRow B 33 5 v n xs) (g : Nat) (cs : List Value) (hx : a.eval x = .slice (some ⟨g, 0, none⟩) 1 1)
    (hcs : cs.length = 5) (hone : ∀ u ∈ cs, u.oneCell' = true) (hc : ∀ j u, cs[j]? = some u → w.cell? ((⟨g, 0, none⟩ : Addr).add j) = some u) (hb : n ≤ 1000000) (hB : B ≤ w.heap.size)
    (h : ∀ v' w', w'.ownsRow B 33 5 v' (n + 1) (xs ++ cs) → w.grownBy w' v.ownBlock → wpList Tryd.prog ops Q rest (a.put o.dst v') w') : wpList Tryd.prog ops Q (o :: rest) a w := by
  obtain ⟨i0, hi, hz0, hz1, hz2⟩ := info_parts info_tok
  refine wpList_append_own _ hgd s x 22 ho B 33 i0 _ 5 48 Tryd.underlying22 hi hz0 hz1 hz2 rfl (by decide) v n _ hs hown ⟨g, 0, none⟩ 1 1 cs hx (by rw [hcs]) hc hone (by unfold maxLen; omega) (by omega) hB ?_
  intro v' w' ho' hg' _
  exact h v' w' ho' hg'

theorem tkCells_snoc (ts : List Tk) (k n line at0 : Nat) (s : List UInt8) : tkCells (ts ++ [⟨k, s, n, line, at0⟩]) = tkCells ts ++ [.int .i64 k, .string (strB s), .int .i64 n, .int .i64 line, .int .i64 at0] := by
  rw [tkCells_append]; rfl

set_option maxRecDepth 100000 in
set_option maxHeartbeats 8000000 in
theorem refScan_in (l : List UInt8) (w : World) (hl : l.length ≤ 4096) :
    Calls Tryd.prog 8 #[.string (strB l)] w fun e w' => ∃ (r : Value), e = .returned (.tuple #[r, .int .i64 (scanB l).2.1, .int .i64 (scanB l).2.2]) ∧
      w'.ownsRow w.heap.size 33 5 r (scanB l).1.length (tkCells (scanB l).1) ∧ Below w.heap.size w w' := by
  have hsz : (strB l).size = l.length := rfl
  have hbig : decide ((4096 : Int) < (l.length : Int)) = false := by simp; omega
  go_enter Tryd.func8, Tryd.ntmps8
  go_wp2
  go_loopw [5, 6, 7] (fun vo vl va wr => ∃ (f line at0 : Nat) (pre : List Tk), vl = .int .i64 line ∧ va = .int .i64 at0 ∧ at0 ≤ l.length ∧ l.length < at0 + f ∧ line ≤ at0 + 1 ∧ pre.length ≤ at0 ∧ scanB l = joinS pre (scanS l f line at0) ∧
      wr.ownsRow w.heap.size 33 5 vo pre.length (tkCells pre) ∧ Below w.heap.size w wr) (fun _ _ va _ => l.length - (intOf va).toNat)
  case atStart => exact ⟨l.length + 1, 1, 0, [], rfl, rfl, Nat.zero_le _, by omega, by omega, Nat.le_refl _, by unfold scanB; rw [if_neg (by omega), joinS_nil], World.ownsRow_nil _ _ _ _, Below.refl _ _⟩
  case round =>
    obtain ⟨f, line, at0, pre, rfl, rfl, hat, hf, hln, hpn, hsc, hown, hbw⟩ := hrel
    have HSC : Hid (scanB l = joinS pre (scanS l f line at0)) := hsc
    have HO : Hid (wr.ownsRow w.heap.size 33 5 u5 pre.length (tkCells pre)) := hown
    have HB : Hid (Below w.heap.size w wr) := hbw
    have hszw := hbw.size
    clear hsc hown hbw
    by_cases hlt : at0 < l.length
    · have hidx := fun wx => str_at wx l at0 hlt
      obtain ⟨c, hc⟩ : ∃ c, c = (l[at0]).toNat := ⟨_, rfl⟩
      rw [← hc] at hidx
      have hc256 : c < 256 := by rw [hc]; exact UInt8.toNat_lt _
      have HC : Hid (c = (l[at0]).toNat) := hc
      clear hc
      by_cases h10 : c = 10
      · have HN : Hid (scanB l = joinS pre (scanS l f (line + 1) (at0 + 1))) := by
          show _ = _
          rw [HSC.out, scanS_blank f line hlt (by rw [← HC.out, h10]; decide), if_pos (by rw [← HC.out]; exact h10)]
        subst h10
        go_wp2
        exact ⟨⟨f, line + 1, at0 + 1, pre, by go_num, by go_num, by omega, by omega, by omega, by omega, HN.out, HO.out, HB.out⟩, by simp [intOf]; omega⟩
      · have h10b : ((c : Int) == 10) = false := by rw [beq_eq_false_iff_ne]; omega
        by_cases h32 : c = 32
        · have HN : Hid (scanB l = joinS pre (scanS l f line (at0 + 1))) := by
            show _ = _
            rw [HSC.out, scanS_blank f line hlt (by rw [← HC.out, h32]; decide), if_neg (by rw [← HC.out]; exact h10)]
          subst h32
          go_wp2
          exact ⟨⟨f, line, at0 + 1, pre, by go_num, by go_num, by omega, by omega, by omega, by omega, HN.out, HO.out, HB.out⟩, by simp [intOf]; omega⟩
        · have h32b : ((c : Int) == 32) = false := by rw [beq_eq_false_iff_ne]; omega
          by_cases h9 : c = 9
          · have HN : Hid (scanB l = joinS pre (scanS l f line (at0 + 1))) := by
              show _ = _
              rw [HSC.out, scanS_blank f line hlt (by rw [← HC.out, h9]; decide), if_neg (by rw [← HC.out]; exact h10)]
            subst h9
            go_wp2
            exact ⟨⟨f, line, at0 + 1, pre, by go_num, by go_num, by omega, by omega, by omega, by omega, HN.out, HO.out, HB.out⟩, by simp [intOf]; omega⟩
          · have h9b : ((c : Int) == 9) = false := by rw [beq_eq_false_iff_ne]; omega
            have hbl : blankN c = false := by unfold blankN; simp [h10, h32, h9]
            have HDC : Hid (l.drop at0 = l[at0] :: l.drop (at0 + 1)) := List.drop_eq_getElem_cons hlt
            by_cases h47 : c = 47
            · by_cases hend : at0 + 1 < l.length
              · have hidx2 := fun wx => str_at wx l (at0 + 1) hend
                have e1 : ((at0 + 1 : Nat) : Int) = (at0 : Int) + 1 := by omega
                simp only [e1] at hidx2
                have hi2 : (at0 : Int) + 1 < l.length := by omega
                have hrq : remB (l.drop at0) = decide ((l[at0 + 1]).toNat = 47) := by
                  rw [HDC.out, List.drop_eq_getElem_cons hend, remB_cons, ← HC.out, h47]
                  simp
                obtain ⟨d, hd⟩ : ∃ d, d = (l[at0 + 1]).toNat := ⟨_, rfl⟩
                rw [← hd] at hidx2 hrq
                clear hd e1
                by_cases hd47 : d = 47
                · have hrm : remB (l.drop at0) = true := by rw [hrq]; exact decide_eq_true hd47
                  subst h47
                  subst hd47
                  clear hrq
                  generalize wr = w1 at *
                  go_wp2
                  clear hidx hidx2
                  go_loopw [7] (fun va wr => ∃ k : Nat, va = .int .i64 ((at0 : Int) + k) ∧ at0 + k ≤ l.length ∧ (∀ j (h : at0 + j < l.length), j < k → noEndN (l[at0 + j]).toNat = true) ∧ wr = w1) (fun va _ => l.length - (intOf va).toNat)
                  case atStart => exact ⟨0, by simp, by omega, fun j h hj => by omega, rfl⟩
                  case round =>
                    obtain ⟨k, rfl, hk2, hall, rfl⟩ := hrel
                    have HAL : Hid (∀ j (h : at0 + j < l.length), j < k → noEndN (l[at0 + j]).toNat = true) := hall
                    clear hall
                    by_cases hlt3 : at0 + k < l.length
                    · have hidx := fun wx => str_at wx l (at0 + k) hlt3
                      have e1 : ((at0 + k : Nat) : Int) = (at0 : Int) + k := by omega
                      simp only [e1] at hidx
                      have hi3 : (at0 : Int) + k < l.length := by omega
                      obtain ⟨d, hd⟩ : ∃ d, d = (l[at0 + k]).toNat := ⟨_, rfl⟩
                      rw [← hd] at hidx
                      have HD : Hid (d = (l[at0 + k]).toNat) := hd
                      clear hd e1
                      by_cases hd10 : d = 10
                      · have HLEN : Hid (rowN noEndN (l.drop at0) = k) := row_at (p := fun c => noEndN c.toNat) hk2 HAL.out (fun _ => by rw [← HD.out, hd10]; rfl)
                        subst hd10
                        have HRN := HLEN
                        have hk1 : 2 ≤ k := by have := remB_row hrm; rw [HRN.out] at this; exact this
                        have HN : Hid (scanB l = joinS pre (scanS l f line (at0 + k))) := by
                          show _ = _
                          rw [HSC.out, scanS_rem f line hrm, HRN.out]
                        go_wp2
                        exact ⟨⟨f, line, at0 + k, pre, by go_num, by go_num, by omega, by omega, by omega, by omega, HN.out, HO.out, HB.out⟩, by simp [intOf]; omega⟩

                      · have hd10b : ((d : Int) != 10) = true := by rw [bne_iff_ne]; omega
                        go_wp2
                        refine ⟨⟨k + 1, by go_num, by omega, fun j h hj => ?_, by first | rfl | trivial⟩, by simp [intOf]; omega⟩
                        by_cases hji : j < k
                        · exact HAL.out j h hji
                        · obtain rfl : j = k := by omega
                          rw [← HD.out]; simp [noEndN, hd10]
                    · have hi3 : ¬ (at0 : Int) + k < l.length := by omega
                      have HLEN : Hid (rowN noEndN (l.drop at0) = k) := row_at (p := fun c => noEndN c.toNat) hk2 HAL.out (fun h => absurd h (by omega))
                      have HRN := HLEN
                      have hk1 : 2 ≤ k := by have := remB_row hrm; rw [HRN.out] at this; exact this
                      have HN : Hid (scanB l = joinS pre (scanS l f line (at0 + k))) := by
                        show _ = _
                        rw [HSC.out, scanS_rem f line hrm, HRN.out]
                      go_wp2
                      exact ⟨⟨f, line, at0 + k, pre, by go_num, by go_num, by omega, by omega, by omega, by omega, HN.out, HO.out, HB.out⟩, by simp [intOf]; omega⟩

                · have hd47b : ((d : Int) == 47) = false := by rw [beq_eq_false_iff_ne]; omega
                  have HRM : Hid (remB (l.drop at0) = false) := by show _ = false; rw [hrq]; exact decide_eq_false hd47
                  clear hrq
                  subst h47
                  have hg0 : gapN (l.drop at0) = 0 := by rw [HDC.out]; exact gapN_tok (by rw [← HC.out]; exact hbl) (by rw [← HDC.out]; exact HRM.out)
                  obtain ⟨f', rfl⟩ : ∃ f', f = f' + 1 := ⟨f - 1, by omega⟩
                  have HTK := scanS_tok f' line pre hg0 hlt
                  obtain ⟨R, hR⟩ : ∃ R, R = tokT (l.drop at0) := ⟨_, rfl⟩
                  rw [← hR] at HTK
                  have ct := refToken_any l at0 wr (by omega) hlt
                  rw [← hR] at ct
                  have HTK1 : Hid (R.e ≠ 0 → scanB l = ([], at0, R.e)) := fun h => HSC.out.trans (HTK.1 h)
                  have HTK2 : Hid (R.e = 0 → scanB l = joinS (pre ++ [⟨R.k, R.s, R.n, line, at0⟩]) (scanS l f' line (at0 + R.sz)) ∧ 1 ≤ R.sz ∧ at0 + R.sz ≤ l.length) := fun h => ⟨HSC.out.trans (HTK.2 h).1, (HTK.2 h).2⟩
                  clear HTK hR hg0 HSC
                  go_wp2_with fail
                  refine ct.mono ?_
                  clear ct hidx
                  rintro e w2 ⟨⟨v, rfl, K, N', X, s, rfl, hok⟩, hb2⟩
                  have HOK : Hid (R.e = 0 → K = R.k ∧ s = R.s ∧ N' = R.n ∧ X = at0 + R.sz) := hok
                  have HB2 : Hid (Below w.heap.size w w2) := HB.out.trans (hb2.mono hszw)
                  have hsz2 : w.heap.size ≤ w2.heap.size := Nat.le_trans hszw hb2.size
                  have HO2 : Hid (w2.ownsRow w.heap.size 33 5 u5 pre.length (tkCells pre)) := own_blockX HO.out (fun k cur hk => hb2.block k (Array.getElem?_eq_some_iff.1 hk).1)
                  unfold rtV
                  clear hok hb2 HO HB
                  by_cases he : R.e = 0
                  · obtain ⟨h1, h2, h3⟩ := HTK2.out he
                    obtain ⟨k1, k2, k3, k4⟩ := HOK.out he
                    have HSN : Hid (scanB l = joinS (pre ++ [⟨K, s, N', line, at0⟩]) (scanS l f' line X)) := by
                      show _ = _
                      rw [h1, k1, k2, k3, k4]
                    have hX1 : at0 + 1 ≤ X := by omega
                    have hX2 : X ≤ l.length := by omega
                    rw [he]
                    clear h1 h2 h3 k1 k2 k3 k4
                    go_wp2_with (at_builtin; refine append_tokC rfl _ _ rfl w.heap.size _ pre.length (tkCells pre) rfl ((HO2.out.alloc _).alloc _) _ [.int .i64 K, .string (strB s), .int .i64 N', .int .i64 line, .int .i64 at0] rfl rfl (by simp [Value.oneCell']) (fun j u hj => by have h := cells_new (w2.alloc (.cells #[.int .i64 K, .string (strB s), .int .i64 N', .int .i64 line, .int .i64 at0] 33)) _ 33 j u hj; rw [World.size_alloc] at h; exact h) (by omega) (by simp; omega) ?_; intro v4 w4 hown4 hgrow)
                    have HB4 : Hid (Below w.heap.size w w4) := ((HB2.out.alloc hsz2 _).alloc (by simp; omega) _).grown hgrow (by simp; omega) (fun q hq => (HO2.out.lt q hq).1)
                    have HO4 : Hid (w4.ownsRow w.heap.size 33 5 v4 (pre ++ [(⟨K, s, N', line, at0⟩ : Tk)]).length (tkCells (pre ++ [⟨K, s, N', line, at0⟩]))) := by
                      show w4.ownsRow _ _ _ _ _ _
                      rw [tkCells_snoc, List.length_append]
                      exact hown4
                    exact ⟨⟨f', line, X, pre ++ [⟨K, s, N', line, at0⟩], by go_num, by go_num, by omega, by omega, by omega, by simp; omega, HSN.out, HO4.out, HB4.out⟩, by simp [intOf]; omega⟩
                  · have heb : ((R.e : Int) != 0) = true := by rw [bne_iff_ne]; omega
                    have HE := HTK1.out he
                    go_wp2
                    refine bodyPost_ret (v := .tuple #[.slice none 0 0, .int .i64 at0, .int .i64 R.e]) (by simp [results, Tryd.results8, go_sem]) rfl ⟨.slice none 0 0, by rw [HE], by rw [HE]; exact World.ownsRow_nil _ _ _ _, ?_⟩
                    exact HB2.out.alloc hsz2 _

              · have hi2 : ¬ (at0 : Int) + 1 < l.length := by omega
                have HRM : Hid (remB (l.drop at0) = false) := by
                  show _ = false
                  rw [HDC.out, List.drop_of_length_le (by omega), remB_cons]
                  simp
                subst h47
                have hg0 : gapN (l.drop at0) = 0 := by rw [HDC.out]; exact gapN_tok (by rw [← HC.out]; exact hbl) (by rw [← HDC.out]; exact HRM.out)
                obtain ⟨f', rfl⟩ : ∃ f', f = f' + 1 := ⟨f - 1, by omega⟩
                have HTK := scanS_tok f' line pre hg0 hlt
                obtain ⟨R, hR⟩ : ∃ R, R = tokT (l.drop at0) := ⟨_, rfl⟩
                rw [← hR] at HTK
                have ct := refToken_any l at0 wr (by omega) hlt
                rw [← hR] at ct
                have HTK1 : Hid (R.e ≠ 0 → scanB l = ([], at0, R.e)) := fun h => HSC.out.trans (HTK.1 h)
                have HTK2 : Hid (R.e = 0 → scanB l = joinS (pre ++ [⟨R.k, R.s, R.n, line, at0⟩]) (scanS l f' line (at0 + R.sz)) ∧ 1 ≤ R.sz ∧ at0 + R.sz ≤ l.length) := fun h => ⟨HSC.out.trans (HTK.2 h).1, (HTK.2 h).2⟩
                clear HTK hR hg0 HSC
                go_wp2_with fail
                refine ct.mono ?_
                clear ct hidx
                rintro e w2 ⟨⟨v, rfl, K, N', X, s, rfl, hok⟩, hb2⟩
                have HOK : Hid (R.e = 0 → K = R.k ∧ s = R.s ∧ N' = R.n ∧ X = at0 + R.sz) := hok
                have HB2 : Hid (Below w.heap.size w w2) := HB.out.trans (hb2.mono hszw)
                have hsz2 : w.heap.size ≤ w2.heap.size := Nat.le_trans hszw hb2.size
                have HO2 : Hid (w2.ownsRow w.heap.size 33 5 u5 pre.length (tkCells pre)) := own_blockX HO.out (fun k cur hk => hb2.block k (Array.getElem?_eq_some_iff.1 hk).1)
                unfold rtV
                clear hok hb2 HO HB
                by_cases he : R.e = 0
                · obtain ⟨h1, h2, h3⟩ := HTK2.out he
                  obtain ⟨k1, k2, k3, k4⟩ := HOK.out he
                  have HSN : Hid (scanB l = joinS (pre ++ [⟨K, s, N', line, at0⟩]) (scanS l f' line X)) := by
                    show _ = _
                    rw [h1, k1, k2, k3, k4]
                  have hX1 : at0 + 1 ≤ X := by omega
                  have hX2 : X ≤ l.length := by omega
                  rw [he]
                  clear h1 h2 h3 k1 k2 k3 k4
                  go_wp2_with (at_builtin; refine append_tokC rfl _ _ rfl w.heap.size _ pre.length (tkCells pre) rfl ((HO2.out.alloc _).alloc _) _ [.int .i64 K, .string (strB s), .int .i64 N', .int .i64 line, .int .i64 at0] rfl rfl (by simp [Value.oneCell']) (fun j u hj => by have h := cells_new (w2.alloc (.cells #[.int .i64 K, .string (strB s), .int .i64 N', .int .i64 line, .int .i64 at0] 33)) _ 33 j u hj; rw [World.size_alloc] at h; exact h) (by omega) (by simp; omega) ?_; intro v4 w4 hown4 hgrow)
                  have HB4 : Hid (Below w.heap.size w w4) := ((HB2.out.alloc hsz2 _).alloc (by simp; omega) _).grown hgrow (by simp; omega) (fun q hq => (HO2.out.lt q hq).1)
                  have HO4 : Hid (w4.ownsRow w.heap.size 33 5 v4 (pre ++ [(⟨K, s, N', line, at0⟩ : Tk)]).length (tkCells (pre ++ [⟨K, s, N', line, at0⟩]))) := by
                    show w4.ownsRow _ _ _ _ _ _
                    rw [tkCells_snoc, List.length_append]
                    exact hown4
                  exact ⟨⟨f', line, X, pre ++ [⟨K, s, N', line, at0⟩], by go_num, by go_num, by omega, by omega, by omega, by simp; omega, HSN.out, HO4.out, HB4.out⟩, by simp [intOf]; omega⟩
                · have heb : ((R.e : Int) != 0) = true := by rw [bne_iff_ne]; omega
                  have HE := HTK1.out he
                  go_wp2
                  refine bodyPost_ret (v := .tuple #[.slice none 0 0, .int .i64 at0, .int .i64 R.e]) (by simp [results, Tryd.results8, go_sem]) rfl ⟨.slice none 0 0, by rw [HE], by rw [HE]; exact World.ownsRow_nil _ _ _ _, ?_⟩
                  exact HB2.out.alloc hsz2 _

            · have h47b : ((c : Int) == 47) = false := by rw [beq_eq_false_iff_ne]; omega
              have HRM : Hid (remB (l.drop at0) = false) := by
                show _ = false
                rw [HDC.out, remB_cons, ← HC.out]
                simp [h47]
              have hg0 : gapN (l.drop at0) = 0 := by rw [HDC.out]; exact gapN_tok (by rw [← HC.out]; exact hbl) (by rw [← HDC.out]; exact HRM.out)
              obtain ⟨f', rfl⟩ : ∃ f', f = f' + 1 := ⟨f - 1, by omega⟩
              have HTK := scanS_tok f' line pre hg0 hlt
              obtain ⟨R, hR⟩ : ∃ R, R = tokT (l.drop at0) := ⟨_, rfl⟩
              rw [← hR] at HTK
              have ct := refToken_any l at0 wr (by omega) hlt
              rw [← hR] at ct
              have HTK1 : Hid (R.e ≠ 0 → scanB l = ([], at0, R.e)) := fun h => HSC.out.trans (HTK.1 h)
              have HTK2 : Hid (R.e = 0 → scanB l = joinS (pre ++ [⟨R.k, R.s, R.n, line, at0⟩]) (scanS l f' line (at0 + R.sz)) ∧ 1 ≤ R.sz ∧ at0 + R.sz ≤ l.length) := fun h => ⟨HSC.out.trans (HTK.2 h).1, (HTK.2 h).2⟩
              clear HTK hR hg0 HSC
              go_wp2_with fail
              refine ct.mono ?_
              clear ct hidx
              rintro e w2 ⟨⟨v, rfl, K, N', X, s, rfl, hok⟩, hb2⟩
              have HOK : Hid (R.e = 0 → K = R.k ∧ s = R.s ∧ N' = R.n ∧ X = at0 + R.sz) := hok
              have HB2 : Hid (Below w.heap.size w w2) := HB.out.trans (hb2.mono hszw)
              have hsz2 : w.heap.size ≤ w2.heap.size := Nat.le_trans hszw hb2.size
              have HO2 : Hid (w2.ownsRow w.heap.size 33 5 u5 pre.length (tkCells pre)) := own_blockX HO.out (fun k cur hk => hb2.block k (Array.getElem?_eq_some_iff.1 hk).1)
              unfold rtV
              clear hok hb2 HO HB
              by_cases he : R.e = 0
              · obtain ⟨h1, h2, h3⟩ := HTK2.out he
                obtain ⟨k1, k2, k3, k4⟩ := HOK.out he
                have HSN : Hid (scanB l = joinS (pre ++ [⟨K, s, N', line, at0⟩]) (scanS l f' line X)) := by
                  show _ = _
                  rw [h1, k1, k2, k3, k4]
                have hX1 : at0 + 1 ≤ X := by omega
                have hX2 : X ≤ l.length := by omega
                rw [he]
                clear h1 h2 h3 k1 k2 k3 k4
                go_wp2_with (at_builtin; refine append_tokC rfl _ _ rfl w.heap.size _ pre.length (tkCells pre) rfl ((HO2.out.alloc _).alloc _) _ [.int .i64 K, .string (strB s), .int .i64 N', .int .i64 line, .int .i64 at0] rfl rfl (by simp [Value.oneCell']) (fun j u hj => by have h := cells_new (w2.alloc (.cells #[.int .i64 K, .string (strB s), .int .i64 N', .int .i64 line, .int .i64 at0] 33)) _ 33 j u hj; rw [World.size_alloc] at h; exact h) (by omega) (by simp; omega) ?_; intro v4 w4 hown4 hgrow)
                have HB4 : Hid (Below w.heap.size w w4) := ((HB2.out.alloc hsz2 _).alloc (by simp; omega) _).grown hgrow (by simp; omega) (fun q hq => (HO2.out.lt q hq).1)
                have HO4 : Hid (w4.ownsRow w.heap.size 33 5 v4 (pre ++ [(⟨K, s, N', line, at0⟩ : Tk)]).length (tkCells (pre ++ [⟨K, s, N', line, at0⟩]))) := by
                  show w4.ownsRow _ _ _ _ _ _
                  rw [tkCells_snoc, List.length_append]
                  exact hown4
                exact ⟨⟨f', line, X, pre ++ [⟨K, s, N', line, at0⟩], by go_num, by go_num, by omega, by omega, by omega, by simp; omega, HSN.out, HO4.out, HB4.out⟩, by simp [intOf]; omega⟩
              · have heb : ((R.e : Int) != 0) = true := by rw [bne_iff_ne]; omega
                have HE := HTK1.out he
                go_wp2
                refine bodyPost_ret (v := .tuple #[.slice none 0 0, .int .i64 at0, .int .i64 R.e]) (by simp [results, Tryd.results8, go_sem]) rfl ⟨.slice none 0 0, by rw [HE], by rw [HE]; exact World.ownsRow_nil _ _ _ _, ?_⟩
                exact HB2.out.alloc hsz2 _
    · obtain rfl : at0 = l.length := by omega
      obtain ⟨f', rfl⟩ : ∃ f', f = f' + 1 := ⟨f - 1, by omega⟩
      have HE : Hid (scanB l = (pre ++ [⟨0, [], 0, line, l.length⟩], 0, 0)) := HSC.out.trans (scanS_out l f' line pre)
      clear HSC
      go_wp2_with (at_builtin; refine append_tokC rfl _ _ rfl w.heap.size _ pre.length (tkCells pre) rfl (HO.out.alloc _) _ [.int .i64 0, .string ⟨#[]⟩, .int .i64 0, .int .i64 line, .int .i64 l.length] rfl rfl (by simp [Value.oneCell']) (cells_new _ _ _) (by omega) (by simp; omega) ?_; intro v4 w4 hown4 hgrow)
      have HB4 : Hid (Below w.heap.size w w4) := (HB.out.alloc hszw _).grown hgrow (by simp; omega) (fun q hq => (HO.out.lt q hq).1)
      have E := HE.out
      refine bodyPost_ret (v := .tuple #[v4, .int .i64 0, .int .i64 0]) (by simp [results, Tryd.results8, go_sem]) rfl ⟨v4, by rw [E]; rfl, ?_, HB4.out⟩
      rw [E]
      show w4.ownsRow _ _ _ _ (pre ++ [_]).length _
      rw [tkCells_snoc, List.length_append]
      exact hown4

set_option maxRecDepth 100000 in
set_option maxHeartbeats 2000000 in
theorem refScan_any (l : List UInt8) (w : World) :
    Calls Tryd.prog 8 #[.string (strB l)] w fun e w' => ∃ (r : Value), e = .returned (.tuple #[r, .int .i64 (scanB l).2.1, .int .i64 (scanB l).2.2]) ∧
      w'.ownsRow w.heap.size 33 5 r (scanB l).1.length (tkCells (scanB l).1) ∧ Below w.heap.size w w' := by
  by_cases h : 4096 < l.length
  · have HS : Hid (scanB l = ([], 0, 5)) := if_pos h
    have hsz : (strB l).size = l.length := rfl
    have hbig : decide ((4096 : Int) < (l.length : Int)) = true := by simp; omega
    go_enter Tryd.func8, Tryd.ntmps8
    go_wp2
    have E := HS.out
    exact bodyPost_ret (v := .tuple #[.slice none 0 0, .int .i64 0, .int .i64 5]) (by simp [results, Tryd.results8, go_sem]) rfl ⟨.slice none 0 0, by rw [E]; rfl, by rw [E]; exact World.ownsRow_nil _ _ _ _, Below.refl _ _⟩
  · exact refScan_in l w (by omega)
end Go.Proofs.YtjhfkiighphepaaDoor
