/- Of frames that stand one behind the other, and are cut off anywhere, those that are whole are told, and their end: the walk of FrameCut. -/
import Derived.Test.YtffedjgbhdaecaaFCutMath
import Derived.Test.YtffedjgbhdaecaaFRows
import Derived.Test.YtffedjgbhdaecaaLFGets
namespace Go.Proofs.Ytffedjgbhdaecaa
open Go.RowKit

/-- What short answers. -/
def ShortPost (ls : List (List UInt8)) (w : World) (e : Ending) (w' : World) : Prop := ∃ q : Bool, e = .returned (.bool q) ∧ (q = true → ls.length ≤ 60 ∧ ∀ y ∈ ls, y.length ≤ 2000) ∧ w = w'

set_option maxHeartbeats 1000000 in
set_option maxRecDepth 100000 in
theorem short_any (v : Value) (ls : List (List UInt8)) (w : World) (hv : rowsAt w v ls) :
    Calls Try.prog 21 #[v] w (ShortPost ls w) := by
  obtain ⟨base, cap, rfl, hm, hc⟩ := hv
  unfold maxLen at hm
  have HC : Hid (∀ i (hi : i < ls.length), ∃ b o vi, base = some ⟨b, o, none⟩ ∧ w.cell? ⟨b, o + i, none⟩ = some vi ∧ bytesAt w vi ls[i]) := hc
  clear hc
  go_enter Try.func21, Try.ntmps21
  go_wp2
  go_loop [3, 4] (fun vs vi => ∃ k s : Nat, k ≤ ls.length ∧ k ≤ 60 ∧ (∀ y ∈ ls.take k, y.length ≤ 2000) ∧ s ≤ 2000 * k ∧ vi = .int .i64 k ∧ vs = .int .i64 s) (fun _ i => ls.length - (intOf i).toNat)
  case atStart => exact ⟨0, 0, Nat.zero_le _, by omega, by simp, by omega, rfl, rfl⟩
  case round =>
    obtain ⟨k, s, hk, hk60, hall, hs, rfl, rfl⟩ := hrel
    have HALL : Hid (∀ y ∈ ls.take k, y.length ≤ 2000) := hall
    clear hall
    by_cases hlt : k < ls.length
    · obtain ⟨b, o, vi, rfl, hcell, hby⟩ := HC.out k hlt
      have hbl := bytesAt_len hby
      obtain ⟨bi, ci, rfl, -⟩ := hby
      obtain ⟨n, hn⟩ : ∃ n, n = ls[k].length := ⟨_, rfl⟩
      rw [← hn] at hbl hcell
      unfold maxLen at hbl
      have HN : Hid (n = ls[k].length) := hn
      clear hn HC
      by_cases h60 : k < 60
      · by_cases h2000 : n ≤ 2000
        · go_wp2
          refine ⟨⟨k + 1, s + n, by omega, by omega, ?_, by omega, by go_num, by go_num⟩, by simp [intOf]; omega⟩
          intro y hy
          rw [List.take_succ_eq_append_getElem hlt, List.mem_append] at hy
          rcases hy with hy | hy
          · exact HALL.out y hy
          · simp at hy; rw [hy, ← HN.out]; exact h2000
        · go_wp2
          go_ret
          exact ⟨false, rfl, (fun h => by cases h), rfl⟩
      · go_wp2
        go_ret
        exact ⟨false, rfl, (fun h => by cases h), rfl⟩
    · obtain rfl : k = ls.length := by omega
      go_wp2
      go_ret
      exact ⟨_, rfl, fun _ => ⟨hk60, fun y hy => HALL.out y (by rw [List.take_length]; exact hy)⟩, rfl⟩

set_option maxRecDepth 100000 in
theorem info_i64 : (Try.prog.info? 3).map (fun i => (i.zero, i.size, i.bytes)) = some (some (.int .i64 0), 1, 8) := by kernel_rfl

/-- The ends of the first k frames. -/
def endsV (ls : List (List UInt8)) (k : Nat) : List Value := (List.range k).map fun j => .int .i64 ((catF (ls.take (j + 1))).length : Int)

theorem endsV_len (ls : List (List UInt8)) (k : Nat) : (endsV ls k).length = k := by simp [endsV]
theorem endsV_snoc (ls : List (List UInt8)) (k : Nat) : endsV ls (k + 1) = endsV ls k ++ [.int .i64 ((catF (ls.take (k + 1))).length : Int)] := by
  simp [endsV, List.range_succ]
theorem endsV_at (ls : List (List UInt8)) (k i : Nat) (h : i < (endsV ls k).length) : (endsV ls k)[i] = .int .i64 ((catF (ls.take (i + 1))).length : Int) := by
  simp [endsV]

theorem catF_take_le {ls : List (List UInt8)} (h1 : ls.length ≤ 60) (h2 : ∀ y ∈ ls, y.length ≤ 2000) (k : Nat) : (catF (ls.take k)).length ≤ 120840 := by
  have h := catF_len_le (ls.take k) (fun y hy => h2 y (List.mem_of_mem_take hy))
  have h3 : (ls.take k).length ≤ 60 := by rw [List.length_take]; omega
  omega

set_option maxHeartbeats 20000000 in
set_option maxRecDepth 100000 in
theorem fcut_walk (vl : Value) (ls : List (List UInt8)) (at0 : Int) (w : World) (hl : rowsAt w vl ls) :
    Calls Try.prog 5 #[vl, .int .i64 at0] w fun e w' => e = .returned (.bool true) ∧ Below w.heap.size w w' := by
  obtain ⟨i0, hi, hz0, hz1, hz2⟩ := info_parts info_i64
  have HR : Hid (rowsAt w vl ls) := hl
  obtain ⟨base, cap, rfl, hm, -⟩ := hl
  unfold maxLen at hm
  obtain ⟨U, hU⟩ : ∃ U : Nat, IntKind.u64.wrap at0 = (U : Int) := ⟨(at0 % 18446744073709551616).toNat, by show at0 % 18446744073709551616 = _; omega⟩
  go_enter Try.func5, Try.ntmps5
  go_wp2_with fail
  refine (short_any _ ls w HR.out).mono ?_
  rintro e w1 ⟨q, rfl, hq, rfl⟩
  cases q with
  | false =>
    clear hq
    go_wp2_with fail
    refine (lives02_any w).mono ?_
    rintro e w3 ⟨rfl, hb3⟩
    have HF : Hid (Below w.heap.size w w3) := hb3
    clear hb3
    go_wp2
    go_ret
    exact ⟨rfl, HF.out⟩
  | true =>
    obtain ⟨h60, h2000⟩ := hq rfl
    have HS : Hid (∀ y ∈ ls, y.length ≤ 2000) := h2000
    have HT : Hid (∀ k, (catF (ls.take k)).length ≤ 120840) := catF_take_le h60 h2000
    clear hq h2000
    go_wp2
    go_loopw [5, 6, 7] (fun vb ve vi wr => ∃ k : Nat, k ≤ ls.length ∧ vi = .int .i64 k ∧ wr.ownsRow w.heap.size 5 1 vb (catF (ls.take k)).length (Lib.byteCells (catF (ls.take k))) ∧ wr.ownsRow w.heap.size 3 1 ve k (endsV ls k) ∧ Below w.heap.size w wr) (fun _ _ i _ => ls.length - (intOf i).toNat)
    case atStart => exact ⟨0, Nat.zero_le _, rfl, World.ownsRow_nil _ _ _ _, World.ownsRow_nil _ _ _ _, Below.refl _ _⟩
    case round =>
      obtain ⟨k, hk, rfl, hown, hends, hbw⟩ := hrel
      have hszw := hbw.size
      have HBW : Hid (Below w.heap.size w wr) := hbw
      have HRW := rowsAt_below HR.out hbw (Nat.le_refl _)
      have hT := HT.out k
      by_cases hlt : k < ls.length
      · obtain ⟨base', cap', hv', -, hc⟩ := HRW
        cases hv'
        obtain ⟨b, o, vi, rfl, hcell, hby⟩ := hc k hlt
        have hy2 := HS.out ls[k] (List.getElem_mem hlt)
        have c1 := put_any u5 vi _ ls[k] wr (bytesAt_own hown) hby (by omega) (by omega)
        rw [← catF_snoc ls k hlt] at c1
        have HE : Hid (wr.ownsRow w.heap.size 3 1 u6 k (endsV ls k)) := hends
        obtain ⟨bi, ci, rfl, -⟩ := hby
        clear hown hends hbw hc
        go_wp2_with fail
        refine c1.mono ?_
        clear c1
        rintro e w2 ⟨v2, rfl, hown2, hb2⟩
        have hsz2 := hb2.size
        have HB2 : Hid (Below w.heap.size w w2) := HBW.out.trans (hb2.mono hszw)
        have HO2 : Hid (w2.ownsRow w.heap.size 5 1 v2 (catF (ls.take (k + 1))).length (Lib.byteCells (catF (ls.take (k + 1))))) := own_base hown2 hszw
        have hE2 := own_keptC HE.out hb2 (Nat.le_refl _)
        have HE2 : Hid (w2.ownsRow w.heap.size 3 1 u6 k (endsV ls k)) := hE2
        obtain ⟨base2, cap2, rfl, -, -, -, -⟩ := own_row hown2
        have HBK : Hid (∀ q, (Value.slice base2 (catF (ls.take (k + 1))).length cap2).ownBlock = some q → wr.heap.size ≤ q) := fun q hq => (hown2.lt q hq).1
        have hT2 := HT.out (k + 1)
        obtain ⟨m, hm9⟩ : ∃ m, m = (catF (ls.take (k + 1))).length := ⟨_, rfl⟩
        rw [← hm9] at hT2 ⊢
        have HM : Hid (m = (catF (ls.take (k + 1))).length) := hm9
        clear hown2 hb2 hE2 hm9
        go_wp2_with (at_builtin; refine wpList_append_own _ rfl _ _ 50 rfl w.heap.size 3 i0 (.int .i64 0) 1 8 Try.underlying50 hi hz0 hz1 hz2 rfl (by decide) _ _ _ rfl (HE2.out.alloc _) ⟨w2.heap.size, 0, none⟩ 1 1 [Value.int .i64 (m : Int)] rfl rfl ?c1 ?c2 ?c3 ?c4 ?c5 ?_)
        case c1 =>
          intro j u hj
          match j, hj with
          | 0, hj => simp at hj; subst hj; simp [Addr.add]
        case c2 => intro u hu; simp at hu; subst hu; rfl
        case c3 => unfold maxLen; omega
        case c4 => omega
        case c5 => simp; omega
        intro v3 w3 hown3 hgrow _
        have HB3 : Hid (Below w.heap.size w w3) := (HB2.out.alloc (by omega) _).grown hgrow (by simp; omega) (fun q hq => (HE2.out.lt q hq).1)
        have HO3 : Hid (w3.ownsRow w.heap.size 5 1 (.slice base2 m cap2) (catF (ls.take (k + 1))).length (Lib.byteCells (catF (ls.take (k + 1))))) := by
          rw [HM.out]
          refine (HO2.out.alloc _).kept hgrow ?_
          cases hb9 : (Value.slice base2 (catF (ls.take (k + 1))).length cap2).ownBlock with
          | none => exact .inl rfl
          | some q =>
            refine .inr (fun heq => ?_)
            have h1 := HBK.out q hb9
            have h2 := (HE.out.lt q heq.symm).2
            omega
        clear hgrow
        go_wp2
        refine ⟨⟨k + 1, by omega, by go_num, HO3.out, ?_, HB3.out⟩, by simp [intOf]; omega⟩
        rw [endsV_snoc, ← HM.out]
        exact hown3
      · obtain rfl : k = ls.length := by omega
        clear HRW
        rw [List.take_length] at hown hT
        obtain ⟨B, hB⟩ : ∃ B, B = catF ls := ⟨_, rfl⟩
        rw [← hB] at hown hT
        have hby := bytesAt_own hown
        obtain ⟨baseB, capB, rfl, -, hlcB, hcmB, -⟩ := own_row hown
        obtain ⟨baseE, capE, rfl, hcE⟩ := own_list hends
        have HCE : Hid (∀ i (hi : i < (endsV ls ls.length).length), ∃ g, baseE = some ⟨g, 0, none⟩ ∧ wr.cell? ⟨g, i, none⟩ = some (endsV ls ls.length)[i]) := hcE
        have HBE : Hid (B = catF ls) := hB
        obtain ⟨cut, hcut⟩ : ∃ cut, cut = U % (B.length + 1) := ⟨_, rfl⟩
        have hcl : cut ≤ B.length := by rw [hcut]; have := Nat.mod_lt U (show 0 < B.length + 1 by omega); omega
        have hto := fun wx => run_to wx baseB B.length capB cut (by omega)
        have HBY : Hid (bytesAt wr (.slice baseB cut capB) (B.take cut)) := bytesAt_take hby cut hcl
        have HTL : Hid ((B.take cut).length ≤ 1000000000000) := Nat.le_trans (List.length_take_le' ..) (Nat.le_trans hT (by decide))
        have hke : wrap64 ((U : Int) % ((B.length : Int) + 1)) = (cut : Int) := by
          rw [show (B.length : Int) + 1 = ((B.length + 1 : Nat) : Int) by omega, ← Int.natCast_emod, ← hcut]
          unfold wrap64
          omega
        unfold maxLen at hcmB
        clear hown hends hbw hby hcE hB hcut
        go_wp2_with fail
        rw [hke]
        refine (all_any _ (B.take cut) wr HBY.out HTL.out).mono ?_
        clear hto hke hU
        rintro e w2 ⟨r, a, ps, rfl, hfr, -, hae, hown2, hps, hb2⟩
        have HB2 : Hid (Below w.heap.size w w2) := HBW.out.trans (hb2.mono hszw)
        have HFR : Hid (framesTo (B.take cut) 0 (ps.map (·.2)) a) := hfr
        have HAE : Hid ((getAt (B.take cut) a).2.2 ≠ 0) := hae
        have HP : Hid (∀ p : Value × List UInt8, p ∈ ps → w2.ownsRow wr.heap.size 5 1 p.1 p.2.length (Lib.byteCells p.2)) := hps
        obtain ⟨baseA, capA, rfl, hcA⟩ := own_list hown2
        have HCA : Hid (∀ i (hi : i < (ps.map (·.1)).length), ∃ g, baseA = some ⟨g, 0, none⟩ ∧ w2.cell? ⟨g, i, none⟩ = some (ps.map (·.1))[i]) := hcA
        have HCE2 : Hid (∀ i, i < ls.length → ∃ g, baseE = some ⟨g, 0, none⟩ ∧ w2.cell? ⟨g, i, none⟩ = some (.int .i64 ((catF (ls.take (i + 1))).length : Int))) := fun i hi => by
          obtain ⟨g, hg, hc⟩ := HCE.out i (by rw [endsV_len]; exact hi)
          rw [endsV_at] at hc
          exact ⟨g, hg, by rw [hb2.cell (World.block_lt_of_cell? wr _ hc)]; exact hc⟩
        have hpsl : 4 * ps.length ≤ 120840 := by
          have h := framesTo_len hfr (Nat.zero_le _)
          rw [List.length_map, List.length_take] at h
          omega
        clear hfr hae hps hcA hown2 hb2 HCE HBY HBW
        go_wp2
        go_loop [13] (fun vk => ∃ k : Nat, k ≤ ls.length ∧ (catF (ls.take k)).length ≤ cut ∧ vk = .int .i64 k) (fun k => ls.length - (intOf k).toNat)
        case atStart => exact ⟨0, Nat.zero_le _, Nat.zero_le _, rfl⟩
        case round =>
          obtain ⟨k, hk, hkc, rfl⟩ := hrel
          have HKC : Hid ((catF (ls.take k)).length ≤ cut) := hkc
          clear hkc
          obtain ⟨m, hm9⟩ : ∃ m, m = (catF (ls.take (k + 1))).length := ⟨_, rfl⟩
          have hm120 : m ≤ 120840 := by rw [hm9]; exact HT.out _
          have HM : Hid (m = (catF (ls.take (k + 1))).length) := hm9
          by_cases hgo : k < ls.length ∧ m ≤ cut
          · obtain ⟨h1, h2⟩ := hgo
            obtain ⟨g, rfl, hc⟩ := HCE2.out k h1
            rw [← hm9] at hc
            clear hm9 HCE2
            go_wp2
            refine ⟨⟨k + 1, by omega, by rw [← HM.out]; exact h2, by go_num⟩, by simp [intOf]; omega⟩
          · have hend : k = ls.length ∨ cut < m := by omega
            have cm := cut_math (ys := ls) (c := cut) (fun y hy => by have := HS.out y hy; omega) hk HKC.out (by rw [← hm9]; exact hend)
            rw [← HBE.out] at cm
            obtain ⟨d1, d2⟩ := framesTo_det HAE.out cm.2 _ _ _ HFR.out cm.1
            have hpk : ps.length = k := by
              have := congrArg List.length d1
              rw [List.length_map, List.length_take] at this
              omega
            have HD : Hid (ps.map (·.2) = ls.take k) := d1
            have hcd : ∀ h : k < ls.length, ∃ g, baseE = some ⟨g, 0, none⟩ ∧ w2.cell? ⟨g, k, none⟩ = some (.int .i64 (m : Int)) := fun h => by
              rw [hm9]; exact HCE2.out k h
            have HCD : Hid (∀ h : k < ls.length, ∃ g, baseE = some ⟨g, 0, none⟩ ∧ w2.cell? ⟨g, k, none⟩ = some (.int .i64 (m : Int))) := hcd
            have HA : Hid (a = (catF (ls.take k)).length) := d2
            have ha120 : a ≤ 120840 := by rw [d2]; exact HT.out _
            clear cm d1 d2 hm9 hcd hgo
            by_cases hlt : k < ls.length
            · obtain ⟨g, rfl, hc⟩ := HCD.out hlt
              have hcm : cut < m := by omega
              clear HCD hend
              by_cases hk0 : k = 0
              · subst hk0
                obtain rfl : a = 0 := by rw [HA.out]; rfl
                go_wp2
                go_loopw [14] (fun vi wr => ∃ i : Nat, i ≤ 0 ∧ vi = .int .i64 i ∧ Below w2.heap.size w2 wr) (fun i _ => 0 - (intOf i).toNat)
                case atStart => exact ⟨0, Nat.zero_le _, rfl, Below.refl _ _⟩
                case round =>
                  obtain ⟨i, hi9, rfl, hbw⟩ := hrel
                  have HBW9 : Hid (Below w2.heap.size w2 wr) := hbw
                  by_cases hlt9 : i < 0
                  · omega
                  · have HBR : Hid (Below w.heap.size w wr) := HB2.out.trans (hbw.mono HB2.out.size)
                    clear hbw HCA HBW9 HCE2
                    go_wp2_with fail
                    refine (lives02_any wr).mono ?_
                    rintro e w9 ⟨rfl, hb9⟩
                    have HF : Hid (Below w.heap.size w w9) := HBR.out.trans (hb9.mono HBR.out.size)
                    clear hb9
                    go_wp2
                    go_ret
                    exact ⟨rfl, HF.out⟩
              · obtain ⟨k', rfl⟩ : ∃ k', k = k' + 1 := ⟨k - 1, by omega⟩
                obtain ⟨g2, hg2, hc2⟩ := HCE2.out k' (by omega)
                rw [← HA.out] at hc2
                cases hg2
                go_wp2
                go_loopw [14] (fun vi wr => ∃ i : Nat, i ≤ (k' + 1) ∧ vi = .int .i64 i ∧ Below w2.heap.size w2 wr) (fun i _ => (k' + 1) - (intOf i).toNat)
                case atStart => exact ⟨0, Nat.zero_le _, rfl, Below.refl _ _⟩
                case round =>
                  obtain ⟨i, hi9, rfl, hbw⟩ := hrel
                  have HBW9 : Hid (Below w2.heap.size w2 wr) := hbw
                  by_cases hlt9 : i < (k' + 1)
                  · obtain ⟨gL, rfl, hcL⟩ := HCA.out i (by rw [List.length_map]; omega)
                    rw [List.getElem_map] at hcL
                    have kL := hbw.cell (World.block_lt_of_cell? w2 _ hcL)
                    rw [hcL] at kL
                    have hR9 := rowsAt_below (rowsAt_below HR.out HB2.out (Nat.le_refl _)) hbw (Nat.le_refl _)
                    obtain ⟨base', cap', hv', -, hcR⟩ := hR9
                    cases hv'
                    obtain ⟨bR, oR, vR, rfl, hcellR, hbyR⟩ := hcR i (by omega)
                    have hips : i < ps.length := by omega
                    have heq : ps[i].2 = ls[i]'(by omega) := by
                      have h1 : (ps.map (·.2))[i]? = (ls.take (k' + 1))[i]? := by rw [HD.out]
                      rw [List.getElem?_map, List.getElem?_eq_getElem hips, List.getElem?_take_of_lt hlt9, List.getElem?_eq_getElem (by omega)] at h1
                      simpa using h1
                    have hpi := HP.out ps[i] (List.getElem_mem hips)
                    rcases hps : ps[i] with ⟨pv, px⟩
                    rw [hps] at kL hpi heq
                    simp only at kL hpi heq
                    rw [← heq] at hbyR
                    obtain ⟨baseP, capP, rfl, hrowP, -, -, -⟩ := own_row hpi
                    have hrR := fun cR bR' (h : bytesAt wr (.slice bR' px.length cR) px) => (bytesAt_row h).2.1
                    obtain ⟨bR2, cR2, rfl, -⟩ := id hbyR
                    have hconv : ∀ n, (convert 22 9 (.slice baseP px.length capP)).run Try.prog (wr.drewN n) = .ok (.string ⟨px.toArray⟩) (wr.drewN n) := fun n => conv_row _ _ _ _ (rowAt_drewN n (rowAt_below hrowP hbw (Nat.le_refl _)))
                    have hconv2 : ∀ n, (convert 22 9 (.slice bR2 px.length cR2)).run Try.prog (wr.drewN n) = .ok (.string ⟨px.toArray⟩) (wr.drewN n) := fun n => conv_row _ _ _ _ (rowAt_drewN n (hrR _ _ hbyR))
                    clear hpi hrowP hcL hps hbw HCA hcR hbyR hrR heq HCE2
                    go_wp2_with fail
                    go_quiet (fail)
                    go_wp2
                    refine ⟨⟨i + 1, by omega, by go_num, HBW9.out.trans ⟨rfl, rfl, rfl, Nat.le_refl _, fun _ _ => rfl⟩⟩, by simp [intOf]; omega⟩
                  · have HBR : Hid (Below w.heap.size w wr) := HB2.out.trans (hbw.mono HB2.out.size)
                    clear hbw HCA HBW9 HCE2
                    go_wp2_with fail
                    refine (lives02_any wr).mono ?_
                    rintro e w9 ⟨rfl, hb9⟩
                    have HF : Hid (Below w.heap.size w w9) := HBR.out.trans (hb9.mono HBR.out.size)
                    clear hb9
                    go_wp2
                    go_ret
                    exact ⟨rfl, HF.out⟩
            · clear HCD hend
              by_cases hk0 : k = 0
              · subst hk0
                obtain rfl : a = 0 := by rw [HA.out]; rfl
                go_wp2
                go_loopw [14] (fun vi wr => ∃ i : Nat, i ≤ 0 ∧ vi = .int .i64 i ∧ Below w2.heap.size w2 wr) (fun i _ => 0 - (intOf i).toNat)
                case atStart => exact ⟨0, Nat.zero_le _, rfl, Below.refl _ _⟩
                case round =>
                  obtain ⟨i, hi9, rfl, hbw⟩ := hrel
                  have HBW9 : Hid (Below w2.heap.size w2 wr) := hbw
                  by_cases hlt9 : i < 0
                  · omega
                  · have HBR : Hid (Below w.heap.size w wr) := HB2.out.trans (hbw.mono HB2.out.size)
                    clear hbw HCA HBW9 HCE2
                    go_wp2_with fail
                    refine (lives02_any wr).mono ?_
                    rintro e w9 ⟨rfl, hb9⟩
                    have HF : Hid (Below w.heap.size w w9) := HBR.out.trans (hb9.mono HBR.out.size)
                    clear hb9
                    go_wp2
                    go_ret
                    exact ⟨rfl, HF.out⟩
              · obtain ⟨k', rfl⟩ : ∃ k', k = k' + 1 := ⟨k - 1, by omega⟩
                obtain ⟨g2, hg2, hc2⟩ := HCE2.out k' (by omega)
                rw [← HA.out] at hc2
                subst hg2
                go_wp2
                go_loopw [14] (fun vi wr => ∃ i : Nat, i ≤ (k' + 1) ∧ vi = .int .i64 i ∧ Below w2.heap.size w2 wr) (fun i _ => (k' + 1) - (intOf i).toNat)
                case atStart => exact ⟨0, Nat.zero_le _, rfl, Below.refl _ _⟩
                case round =>
                  obtain ⟨i, hi9, rfl, hbw⟩ := hrel
                  have HBW9 : Hid (Below w2.heap.size w2 wr) := hbw
                  by_cases hlt9 : i < (k' + 1)
                  · obtain ⟨gL, rfl, hcL⟩ := HCA.out i (by rw [List.length_map]; omega)
                    rw [List.getElem_map] at hcL
                    have kL := hbw.cell (World.block_lt_of_cell? w2 _ hcL)
                    rw [hcL] at kL
                    have hR9 := rowsAt_below (rowsAt_below HR.out HB2.out (Nat.le_refl _)) hbw (Nat.le_refl _)
                    obtain ⟨base', cap', hv', -, hcR⟩ := hR9
                    cases hv'
                    obtain ⟨bR, oR, vR, rfl, hcellR, hbyR⟩ := hcR i (by omega)
                    have hips : i < ps.length := by omega
                    have heq : ps[i].2 = ls[i]'(by omega) := by
                      have h1 : (ps.map (·.2))[i]? = (ls.take (k' + 1))[i]? := by rw [HD.out]
                      rw [List.getElem?_map, List.getElem?_eq_getElem hips, List.getElem?_take_of_lt hlt9, List.getElem?_eq_getElem (by omega)] at h1
                      simpa using h1
                    have hpi := HP.out ps[i] (List.getElem_mem hips)
                    rcases hps : ps[i] with ⟨pv, px⟩
                    rw [hps] at kL hpi heq
                    simp only at kL hpi heq
                    rw [← heq] at hbyR
                    obtain ⟨baseP, capP, rfl, hrowP, -, -, -⟩ := own_row hpi
                    have hrR := fun cR bR' (h : bytesAt wr (.slice bR' px.length cR) px) => (bytesAt_row h).2.1
                    obtain ⟨bR2, cR2, rfl, -⟩ := id hbyR
                    have hconv : ∀ n, (convert 22 9 (.slice baseP px.length capP)).run Try.prog (wr.drewN n) = .ok (.string ⟨px.toArray⟩) (wr.drewN n) := fun n => conv_row _ _ _ _ (rowAt_drewN n (rowAt_below hrowP hbw (Nat.le_refl _)))
                    have hconv2 : ∀ n, (convert 22 9 (.slice bR2 px.length cR2)).run Try.prog (wr.drewN n) = .ok (.string ⟨px.toArray⟩) (wr.drewN n) := fun n => conv_row _ _ _ _ (rowAt_drewN n (hrR _ _ hbyR))
                    clear hpi hrowP hcL hps hbw HCA hcR hbyR hrR heq HCE2
                    go_wp2_with fail
                    go_quiet (fail)
                    go_wp2
                    refine ⟨⟨i + 1, by omega, by go_num, HBW9.out.trans ⟨rfl, rfl, rfl, Nat.le_refl _, fun _ _ => rfl⟩⟩, by simp [intOf]; omega⟩
                  · have HBR : Hid (Below w.heap.size w wr) := HB2.out.trans (hbw.mono HB2.out.size)
                    clear hbw HCA HBW9 HCE2
                    go_wp2_with fail
                    refine (lives02_any wr).mono ?_
                    rintro e w9 ⟨rfl, hb9⟩
                    have HF : Hid (Below w.heap.size w w9) := HBR.out.trans (hb9.mono HBR.out.size)
                    clear hb9
                    go_wp2
                    go_ret
                    exact ⟨rfl, HF.out⟩
end Go.Proofs.Ytffedjgbhdaecaa
