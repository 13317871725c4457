/- store: the document's own 'with'. -/
import Derived.Test.YtancnmbgncofiaaKRef2
import Derived.Test.YtancnmbgncofiaaKWithM
namespace Go.Proofs.Ytancnmbgncofiaa
open Go.RowKit

theorem itC_one (p : Int) (b : List UInt8) : ∀ u ∈ [Value.int .i64 p, .string ⟨b.toArray⟩], u.oneCell' = true := by
  intro u hu
  simp at hu
  rcases hu with rfl | rfl <;> rfl
theorem itC_one' (p : Int) (sb : ByteArray) : ∀ u ∈ [Value.int .i64 p, .string sb], u.oneCell' = true := by
  intro u hu
  simp at hu
  rcases hu with rfl | rfl <;> rfl
theorem itC_snoc (l : List PB) (x : PB) : itC (l ++ [x]) = itC l ++ [.int .i64 x.1, .string ⟨x.2.toArray⟩] := by rw [itC_app]; rfl

/-- Items that were laid behind w1. -/
def ItIn (w1 wr : World) (v : Value) (L : List PB) : Prop := wr.ownsRow w1.heap.size 49 2 v L.length (itC L) ∧ Below w1.heap.size w1 wr
theorem ItIn.nil (w1 : World) : ItIn w1 w1 (.slice none 0 0) [] := ⟨World.ownsRow_nil _ _ _ _, Below.refl _ _⟩
theorem ItIn.drew {w1 wr : World} {v : Value} {L : List PB} (h : ItIn w1 wr v L) (q : Nat) : ItIn w1 (wr.drewN q) v L := ⟨h.1, ⟨h.2.os, h.2.tape, h.2.output, h.2.size, h.2.block⟩⟩
theorem ItIn.snoc {w1 wr w2 : World} {v v' : Value} {L : List PB} {x : PB} {blk : Obj} (h : ItIn w1 wr v L) (ho : w2.ownsRow w1.heap.size 49 2 v' (L.length + 1) (itC L ++ [.int .i64 x.1, .string ⟨x.2.toArray⟩])) (hg : (wr.alloc blk).grownBy w2 v.ownBlock) : ItIn w1 w2 v' (L ++ [x]) := by
  refine ⟨?_, (h.2.alloc h.2.size _).grown hg (by have := h.2.size; simp; omega) (fun k hk => (h.1.lt k hk).1)⟩
  rw [itC_snoc, List.length_append]
  exact ho

set_option maxHeartbeats 8000000 in
set_option maxRecDepth 100000 in
theorem rWith_any (l : List PB) (v : Value) (p : Int) (b : List UInt8) (at0 : Nat) (is : Bool) (w : World) (H : RfIn w v l) (hl : l.length ≤ 100) (hr : (l.map (·.1)).Pairwise (· < ·)) (hat : AtL (l.map (·.1)) p at0 is) :
    Calls Try.prog 14 #[v, .agg #[.int .i64 p, .string ⟨b.toArray⟩]] w fun e w' => ∃ x, e = .returned x ∧ RfIn w' x (withL l at0 is (p, b)) ∧ Below w.heap.size w w' := by
  obtain ⟨i0, hi0, hz0, hz1, hz2⟩ := info_parts info_item
  obtain ⟨base, cap, hv, hc1, hc2⟩ := kown_val H
  obtain ⟨n, hn⟩ : ∃ n, n = l.length := ⟨_, rfl⟩
  have HN : Hid (n = l.length) := hn
  rw [← hn] at hv hc1 hl
  subst hv
  obtain ⟨sb, hsb⟩ : ∃ sb : ByteArray, sb = ⟨b.toArray⟩ := ⟨_, rfl⟩
  have HSB : Hid (sb = ⟨b.toArray⟩) := hsb
  rw [← hsb]
  obtain ⟨w1, hw1⟩ : ∃ w1, w1 = w.alloc (.cells #[.int .i64 p, .string sb] 49) := ⟨_, rfl⟩
  have hb1 : Below w.heap.size w w1 := by rw [hw1]; exact (Below.refl _ w).alloc (Nat.le_refl _) _
  have hblk : w1.heap[w.heap.size]? = some (.cells #[.int .i64 p, .string sb] 49 (0, 0)) := by rw [hw1]; exact heap_alloc_new _ _
  have HW1 : Hid (w.heap.size < w1.heap.size) := (Array.getElem?_eq_some_iff.1 hblk).1
  obtain ⟨q0, q1, -⟩ := kcells2 hblk
  have Q0 : Hid (w1.cell? ⟨w.heap.size, 0, none⟩ = some (.int .i64 p)) := q0
  have Q1 : Hid (w1.cell? ⟨w.heap.size, 1, none⟩ = some (.string sb)) := q1
  have HR : Hid (RfIn w1 (.slice base n cap) l) := H.below hb1
  have HB1 : Hid (Below w.heap.size w w1) := hb1
  have HAT : Hid (AtL (l.map (·.1)) p at0 is) := hat
  have HRI : Hid ((l.map (·.1)).Pairwise (· < ·)) := hr
  have hw1' := hw1.symm
  clear hn H hw1 hblk hb1 q0 q1 hat hr hsb
  go_enter Try.func14, Try.ntmps14
  go_wp2
  go_loopw [5, 6, 7] (fun vo vl vi wr => ∃ i : Nat, i ≤ n ∧ vi = .int .i64 (i : Int) ∧ vl = .bool (decide (at0 < i)) ∧ ItIn w1 wr vo (wOut l at0 is (p, b) i)) (fun _ _ vi _ => n - (intOf vi).toNat)
  case atStart => exact ⟨0, Nat.zero_le _, rfl, by simp, by rw [wOut_zero]; exact ItIn.nil _⟩
  case round =>
    clear hw1'
    obtain ⟨i, hin, rfl, rfl, hit⟩ := hrel
    have HIT : Hid (ItIn w1 wr u5 (wOut l at0 is (p, b) i)) := hit
    have hbs := hit.2.size
    have HLN : Hid ((wOut l at0 is (p, b) i).length ≤ 101) := by show _ ≤ _; have := wOut_len (l := l) (at0 := at0) (is := is) (x := (p, b)) (i := i); omega
    have e0 : wr.cell? ⟨w.heap.size, 0, none⟩ = some (.int .i64 p) := (kbelow_cell hit.2 HW1.out).trans Q0.out
    have e1 : wr.cell? ⟨w.heap.size, 1, none⟩ = some (.string sb) := (kbelow_cell hit.2 HW1.out).trans Q1.out
    by_cases hlt : i < n
    · have hik : i < l.length := by rw [← HN.out]; exact hlt
      obtain ⟨g, cap', hvk, -, -, hg, hcell⟩ := ritem_cells HR.out (i := i) hik
      simp only [Value.slice.injEq] at hvk
      obtain ⟨rfl, -, -⟩ := hvk
      obtain ⟨c0, c1⟩ := hcell i hik
      have f0 : wr.cell? ⟨g, i * 2, none⟩ = some (.int .i64 (l[i]).1) := (kbelow_cell hit.2 hg).trans c0
      have f1 : wr.cell? ⟨g, i * 2 + 1, none⟩ = some (.string ⟨(l[i]).2.toArray⟩) := (kbelow_cell hit.2 hg).trans c1
      obtain ⟨kp, hkp⟩ : ∃ kp, kp = (l[i]).1 := ⟨_, rfl⟩
      obtain ⟨kb, hkb⟩ : ∃ kb : ByteArray, kb = ⟨(l[i]).2.toArray⟩ := ⟨_, rfl⟩
      have HKP : Hid (kp = (l[i]).1) := hkp
      have HKB : Hid (kb = ⟨(l[i]).2.toArray⟩) := hkb
      rw [← hkp] at f0
      rw [← hkb] at f1
      have HCL : Hid (∀ W, Below w1.heap.size w1 W → (W.cell? ⟨g, i * 2, none⟩ = some (.int .i64 kp) ∧ W.cell? ⟨g, i * 2 + 1, none⟩ = some (.string kb)) ∧ W.cell? ⟨w.heap.size, 0, none⟩ = some (.int .i64 p) ∧ W.cell? ⟨w.heap.size, 1, none⟩ = some (.string sb)) := fun W hb => by
        rw [hkp, hkb]
        exact ⟨⟨(kbelow_cell hb hg).trans c0, (kbelow_cell hb hg).trans c1⟩, (kbelow_cell hb HW1.out).trans Q0.out, (kbelow_cell hb HW1.out).trans Q1.out⟩
      obtain ⟨M, hM⟩ : ∃ M, M = wOut l at0 is (p, b) i := ⟨_, rfl⟩
      have HM : Hid (M = wOut l at0 is (p, b) i) := hM
      rw [← hM] at HIT HLN
      clear hcell c0 c1 hkp hkb hit hM
      rcases Nat.lt_trichotomy i at0 with hc | hc | hc
      · have h1 : kp < p := by have := HAT.out.lo i (by simpa using hik) hc; simp only [List.getElem_map] at this; rw [HKP.out]; exact this
        have t1 : decide (p ≤ kp) = false := by simp; omega
        have t2 : (kp == p) = false := by simp; omega
        have t3 : (kp != p) = true := by simp; omega
        have t4 : decide (at0 < i) = false := by simp; omega
        have HX : Hid (wOut l at0 is (p, b) (i + 1) = M ++ [(kp, (l[i]).2)]) := by show _ = _; rw [wOut_lo hc hik, HM.out, HKP.out]
        have HLX : Hid (M.length + 1 ≤ 102) := by show _ ≤ _; have := HLN.out; omega
        clear h1
        rw [t4]
        have HOWN : Hid (∀ a, World.ownsRow (wr.drewN a) w1.heap.size 49 2 u5 M.length (itC M)) := fun a => HIT.out.1
        go_wp2_with fail
        go_quiet (fail)
        go_wp2_with fail
        go_quiet (fail)
        go_wp2_with (at_builtin; refine wpList_append_own _ rfl _ _ 25 rfl w1.heap.size 49 i0 (.agg #[.int .i64 0, .string ⟨#[]⟩]) 2 24 Try.underlying25 hi0 hz0 hz1 hz2 rfl (by decide) _ _ _ rfl ((HOWN.out _).alloc _) ⟨wr.heap.size, 0, none⟩ 1 1 [.int .i64 kp, .string kb] rfl rfl (kcells_new _ _ _) (itC_one' _ _) (by have := HLX.out; unfold maxLen; omega) (by have := HLX.out; omega) (by simp; omega) ?_)
        intro v' w2 hown' hgrow _
        have HI2 : Hid (ItIn w1 w2 v' (M ++ [(kp, (l[i]).2)])) := ItIn.snoc (HIT.out.drew _) (by rw [← HKB.out]; exact hown') hgrow
        clear hown' hgrow
        go_wp2
        go_roundw
        case rel => exact ⟨i + 1, by omega, by go_num, by rw [decide_eq_false (by omega)], by rw [HX.out]; exact HI2.out⟩
        case measure => simp [intOf]; omega
      · subst hc
        have h1 : p ≤ kp := by have := HAT.out.hi i (by simpa using hik) (Nat.le_refl _); simp only [List.getElem_map] at this; rw [HKP.out]; exact this
        have t1 : decide (p ≤ kp) = true := by simp; omega
        have t4 : decide (i < i) = false := by simp
        have HLX : Hid (M.length + 1 ≤ 102) := by show _ ≤ _; have := HLN.out; omega
        have HLY : Hid ((M ++ [(p, b)]).length + 1 ≤ 103) := by show _ ≤ _; have := HLN.out; rw [List.length_append]; simp; omega
        have HOWN : Hid (∀ a, World.ownsRow (wr.drewN a) w1.heap.size 49 2 u5 M.length (itC M)) := fun a => HIT.out.1
        clear h1
        rw [t4]
        clear t4
        go_wp2_with fail
        go_quiet (fail)
        go_wp2_with (at_builtin; refine wpList_append_own _ rfl _ _ 25 rfl w1.heap.size 49 i0 (.agg #[.int .i64 0, .string ⟨#[]⟩]) 2 24 Try.underlying25 hi0 hz0 hz1 hz2 rfl (by decide) _ _ _ rfl ((HOWN.out _).alloc _) ⟨wr.heap.size, 0, none⟩ 1 1 [.int .i64 p, .string sb] rfl rfl (kcells_new _ _ _) (itC_one' _ _) (by have := HLX.out; unfold maxLen; omega) (by have := HLX.out; omega) (by simp; omega) ?_)
        intro v' w2 hown' hgrow _
        have HI2 : Hid (ItIn w1 w2 v' (M ++ [(p, b)])) := ItIn.snoc (HIT.out.drew _) (by rw [← HSB.out]; exact hown') hgrow
        obtain ⟨⟨f0', f1'⟩, e0', e1'⟩ := HCL.out w2 HI2.out.2
        clear hown' hgrow HOWN HIT f0 f1 e0 e1 hbs
        cases is with
        | true =>
          have h2 : kp = p := by obtain ⟨_, this⟩ := HAT.out.is.1 rfl; simp only [List.getElem_map] at this; rw [HKP.out]; exact this
          have t2 : (kp == p) = true := by simp; omega
          have t3 : (kp != p) = false := by simp; omega
          have HX : Hid (wOut l i true (p, b) (i + 1) = M ++ [(p, b)]) := by show _ = _; rw [wOut_is, HM.out]
          clear h2
          go_wp2_with fail
          go_quiet (fail)
          go_wp2
          go_roundw
          case rel => exact ⟨i + 1, by omega, by go_num, by rw [decide_eq_true (by omega)], by rw [HX.out]; exact HI2.out.drew _⟩
          case measure => simp [intOf]; omega
        | false =>
          have h2 : ¬ kp = p := fun e => by
            have := HAT.out.is.2 ⟨by simpa using hik, by simp only [List.getElem_map]; rw [← HKP.out]; exact e⟩
            cases this
          have t2 : (kp == p) = false := by simp; omega
          have t3 : (kp != p) = true := by simp; omega
          have HX : Hid (wOut l i false (p, b) (i + 1) = (M ++ [(p, b)]) ++ [(kp, (l[i]).2)]) := by show _ = _; rw [wOut_no hik, HM.out, HKP.out]
          have HOWN2 : Hid (∀ a, World.ownsRow (w2.drewN a) w1.heap.size 49 2 v' (M ++ [(p, b)]).length (itC (M ++ [(p, b)]))) := fun a => HI2.out.1
          clear h2
          go_wp2_with fail
          go_quiet (fail)
          go_wp2_with (at_builtin; refine wpList_append_own _ rfl _ _ 25 rfl w1.heap.size 49 i0 (.agg #[.int .i64 0, .string ⟨#[]⟩]) 2 24 Try.underlying25 hi0 hz0 hz1 hz2 rfl (by decide) _ _ _ rfl ((HOWN2.out _).alloc _) ⟨w2.heap.size, 0, none⟩ 1 1 [.int .i64 kp, .string kb] rfl rfl (kcells_new _ _ _) (itC_one' _ _) (by have := HLY.out; unfold maxLen; omega) (by have := HLY.out; omega) (by have := HI2.out.2.size; simp; omega) ?_)
          intro v'' w3 hown' hgrow _
          have HI3 : Hid (ItIn w1 w3 v'' ((M ++ [(p, b)]) ++ [(kp, (l[i]).2)])) := ItIn.snoc (HI2.out.drew _) (by rw [← HKB.out, List.length_append]; exact hown') hgrow
          clear hown' hgrow
          go_wp2
          go_roundw
          case rel => exact ⟨i + 1, by omega, by go_num, by rw [decide_eq_true (by omega)], by rw [HX.out]; exact HI3.out⟩
          case measure => simp [intOf]; omega
      · have h1 : p < kp := by
          have hal : at0 < l.length := by omega
          have h3 := HAT.out.hi at0 (by simpa using hal) (Nat.le_refl _)
          have h4 := List.pairwise_iff_getElem.1 HRI.out at0 i (by simpa using hal) (by simpa using hik) hc
          simp only [List.getElem_map] at h3 h4
          rw [HKP.out]; omega
        have t2 : (kp == p) = false := by simp; omega
        have t3 : (kp != p) = true := by simp; omega
        have t4 : decide (at0 < i) = true := by simp; omega
        have HX : Hid (wOut l at0 is (p, b) (i + 1) = M ++ [(kp, (l[i]).2)]) := by show _ = _; rw [wOut_hi hc hik, HM.out, HKP.out]
        have HLX : Hid (M.length + 1 ≤ 102) := by show _ ≤ _; have := HLN.out; omega
        clear h1
        rw [t4]
        have HOWN : Hid (∀ a, World.ownsRow (wr.drewN a) w1.heap.size 49 2 u5 M.length (itC M)) := fun a => HIT.out.1
        go_wp2_with fail
        go_quiet (fail)
        go_wp2_with fail
        go_quiet (fail)
        go_wp2_with (at_builtin; refine wpList_append_own _ rfl _ _ 25 rfl w1.heap.size 49 i0 (.agg #[.int .i64 0, .string ⟨#[]⟩]) 2 24 Try.underlying25 hi0 hz0 hz1 hz2 rfl (by decide) _ _ _ rfl ((HOWN.out _).alloc _) ⟨wr.heap.size, 0, none⟩ 1 1 [.int .i64 kp, .string kb] rfl rfl (kcells_new _ _ _) (itC_one' _ _) (by have := HLX.out; unfold maxLen; omega) (by have := HLX.out; omega) (by simp; omega) ?_)
        intro v' w2 hown' hgrow _
        have HI2 : Hid (ItIn w1 w2 v' (M ++ [(kp, (l[i]).2)])) := ItIn.snoc (HIT.out.drew _) (by rw [← HKB.out]; exact hown') hgrow
        clear hown' hgrow
        go_wp2
        go_roundw
        case rel => exact ⟨i + 1, by omega, by go_num, by rw [decide_eq_true (by omega)], by rw [HX.out]; exact HI2.out⟩
        case measure => simp [intOf]; omega
    · obtain rfl : i = n := by omega
      have hle : at0 ≤ i := by have := HAT.out.le; rw [List.length_map, ← HN.out] at this; exact this
      rcases Nat.lt_or_ge at0 i with hc | hc
      · have t4 : decide (at0 < i) = true := by simp; omega
        have HX : Hid (wOut l at0 is (p, b) i = withL l at0 is (p, b)) := by show _ = _; rw [HN.out]; exact wOut_end (by rw [← HN.out]; exact hc)
        have HRF : Hid (RfIn wr u5 (withL l at0 is (p, b))) := by
          have h9 := HIT.out.1
          rw [HX.out] at h9
          exact kown_base h9 (Nat.zero_le _)
        have hbw : Below w.heap.size w wr := HB1.out.trans (HIT.out.2.mono (Nat.le_of_lt HW1.out))
        rw [t4]
        clear t4 hit
        go_wp2
        go_ret
        exact ⟨_, rfl, HRF.out, hbw⟩
      · obtain rfl : at0 = i := by omega
        have t4 : decide (at0 < at0) = false := by simp
        have his : is = false := by
          cases is with
          | false => rfl
          | true => obtain ⟨h9, _⟩ := HAT.out.is.1 rfl; rw [List.length_map, ← HN.out] at h9; omega
        subst his
        obtain ⟨M, hM⟩ : ∃ M, M = wOut l at0 false (p, b) at0 := ⟨_, rfl⟩
        have HX : Hid (M ++ [(p, b)] = withL l at0 false (p, b)) := by show _ = _; rw [hM, HN.out]; exact wOut_all
        rw [← hM] at HIT HLN
        have HLX : Hid (M.length + 1 ≤ 102) := by show _ ≤ _; have := HLN.out; omega
        have HOWN : Hid (World.ownsRow wr w1.heap.size 49 2 u5 M.length (itC M)) := HIT.out.1
        rw [t4]
        clear t4 hit hM
        go_wp2_with (at_builtin; refine wpList_append_own _ rfl _ _ 25 rfl w1.heap.size 49 i0 (.agg #[.int .i64 0, .string ⟨#[]⟩]) 2 24 Try.underlying25 hi0 hz0 hz1 hz2 rfl (by decide) _ _ _ rfl (HOWN.out.alloc _) ⟨wr.heap.size, 0, none⟩ 1 1 [.int .i64 p, .string sb] rfl rfl (kcells_new _ _ _) (itC_one' _ _) (by have := HLX.out; unfold maxLen; omega) (by have := HLX.out; omega) (by simp; omega) ?_)
        intro v' w2 hown' hgrow _
        have HI2 : Hid (ItIn w1 w2 v' (M ++ [(p, b)])) := ItIn.snoc HIT.out (by rw [← HSB.out]; exact hown') hgrow
        have HRF : Hid (RfIn w2 v' (withL l at0 false (p, b))) := by
          have h9 := HI2.out.1
          rw [HX.out] at h9
          exact kown_base h9 (Nat.zero_le _)
        have hbw : Below w.heap.size w w2 := HB1.out.trans (HI2.out.2.mono (Nat.le_of_lt HW1.out))
        clear hown' hgrow
        go_wp2
        go_ret
        exact ⟨_, rfl, HRF.out, hbw⟩
end Go.Proofs.Ytancnmbgncofiaa
