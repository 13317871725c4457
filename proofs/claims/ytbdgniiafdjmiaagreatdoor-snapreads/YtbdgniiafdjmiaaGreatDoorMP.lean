import Derived.Test.YtbdgniiafdjmiaaGreatDoorPPut
import Derived.Test.YtbdgniiafdjmiaaGreatDoorCMix2
/- snap: how many there are, and each, put behind bytes of one's own: at hindcast/api.Called. -/
namespace Go.Proofs.YtbdgniiafdjmiaaGreatDoor
open Go.RowKit Go.Shelf

set_option maxRecDepth 100000 in
set_option maxHeartbeats 8000000 in
theorem pAllCal_any (B : Nat) (v : Value) (us : List UInt8) (S : Nat → Prop) (l : List Cal) (rv : Value) (pc : Cal → List UInt8) (w : World) (hown : w.ownsRow B 5 1 v us.length (Lib.byteCells us)) (hB : B ≤ w.heap.size) (hin : calsR S w rv l) (hSB : ∀ q, S q → q < B)
    (hk : ∀ i (hi : i < l.length) bi ni ci bv nv cv W v0 us0, W.ownsRow B 5 1 v0 us0.length (Lib.byteCells us0) → B ≤ W.heap.size → Below B w W → us0.length + (pc l[i]).length ≤ 140737488355328 → valsR S w (.slice bi ni ci) l[i].slots → valsR S w (.slice bv nv cv) l[i].stack → Calls Tryz.prog 23 #[v0, calV l[i] (.slice bi ni ci) (.slice bv nv cv)] W fun e w' => ∃ v', e = .returned v' ∧ OwnTo B W v0 w' v' (us0 ++ pc l[i])) (hb : us.length + (allB pc l).length ≤ 140737488355328) :
    Calls Tryz.prog 22 #[v, rv, .func (.func 23) #[] #[]] w fun e w' => ∃ v', e = .returned v' ∧ OwnTo B w v w' v' (us ++ allB pc l) := by
  obtain ⟨base, cap, rfl, hc1, hc2, hat⟩ := hin.at
  have HK : Hid (∀ i (hi : i < l.length) bi ni ci bv nv cv W v0 us0, W.ownsRow B 5 1 v0 us0.length (Lib.byteCells us0) → B ≤ W.heap.size → Below B w W → us0.length + (pc l[i]).length ≤ 140737488355328 → valsR S w (.slice bi ni ci) l[i].slots → valsR S w (.slice bv nv cv) l[i].stack → Calls Tryz.prog 23 #[v0, calV l[i] (.slice bi ni ci) (.slice bv nv cv)] W fun e w' => ∃ v', e = .returned v' ∧ OwnTo B W v0 w' v' (us0 ++ pc l[i])) := hk
  have HAT : Hid (∀ i (hi : i < l.length), ∃ b o, base = some ⟨b, o, none⟩ ∧ S b ∧ b < w.heap.size ∧ (calE S) w b (o + i * 5) l[i]) := hat
  have hln : l.length ≤ 9223372036854775807 := by have : maxLen ≤ 9223372036854775807 := by decide
                                                  omega
  have HOWN : Hid (w.ownsRow B 5 1 v us.length (Lib.byteCells us)) := hown
  have HSB : Hid (∀ q, S q → q < B) := hSB
  have HBb : Hid (us.length + (numB l.length).length + (l.map pc).flatten.length ≤ 140737488355328) := by
    have := hb; unfold allB at this; rw [List.length_append] at this; show _ ≤ _; omega
  have c1 := pNumber_any (l.length : Int) (by omega) (by omega) w
  obtain ⟨L, hL⟩ : ∃ L, L = numB (l.length : Int) := ⟨_, rfl⟩
  rw [← hL] at c1 HBb
  have HRES : Hid (allB pc l = L ++ (l.map pc).flatten) := by rw [hL]; exact rfl
  obtain ⟨R, hR⟩ : ∃ R, R = allB pc l := ⟨_, rfl⟩
  rw [← hR] at HRES ⊢
  obtain ⟨bb, cc, rfl⟩ := own_form0 hown
  clear hat hin hk hown hb hL hSB hR
  go_enter Tryz.func22, Tryz.ntmps22
  go_wp2_with fail
  refine c1.mono ?_
  clear c1
  rintro e w1 ⟨v1, rfl, ho, hb1⟩
  obtain ⟨b1, c1, rfl⟩ := own_form0 ho
  have HO : Hid (w1.ownsRow w.heap.size 5 1 (.slice b1 L.length c1) L.length (Lib.byteCells L)) := ho
  have HB1 : Hid (Below w.heap.size w w1) := hb1
  clear ho hb1
  go_wp2_with fail
  obtain ⟨w2, hw2, hb2, -, hg2⟩ := box1 w1 (.cells #[.slice b1 L.length c1] 30)
  rw [← hw2]
  refine (pPutOwn_any B _ us w1.heap.size 1 [(.slice b1 L.length c1, L)] w w2 HOWN.out hB (HB1.out.trans (hb2.mono HB1.out.size)) hg2 (fun p hp => ?_) (by simp) (by have := HBb.out; simp [flatP]; omega)).mono ?_
  · obtain rfl : p = (.slice b1 L.length c1, L) := by simpa using hp
    exact own_stay HO.out hb2
  rintro e w3 ⟨v3, rfl, h3⟩
  have H3 : Hid (OwnTo B w (.slice bb us.length cc) w3 v3 (us ++ L)) := by
    have := OwnTo.behind (HB1.out.trans (hb2.mono HB1.out.size)) h3
    simp only [flatP, List.map_cons, List.map_nil, List.flatten_cons, List.flatten_nil, List.append_nil] at this
    exact this
  clear hw2 hb2 hg2 h3
  go_wp2
  go_loopw [0, 17] (fun v0 vi wr => ∃ i : Nat, i ≤ l.length ∧ vi = .int .i64 i ∧ OwnTo B w (.slice bb us.length cc) wr v0 (us ++ (L ++ ((l.take i).map pc).flatten))) (fun _ vi _ => l.length - (intOf vi).toNat)
  case atStart => exact ⟨0, Nat.zero_le _, rfl, by simpa using H3.out⟩
  case round =>
    obtain ⟨i, hi, rfl, hJ⟩ := hrel
    have HJ : Hid (OwnTo B w (.slice bb us.length cc) wr u0 (us ++ (L ++ ((l.take i).map pc).flatten))) := hJ
    have hbr := hJ.low HOWN.out hB
    have HBR : Hid (Below B w wr) := hbr
    obtain ⟨n0, b0, c0, rfl⟩ := own_form1 hJ.row
    by_cases hlt : i < l.length
    · have hi2 : (i : Int) < l.length := by omega
      obtain ⟨b, o, rfl, hSb, hbl, hc⟩ := HAT.out i hlt
      obtain ⟨e0, e1, e2, ⟨vi, e3, hvi⟩, vv, e4, hvv⟩ := hc
      obtain ⟨bi, ci, rfl, -⟩ := hvi.at
      obtain ⟨bv, cv, rfl, -⟩ := hvv.at
      obtain ⟨ni, hni⟩ : ∃ n, n = l[i].slots.length := ⟨_, rfl⟩
      obtain ⟨nv, hnv⟩ : ∃ n, n = l[i].stack.length := ⟨_, rfl⟩
      rw [← hni] at e3 hvi
      rw [← hnv] at e4 hvv
      clear hni hnv
      obtain ⟨s, hs⟩ : ∃ s, s = l[i] := ⟨_, rfl⟩
      have HS : Hid (s = l[i]) := hs
      have hcc : ∀ q, wr.cell? ⟨b, q, none⟩ = w.cell? ⟨b, q, none⟩ := fun q => below_cell hbr (HSB.out b hSb)
      rw [← hs] at e0 e1 e2
      rw [← hcc] at e0 e1 e2 e3 e4
      have hsz : (us ++ (L ++ ((l.take i).map pc).flatten)).length + (pc l[i]).length ≤ 140737488355328 := by
        have h1 := flat_le pc l (i + 1)
        rw [flat_succ pc l hlt, List.length_append] at h1
        have := HBb.out
        rw [List.length_append, List.length_append]
        omega
      obtain ⟨w4, hw4, hb4, HZ4, h4⟩ := box1 wr (.cells #[.int .i64 s.unit, .int .i64 s.at0, .int .i64 s.mark, .slice bi ni ci, .slice bv nv cv] 49)
      have HW4 : Hid (w4 = wr.alloc (.cells #[.int .i64 s.unit, .int .i64 s.at0, .int .i64 s.mark, .slice bi ni ci, .slice bv nv cv] 49)) := hw4
      have HB4 : Hid (Below wr.heap.size wr w4) := hb4
      have cis := HK.out i hlt bi ni ci bv nv cv w4 _ _ (own_stay hJ.row hb4) (Nat.le_trans hB (Nat.le_trans hJ.grown.size hb4.size)) (hbr.trans (hb4.mono (Nat.le_trans hB hJ.grown.size))) hsz hvi hvv
      clear hw4 hb4 HZ4 h4
      rw [← hs] at cis
      clear hs hcc hsz hJ hbr
      go_wp2_with fail
      rw [← HW4.out]
      refine cis.mono ?_
      clear cis
      rintro e w5 ⟨v5, rfl, h5⟩
      have HNX : Hid (OwnTo B w (.slice bb us.length cc) w5 v5 (us ++ (L ++ ((l.take (i + 1)).map pc).flatten))) := by
        rw [flat_succ pc l hlt, ← List.append_assoc L, ← List.append_assoc us, ← HS.out]
        exact HJ.out.trans (OwnTo.behind HB4.out h5)
      clear h5
      go_wp2
      exact ⟨⟨i + 1, by omega, by go_num, HNX.out⟩, by simp [intOf]; omega⟩
    · obtain rfl : i = l.length := by omega
      have hi2 : ¬ (l.length : Int) < l.length := by omega
      have HE : Hid (OwnTo B w (.slice bb us.length cc) wr (.slice b0 n0 c0) (us ++ R)) := by
        have := HJ.out
        rw [List.take_length] at this
        rw [HRES.out]
        exact this
      clear hJ hbr
      go_wp2
      go_ret
      exact ⟨_, rfl, HE.out⟩
end Go.Proofs.YtbdgniiafdjmiaaGreatDoor
/- snap: how many there are, and each, put behind bytes of one's own: at hindcast/api.Obj. -/
namespace Go.Proofs.YtbdgniiafdjmiaaGreatDoor
open Go.RowKit Go.Shelf

set_option maxRecDepth 100000 in
set_option maxHeartbeats 8000000 in
theorem pAllObj_any (B : Nat) (v : Value) (us : List UInt8) (S : Nat → Prop) (l : List Ob) (rv : Value) (pc : Ob → List UInt8) (w : World) (hown : w.ownsRow B 5 1 v us.length (Lib.byteCells us)) (hB : B ≤ w.heap.size) (hin : objsR S w rv l) (hSB : ∀ q, S q → q < B)
    (hk : ∀ i (hi : i < l.length) bf nf cf W v0 us0, W.ownsRow B 5 1 v0 us0.length (Lib.byteCells us0) → B ≤ W.heap.size → Below B w W → us0.length + (pc l[i]).length ≤ 140737488355328 → valsR S w (.slice bf nf cf) l[i].2 → Calls Tryz.prog 25 #[v0, obV l[i] (.slice bf nf cf)] W fun e w' => ∃ v', e = .returned v' ∧ OwnTo B W v0 w' v' (us0 ++ pc l[i])) (hb : us.length + (allB pc l).length ≤ 140737488355328) :
    Calls Tryz.prog 24 #[v, rv, .func (.func 25) #[] #[]] w fun e w' => ∃ v', e = .returned v' ∧ OwnTo B w v w' v' (us ++ allB pc l) := by
  obtain ⟨base, cap, rfl, hc1, hc2, hat⟩ := hin.at
  have HK : Hid (∀ i (hi : i < l.length) bf nf cf W v0 us0, W.ownsRow B 5 1 v0 us0.length (Lib.byteCells us0) → B ≤ W.heap.size → Below B w W → us0.length + (pc l[i]).length ≤ 140737488355328 → valsR S w (.slice bf nf cf) l[i].2 → Calls Tryz.prog 25 #[v0, obV l[i] (.slice bf nf cf)] W fun e w' => ∃ v', e = .returned v' ∧ OwnTo B W v0 w' v' (us0 ++ pc l[i])) := hk
  have HAT : Hid (∀ i (hi : i < l.length), ∃ b o, base = some ⟨b, o, none⟩ ∧ S b ∧ b < w.heap.size ∧ (objE S) w b (o + i * 2) l[i]) := hat
  have hln : l.length ≤ 9223372036854775807 := by have : maxLen ≤ 9223372036854775807 := by decide
                                                  omega
  have HOWN : Hid (w.ownsRow B 5 1 v us.length (Lib.byteCells us)) := hown
  have HSB : Hid (∀ q, S q → q < B) := hSB
  have HBb : Hid (us.length + (numB l.length).length + (l.map pc).flatten.length ≤ 140737488355328) := by
    have := hb; unfold allB at this; rw [List.length_append] at this; show _ ≤ _; omega
  have c1 := pNumber_any (l.length : Int) (by omega) (by omega) w
  obtain ⟨L, hL⟩ : ∃ L, L = numB (l.length : Int) := ⟨_, rfl⟩
  rw [← hL] at c1 HBb
  have HRES : Hid (allB pc l = L ++ (l.map pc).flatten) := by rw [hL]; exact rfl
  obtain ⟨R, hR⟩ : ∃ R, R = allB pc l := ⟨_, rfl⟩
  rw [← hR] at HRES ⊢
  obtain ⟨bb, cc, rfl⟩ := own_form0 hown
  clear hat hin hk hown hb hL hSB hR
  go_enter Tryz.func24, Tryz.ntmps24
  go_wp2_with fail
  refine c1.mono ?_
  clear c1
  rintro e w1 ⟨v1, rfl, ho, hb1⟩
  obtain ⟨b1, c1, rfl⟩ := own_form0 ho
  have HO : Hid (w1.ownsRow w.heap.size 5 1 (.slice b1 L.length c1) L.length (Lib.byteCells L)) := ho
  have HB1 : Hid (Below w.heap.size w w1) := hb1
  clear ho hb1
  go_wp2_with fail
  obtain ⟨w2, hw2, hb2, -, hg2⟩ := box1 w1 (.cells #[.slice b1 L.length c1] 30)
  rw [← hw2]
  refine (pPutOwn_any B _ us w1.heap.size 1 [(.slice b1 L.length c1, L)] w w2 HOWN.out hB (HB1.out.trans (hb2.mono HB1.out.size)) hg2 (fun p hp => ?_) (by simp) (by have := HBb.out; simp [flatP]; omega)).mono ?_
  · obtain rfl : p = (.slice b1 L.length c1, L) := by simpa using hp
    exact own_stay HO.out hb2
  rintro e w3 ⟨v3, rfl, h3⟩
  have H3 : Hid (OwnTo B w (.slice bb us.length cc) w3 v3 (us ++ L)) := by
    have := OwnTo.behind (HB1.out.trans (hb2.mono HB1.out.size)) h3
    simp only [flatP, List.map_cons, List.map_nil, List.flatten_cons, List.flatten_nil, List.append_nil] at this
    exact this
  clear hw2 hb2 hg2 h3
  go_wp2
  go_loopw [0, 17] (fun v0 vi wr => ∃ i : Nat, i ≤ l.length ∧ vi = .int .i64 i ∧ OwnTo B w (.slice bb us.length cc) wr v0 (us ++ (L ++ ((l.take i).map pc).flatten))) (fun _ vi _ => l.length - (intOf vi).toNat)
  case atStart => exact ⟨0, Nat.zero_le _, rfl, by simpa using H3.out⟩
  case round =>
    obtain ⟨i, hi, rfl, hJ⟩ := hrel
    have HJ : Hid (OwnTo B w (.slice bb us.length cc) wr u0 (us ++ (L ++ ((l.take i).map pc).flatten))) := hJ
    have hbr := hJ.low HOWN.out hB
    have HBR : Hid (Below B w wr) := hbr
    obtain ⟨n0, b0, c0, rfl⟩ := own_form1 hJ.row
    by_cases hlt : i < l.length
    · have hi2 : (i : Int) < l.length := by omega
      obtain ⟨b, o, rfl, hSb, hbl, hc⟩ := HAT.out i hlt
      obtain ⟨e0, vf, e1, hf⟩ := hc
      obtain ⟨bf, cf, rfl, -⟩ := hf.at
      obtain ⟨nf, hnf⟩ : ∃ n, n = l[i].2.length := ⟨_, rfl⟩
      rw [← hnf] at e1 hf
      clear hnf
      obtain ⟨s, hs⟩ : ∃ s, s = l[i] := ⟨_, rfl⟩
      have HS : Hid (s = l[i]) := hs
      have hcc : ∀ q, wr.cell? ⟨b, q, none⟩ = w.cell? ⟨b, q, none⟩ := fun q => below_cell hbr (HSB.out b hSb)
      rw [← hs] at e0
      rw [← hcc] at e0 e1
      have hsz : (us ++ (L ++ ((l.take i).map pc).flatten)).length + (pc l[i]).length ≤ 140737488355328 := by
        have h1 := flat_le pc l (i + 1)
        rw [flat_succ pc l hlt, List.length_append] at h1
        have := HBb.out
        rw [List.length_append, List.length_append]
        omega
      obtain ⟨w4, hw4, hb4, HZ4, h4⟩ := box1 wr (.cells #[.string (strB s.1), .slice bf nf cf] 51)
      have HW4 : Hid (w4 = wr.alloc (.cells #[.string (strB s.1), .slice bf nf cf] 51)) := hw4
      have HB4 : Hid (Below wr.heap.size wr w4) := hb4
      have cis := HK.out i hlt bf nf cf w4 _ _ (own_stay hJ.row hb4) (Nat.le_trans hB (Nat.le_trans hJ.grown.size hb4.size)) (hbr.trans (hb4.mono (Nat.le_trans hB hJ.grown.size))) hsz hf
      clear hw4 hb4 HZ4 h4
      rw [← hs] at cis
      clear hs hcc hsz hJ hbr
      go_wp2_with fail
      rw [← HW4.out]
      refine cis.mono ?_
      clear cis
      rintro e w5 ⟨v5, rfl, h5⟩
      have HNX : Hid (OwnTo B w (.slice bb us.length cc) w5 v5 (us ++ (L ++ ((l.take (i + 1)).map pc).flatten))) := by
        rw [flat_succ pc l hlt, ← List.append_assoc L, ← List.append_assoc us, ← HS.out]
        exact HJ.out.trans (OwnTo.behind HB4.out h5)
      clear h5
      go_wp2
      exact ⟨⟨i + 1, by omega, by go_num, HNX.out⟩, by simp [intOf]; omega⟩
    · obtain rfl : i = l.length := by omega
      have hi2 : ¬ (l.length : Int) < l.length := by omega
      have HE : Hid (OwnTo B w (.slice bb us.length cc) wr (.slice b0 n0 c0) (us ++ R)) := by
        have := HJ.out
        rw [List.take_length] at this
        rw [HRES.out]
        exact this
      clear hJ hbr
      go_wp2
      go_ret
      exact ⟨_, rfl, HE.out⟩
end Go.Proofs.YtbdgniiafdjmiaaGreatDoor
/- snap: how many there are, and each, put behind bytes of one's own: at hindcast/api.Val. -/
namespace Go.Proofs.YtbdgniiafdjmiaaGreatDoor
open Go.RowKit Go.Shelf

set_option maxRecDepth 100000 in
set_option maxHeartbeats 8000000 in
theorem pAllVal_any (B : Nat) (v : Value) (us : List UInt8) (S : Nat → Prop) (l : List Vl) (rv : Value) (pc : Vl → List UInt8) (w : World) (hown : w.ownsRow B 5 1 v us.length (Lib.byteCells us)) (hB : B ≤ w.heap.size) (hin : valsR S w rv l) (hSB : ∀ q, S q → q < B)
    (hk : ∀ i (hi : i < l.length) W v0 us0, W.ownsRow B 5 1 v0 us0.length (Lib.byteCells us0) → B ≤ W.heap.size → Below B w W → us0.length + (pc l[i]).length ≤ 140737488355328 → Calls Tryz.prog 43 #[v0, vlV l[i]] W fun e w' => ∃ v', e = .returned v' ∧ OwnTo B W v0 w' v' (us0 ++ pc l[i])) (hb : us.length + (allB pc l).length ≤ 140737488355328) :
    Calls Tryz.prog 42 #[v, rv, .func (.func 43) #[] #[]] w fun e w' => ∃ v', e = .returned v' ∧ OwnTo B w v w' v' (us ++ allB pc l) := by
  obtain ⟨base, cap, rfl, hc1, hc2, hat⟩ := hin.at
  have HK : Hid (∀ i (hi : i < l.length) W v0 us0, W.ownsRow B 5 1 v0 us0.length (Lib.byteCells us0) → B ≤ W.heap.size → Below B w W → us0.length + (pc l[i]).length ≤ 140737488355328 → Calls Tryz.prog 43 #[v0, vlV l[i]] W fun e w' => ∃ v', e = .returned v' ∧ OwnTo B W v0 w' v' (us0 ++ pc l[i])) := hk
  have HAT : Hid (∀ i (hi : i < l.length), ∃ b o, base = some ⟨b, o, none⟩ ∧ S b ∧ b < w.heap.size ∧ valE w b (o + i * 3) l[i]) := hat
  have hln : l.length ≤ 9223372036854775807 := by have : maxLen ≤ 9223372036854775807 := by decide
                                                  omega
  have HOWN : Hid (w.ownsRow B 5 1 v us.length (Lib.byteCells us)) := hown
  have HSB : Hid (∀ q, S q → q < B) := hSB
  have HBb : Hid (us.length + (numB l.length).length + (l.map pc).flatten.length ≤ 140737488355328) := by
    have := hb; unfold allB at this; rw [List.length_append] at this; show _ ≤ _; omega
  have c1 := pNumber_any (l.length : Int) (by omega) (by omega) w
  obtain ⟨L, hL⟩ : ∃ L, L = numB (l.length : Int) := ⟨_, rfl⟩
  rw [← hL] at c1 HBb
  have HRES : Hid (allB pc l = L ++ (l.map pc).flatten) := by rw [hL]; exact rfl
  obtain ⟨R, hR⟩ : ∃ R, R = allB pc l := ⟨_, rfl⟩
  rw [← hR] at HRES ⊢
  obtain ⟨bb, cc, rfl⟩ := own_form0 hown
  clear hat hin hk hown hb hL hSB hR
  go_enter Tryz.func42, Tryz.ntmps42
  go_wp2_with fail
  refine c1.mono ?_
  clear c1
  rintro e w1 ⟨v1, rfl, ho, hb1⟩
  obtain ⟨b1, c1, rfl⟩ := own_form0 ho
  have HO : Hid (w1.ownsRow w.heap.size 5 1 (.slice b1 L.length c1) L.length (Lib.byteCells L)) := ho
  have HB1 : Hid (Below w.heap.size w w1) := hb1
  clear ho hb1
  go_wp2_with fail
  obtain ⟨w2, hw2, hb2, -, hg2⟩ := box1 w1 (.cells #[.slice b1 L.length c1] 30)
  rw [← hw2]
  refine (pPutOwn_any B _ us w1.heap.size 1 [(.slice b1 L.length c1, L)] w w2 HOWN.out hB (HB1.out.trans (hb2.mono HB1.out.size)) hg2 (fun p hp => ?_) (by simp) (by have := HBb.out; simp [flatP]; omega)).mono ?_
  · obtain rfl : p = (.slice b1 L.length c1, L) := by simpa using hp
    exact own_stay HO.out hb2
  rintro e w3 ⟨v3, rfl, h3⟩
  have H3 : Hid (OwnTo B w (.slice bb us.length cc) w3 v3 (us ++ L)) := by
    have := OwnTo.behind (HB1.out.trans (hb2.mono HB1.out.size)) h3
    simp only [flatP, List.map_cons, List.map_nil, List.flatten_cons, List.flatten_nil, List.append_nil] at this
    exact this
  clear hw2 hb2 hg2 h3
  go_wp2
  go_loopw [0, 17] (fun v0 vi wr => ∃ i : Nat, i ≤ l.length ∧ vi = .int .i64 i ∧ OwnTo B w (.slice bb us.length cc) wr v0 (us ++ (L ++ ((l.take i).map pc).flatten))) (fun _ vi _ => l.length - (intOf vi).toNat)
  case atStart => exact ⟨0, Nat.zero_le _, rfl, by simpa using H3.out⟩
  case round =>
    obtain ⟨i, hi, rfl, hJ⟩ := hrel
    have HJ : Hid (OwnTo B w (.slice bb us.length cc) wr u0 (us ++ (L ++ ((l.take i).map pc).flatten))) := hJ
    have hbr := hJ.low HOWN.out hB
    have HBR : Hid (Below B w wr) := hbr
    obtain ⟨n0, b0, c0, rfl⟩ := own_form1 hJ.row
    by_cases hlt : i < l.length
    · have hi2 : (i : Int) < l.length := by omega
      obtain ⟨b, o, rfl, hSb, hbl, hc⟩ := HAT.out i hlt
      obtain ⟨e0, e1, e2⟩ := hc
      obtain ⟨s, hs⟩ : ∃ s, s = l[i] := ⟨_, rfl⟩
      have HS : Hid (s = l[i]) := hs
      have hcc : ∀ q, wr.cell? ⟨b, q, none⟩ = w.cell? ⟨b, q, none⟩ := fun q => below_cell hbr (HSB.out b hSb)
      rw [← hs] at e0 e1 e2
      rw [← hcc] at e0 e1 e2
      have hsz : (us ++ (L ++ ((l.take i).map pc).flatten)).length + (pc l[i]).length ≤ 140737488355328 := by
        have h1 := flat_le pc l (i + 1)
        rw [flat_succ pc l hlt, List.length_append] at h1
        have := HBb.out
        rw [List.length_append, List.length_append]
        omega
      obtain ⟨w4, hw4, hb4, HZ4, h4⟩ := box1 wr (.cells #[.int .i64 s.k, .int .i64 s.n, .string (strB s.s)] 54)
      have HW4 : Hid (w4 = wr.alloc (.cells #[.int .i64 s.k, .int .i64 s.n, .string (strB s.s)] 54)) := hw4
      have HB4 : Hid (Below wr.heap.size wr w4) := hb4
      have cis := HK.out i hlt w4 _ _ (own_stay hJ.row hb4) (Nat.le_trans hB (Nat.le_trans hJ.grown.size hb4.size)) (hbr.trans (hb4.mono (Nat.le_trans hB hJ.grown.size))) hsz
      clear hw4 hb4 HZ4 h4
      rw [← hs] at cis
      clear hs hcc hsz hJ hbr
      go_wp2_with fail
      rw [← HW4.out]
      refine cis.mono ?_
      clear cis
      rintro e w5 ⟨v5, rfl, h5⟩
      have HNX : Hid (OwnTo B w (.slice bb us.length cc) w5 v5 (us ++ (L ++ ((l.take (i + 1)).map pc).flatten))) := by
        rw [flat_succ pc l hlt, ← List.append_assoc L, ← List.append_assoc us, ← HS.out]
        exact HJ.out.trans (OwnTo.behind HB4.out h5)
      clear h5
      go_wp2
      exact ⟨⟨i + 1, by omega, by go_num, HNX.out⟩, by simp [intOf]; omega⟩
    · obtain rfl : i = l.length := by omega
      have hi2 : ¬ (l.length : Int) < l.length := by omega
      have HE : Hid (OwnTo B w (.slice bb us.length cc) wr (.slice b0 n0 c0) (us ++ R)) := by
        have := HJ.out
        rw [List.take_length] at this
        rw [HRES.out]
        exact this
      clear hJ hbr
      go_wp2
      go_ret
      exact ⟨_, rfl, HE.out⟩
end Go.Proofs.YtbdgniiafdjmiaaGreatDoor
/- snap: a value, put behind bytes of one's own. -/
namespace Go.Proofs.YtbdgniiafdjmiaaGreatDoor
open Go.RowKit Go.Shelf

/-- A cell of another block is set. -/
theorem OwnTo.set {B : Nat} {w W : World} {v v' : Value} {us' : List UInt8} (h : OwnTo B w v W v' us') {q j : Nat} {xs : Array Value} {ty : TypeId} (hq : W.heap[q]? = some (.cells xs ty (0, 0))) (hne : ty ≠ 5) (hlow : w.heap.size ≤ q) (x : Value) : OwnTo B w v (W.setCell ⟨q, j, none⟩ x) v' us' := by
  have hk : ∀ k, k ≠ q → (W.setCell ⟨q, j, none⟩ x).heap[k]? = W.heap[k]? := fun k hk => Below.heap_setCell _ _ _ _ (by simpa using hk)
  refine ⟨own_blocks h.row fun k e _ => hk k fun e2 => ?_, ⟨h.grown.os, h.grown.tape, h.grown.output, by simpa using h.grown.size, fun k hlt hn => (hk k (by omega)).trans (h.grown.block k hlt hn)⟩, h.loc⟩
  subst e2
  obtain ⟨cur, hc⟩ := bown_type h.row e
  rw [hq] at hc
  cases hc
  exact hne rfl

set_option maxRecDepth 100000 in
set_option maxHeartbeats 8000000 in
theorem pPutN_any (B N M : Nat) (v0 : Value) (x : Vl) (w0 W0 : World) (bv : Value) (us : List UInt8) (hO : OwnTo B w0 v0 W0 bv us) (hB : B ≤ w0.heap.size) (hN : W0.heap[N]? = some (.cells #[bv] 30 (0, 0))) (hM : W0.heap[M]? = some (.cells #[.int .i64 x.k, .int .i64 x.n, .string (strB x.s)] 54 (0, 0))) (hNl : w0.heap.size ≤ N) (hi : I64 x.n) (hb : us.length + (numB x.n).length ≤ 140737488355328) :
    Calls Tryz.prog 73 #[.pointer (some ⟨M, 1, none⟩), .pointer (some ⟨N, 0, none⟩)] W0 fun e w' => e = .returned (.tuple #[]) ∧ ∃ bv', OwnTo B w0 v0 w' bv' (us ++ numB x.n) ∧ w'.heap[N]? = some (.cells #[bv'] 30 (0, 0)) := by
  have C0 : Hid (∀ W, Calls Tryz.prog 18 #[.int .i64 x.n] W fun e w' => ∃ v, e = .returned v ∧ w'.ownsRow W.heap.size 5 1 v (numB x.n).length (Lib.byteCells (numB x.n)) ∧ Below W.heap.size W w') := fun W => pNumber_any x.n hi.1 hi.2 W
  obtain ⟨L, hL⟩ : ∃ L, L = numB x.n := ⟨_, rfl⟩
  rw [← hL] at C0 hb ⊢
  obtain ⟨bb, cc, rfl⟩ := own_form0 hO.row
  have HO : Hid (OwnTo B w0 v0 W0 (.slice bb us.length cc) us) := hO
  have HOWN : Hid (W0.ownsRow B 5 1 (.slice bb us.length cc) us.length (Lib.byteCells us)) := hO.row
  have HBW : Hid (B ≤ W0.heap.size) := Nat.le_trans hB hO.grown.size
  have HN : Hid (W0.heap[N]? = some (.cells #[.slice bb us.length cc] 30 (0, 0))) := hN
  have HM : Hid (W0.heap[M]? = some (.cells #[.int .i64 x.k, .int .i64 x.n, .string (strB x.s)] 54 (0, 0))) := hM
  have HNM : Hid (M ≠ N) := fun e => by
    subst e
    rw [hM] at hN
    simp at hN
  have HEND : Hid (∀ (z3 : World) (v3 : Value) (xs : Array Value), OwnTo B W0 (.slice bb us.length cc) z3 v3 (us ++ L) → z3.heap[N]? = some (.cells xs 30 (0, 0)) → OwnTo B w0 v0 (z3.setCell ⟨N, 0, none⟩ v3) v3 (us ++ L)) := fun z3 v3 xs h3 hn => (hO.trans h3).set hn (by decide) hNl _
  have HCF : Hid (∀ W, Below W0.heap.size W0 W → W.cell? ⟨M, 1, none⟩ = some (.int .i64 x.n)) := fun W hW => (cells3p ((hW.block _ (heap_lt HM.out)).trans HM.out)).2.1
  have HCN : Hid (∀ W, Below W0.heap.size W0 W → W.cell? ⟨N, 0, none⟩ = some (.slice bb us.length cc)) := fun W hW => cells1p ((hW.block _ (heap_lt HN.out)).trans HN.out)
  haveI hne : Nonempty (ClsP (fun W => W.cell? ⟨M, 1, none⟩ = some (.int .i64 x.n))) := ⟨⟨W0, HCF.out W0 (Below.refl _ _)⟩⟩
  have XM : ∀ c : ClsP (fun W => W.cell? ⟨M, 1, none⟩ = some (.int .i64 x.n)), c.1.cell? ⟨M, 1, none⟩ = some (.int .i64 x.n) := fun c => c.2
  have HBb : Hid (us.length + L.length ≤ 140737488355328) := hb
  have hn0 : W0.cell? ⟨N, 0, none⟩ = some (.slice bb us.length cc) := HCN.out W0 (Below.refl _ _)
  clear hO hN hM hb hL hi
  go_enter Tryz.func73, Tryz.ntmps73
  go_upto_region 0 with fail
  refine mix_begin (n := 8) (S := fun w' => ∃ c : ClsP (fun W => W.cell? ⟨M, 1, none⟩ = some (.int .i64 x.n)), w' = c.1) (by kernel_rfl) rfl rfl ?_
  refine mix_seg (fuel := 7) (fuel' := 8) (idx := [1]) (by kernel_rfl) rfl rfl rfl (fun _ _ _ _ _ h => h) ⟨⟨W0.drew, HCF.out W0.drew (Below.refl _ _).drew⟩, rfl⟩ ?_
  show wpQuiet _ _ _ _ [_] _
  iterate 1 (go_big_quiet_step (fail))
  refine wpQuiet_nil ?_
  refine cmix_two (fuel := 6) (fuel' := 7) (i := 0) (k := 2) rfl rfl (by kernel_rfl) rfl rfl rfl (by rfl) (by rfl) ?_ ?_
  · intro K hK
    go_simp
    refine hK.out _ _ ⟨⟨W0.drew, HCF.out W0.drew (Below.refl _ _).drew⟩, rfl⟩ ?_
    clear hK K
    refine mix_loud (fuel := 5) (fuel' := 6) (i := 2) rfl (by kernel_rfl) rfl rfl (by rfl) ?_
    intro K hK
    go_simp
    refine hK.out _ _ ⟨⟨W0.drew, HCF.out W0.drew (Below.refl _ _).drew⟩, rfl⟩ ?_
    clear hK K
    refine mix_seg (fuel := 4) (fuel' := 5) (idx := [3]) (by kernel_rfl) rfl rfl rfl (fun _ _ _ _ _ h => h) ⟨⟨W0.drew, HCF.out W0.drew (Below.refl _ _).drew⟩, rfl⟩ ?_
    show wpQuiet _ _ _ _ [_] _
    iterate 1 (go_big_quiet_step (fail))
    refine wpQuiet_nil ?_
    clear XM
    refine mix_loud (fuel := 3) (fuel' := 4) (i := 4) rfl (by kernel_rfl) rfl rfl (by rfl) ?_
    intro K hK
    go_simp
    refine (C0.out W0.drew).mono ?_
    rintro e z1 ⟨p1, rfl, ho, hb⟩
    obtain ⟨b1, c1, rfl⟩ := own_form0 ho
    have HO1 : Hid (z1.ownsRow (World.heap W0.drew).size 5 1 (.slice b1 L.length c1) L.length (Lib.byteCells L)) := ho
    have HZ1 : Hid (Below W0.heap.size W0 z1) := (Below.refl _ _).drew.trans hb
    have hn1 : z1.cell? ⟨N, 0, none⟩ = some (.slice bb us.length cc) := HCN.out z1 HZ1.out
    clear ho hb
    (try go_simp)
    refine hK.out _ _ ⟨⟨z1, HCF.out z1 HZ1.out⟩, rfl⟩ ?_
    clear hK K
    refine mix_loud (fuel := 2) (fuel' := 3) (i := 5) rfl (by kernel_rfl) rfl rfl (by rfl) ?_
    intro K hK
    go_simp
    obtain ⟨z2, hz2, hb2, -, hg2⟩ := box1 z1 (.cells #[.slice b1 L.length c1] 30)
    rw [← hz2]
    have HZ2 : Hid (Below W0.heap.size W0 z2) := HZ1.out.trans (hb2.mono HZ1.out.size)
    have HG2 : Hid (z2.heap[(World.heap z1).size]? = some (.cells #[.slice b1 L.length c1] 30 (0, 0))) := hg2
    have HO2 : Hid (z2.ownsRow W0.heap.size 5 1 (.slice b1 L.length c1) L.length (Lib.byteCells L)) := own_stay HO1.out hb2
    have hn2 : z2.cell? ⟨N, 0, none⟩ = some (.slice bb us.length cc) := HCN.out z2 HZ2.out
    refine hK.out _ _ ⟨⟨z2, HCF.out z2 HZ2.out⟩, rfl⟩ ?_
    clear hK K hz2 hb2 hg2
    refine mix_loud (fuel := 1) (fuel' := 2) (i := 6) rfl (by kernel_rfl) rfl rfl (by rfl) ?_
    intro K hK
    have cp := pPutOwn_any B (.slice bb us.length cc) us (World.heap z1).size 1 [(.slice b1 L.length c1, L)] W0 z2 HOWN.out HBW.out HZ2.out HG2.out (fun p hp => by
      obtain rfl : p = (.slice b1 L.length c1, L) := by simpa using hp
      exact HO2.out) (by simp) (by have := HBb.out; simp [flatP]; omega)
    go_simp
    refine cp.mono ?_
    clear cp
    rintro e z3 ⟨v3, rfl, hop⟩
    have e3 : us ++ flatP [(Value.slice b1 L.length c1, L)] = us ++ L := by simp [flatP]
    rw [e3] at hop
    have hN3 := hop.other (own_stay HOWN.out HZ2.out) ((HZ2.out.block _ (heap_lt HN.out)).trans HN.out) (by decide)
    have hM3 := hop.other (own_stay HOWN.out HZ2.out) ((HZ2.out.block _ (heap_lt HM.out)).trans HM.out) (by decide)
    have HM3 : Hid (z3.heap[M]? = some (.cells #[.int .i64 x.k, .int .i64 x.n, .string (strB x.s)] 54 (0, 0))) := hM3
    have HN3 : Hid (z3.heap[N]? = some (.cells #[.slice bb us.length cc] 30 (0, 0))) := hN3
    have H3 : Hid (OwnTo B W0 (.slice bb us.length cc) z3 v3 (us ++ L)) := OwnTo.behind HZ2.out hop
    obtain ⟨n3, b3, c3, rfl⟩ := own_form1 hop.row
    have hn3 := cells1p hN3
    have fz3 := cfrozen hN3 0
    have hm3 := cells3p hM3
    clear hop e3 hN3 hM3
    (try go_simp)
    refine hK.out _ _ ⟨⟨z3, hm3.2.1⟩, rfl⟩ ?_
    clear hK K
    refine mix_loud (fuel := 0) (fuel' := 1) (i := 7) rfl (by kernel_rfl) rfl rfl (by rfl) ?_
    intro K hK
    go_simp
    have hm4 := cells3p ((Below.heap_setCell z3 ⟨N, 0, none⟩ (.slice b3 n3 c3) M HNM.out).trans HM3.out)
    refine hK.out _ _ ⟨⟨_, hm4.2.1⟩, rfl⟩ ?_
    clear hK K hm4 hm3 hn3 fz3
    refine mix_done (by kernel_rfl) ?_
    go_wp2
    refine bodyPost_end (v := .tuple #[]) (by simp [results, Tryz.results73]) rfl ?_
    refine ⟨rfl, _, HEND.out _ _ _ H3.out HN3.out, csetCell_block _ HN3.out⟩
  · intro K hK
    go_simp
    refine hK.out _ _ ⟨⟨W0.drew, HCF.out W0.drew (Below.refl _ _).drew⟩, rfl⟩ ?_
    clear hK K
    refine mix_seg (fuel := 5) (fuel' := 6) (idx := [3]) (by kernel_rfl) rfl rfl rfl (fun _ _ _ _ _ h => h) ⟨⟨W0.drew, HCF.out W0.drew (Below.refl _ _).drew⟩, rfl⟩ ?_
    show wpQuiet _ _ _ _ [_] _
    iterate 1 (go_big_quiet_step (fail))
    refine wpQuiet_nil ?_
    clear XM
    refine cmix_two (fuel := 4) (fuel' := 5) (i := 0) (k := 4) rfl rfl (by kernel_rfl) rfl rfl rfl (by rfl) (by rfl) ?_ ?_
    · intro K hK
      go_simp
      refine hK.out _ _ ⟨⟨W0.drew, HCF.out W0.drew (Below.refl _ _).drew⟩, rfl⟩ ?_
      clear hK K
      refine mix_loud (fuel := 3) (fuel' := 4) (i := 4) rfl (by kernel_rfl) rfl rfl (by rfl) ?_
      intro K hK
      go_simp
      refine (C0.out W0.drew).mono ?_
      rintro e z1 ⟨p1, rfl, ho, hb⟩
      obtain ⟨b1, c1, rfl⟩ := own_form0 ho
      have HO1 : Hid (z1.ownsRow (World.heap W0.drew).size 5 1 (.slice b1 L.length c1) L.length (Lib.byteCells L)) := ho
      have HZ1 : Hid (Below W0.heap.size W0 z1) := (Below.refl _ _).drew.trans hb
      have hn1 : z1.cell? ⟨N, 0, none⟩ = some (.slice bb us.length cc) := HCN.out z1 HZ1.out
      clear ho hb
      (try go_simp)
      refine hK.out _ _ ⟨⟨z1, HCF.out z1 HZ1.out⟩, rfl⟩ ?_
      clear hK K
      refine mix_loud (fuel := 2) (fuel' := 3) (i := 5) rfl (by kernel_rfl) rfl rfl (by rfl) ?_
      intro K hK
      go_simp
      obtain ⟨z2, hz2, hb2, -, hg2⟩ := box1 z1 (.cells #[.slice b1 L.length c1] 30)
      rw [← hz2]
      have HZ2 : Hid (Below W0.heap.size W0 z2) := HZ1.out.trans (hb2.mono HZ1.out.size)
      have HG2 : Hid (z2.heap[(World.heap z1).size]? = some (.cells #[.slice b1 L.length c1] 30 (0, 0))) := hg2
      have HO2 : Hid (z2.ownsRow W0.heap.size 5 1 (.slice b1 L.length c1) L.length (Lib.byteCells L)) := own_stay HO1.out hb2
      have hn2 : z2.cell? ⟨N, 0, none⟩ = some (.slice bb us.length cc) := HCN.out z2 HZ2.out
      refine hK.out _ _ ⟨⟨z2, HCF.out z2 HZ2.out⟩, rfl⟩ ?_
      clear hK K hz2 hb2 hg2
      refine mix_loud (fuel := 1) (fuel' := 2) (i := 6) rfl (by kernel_rfl) rfl rfl (by rfl) ?_
      intro K hK
      have cp := pPutOwn_any B (.slice bb us.length cc) us (World.heap z1).size 1 [(.slice b1 L.length c1, L)] W0 z2 HOWN.out HBW.out HZ2.out HG2.out (fun p hp => by
        obtain rfl : p = (.slice b1 L.length c1, L) := by simpa using hp
        exact HO2.out) (by simp) (by have := HBb.out; simp [flatP]; omega)
      go_simp
      refine cp.mono ?_
      clear cp
      rintro e z3 ⟨v3, rfl, hop⟩
      have e3 : us ++ flatP [(Value.slice b1 L.length c1, L)] = us ++ L := by simp [flatP]
      rw [e3] at hop
      have hN3 := hop.other (own_stay HOWN.out HZ2.out) ((HZ2.out.block _ (heap_lt HN.out)).trans HN.out) (by decide)
      have hM3 := hop.other (own_stay HOWN.out HZ2.out) ((HZ2.out.block _ (heap_lt HM.out)).trans HM.out) (by decide)
      have HM3 : Hid (z3.heap[M]? = some (.cells #[.int .i64 x.k, .int .i64 x.n, .string (strB x.s)] 54 (0, 0))) := hM3
      have HN3 : Hid (z3.heap[N]? = some (.cells #[.slice bb us.length cc] 30 (0, 0))) := hN3
      have H3 : Hid (OwnTo B W0 (.slice bb us.length cc) z3 v3 (us ++ L)) := OwnTo.behind HZ2.out hop
      obtain ⟨n3, b3, c3, rfl⟩ := own_form1 hop.row
      have hn3 := cells1p hN3
      have fz3 := cfrozen hN3 0
      have hm3 := cells3p hM3
      clear hop e3 hN3 hM3
      (try go_simp)
      refine hK.out _ _ ⟨⟨z3, hm3.2.1⟩, rfl⟩ ?_
      clear hK K
      refine mix_loud (fuel := 0) (fuel' := 1) (i := 7) rfl (by kernel_rfl) rfl rfl (by rfl) ?_
      intro K hK
      go_simp
      have hm4 := cells3p ((Below.heap_setCell z3 ⟨N, 0, none⟩ (.slice b3 n3 c3) M HNM.out).trans HM3.out)
      refine hK.out _ _ ⟨⟨_, hm4.2.1⟩, rfl⟩ ?_
      clear hK K hm4 hm3 hn3 fz3
      refine mix_done (by kernel_rfl) ?_
      go_wp2
      refine bodyPost_end (v := .tuple #[]) (by simp [results, Tryz.results73]) rfl ?_
      refine ⟨rfl, _, HEND.out _ _ _ H3.out HN3.out, csetCell_block _ HN3.out⟩
    · intro K hK
      go_simp
      refine (C0.out W0.drew).mono ?_
      rintro e z1 ⟨p1, rfl, ho, hb⟩
      obtain ⟨b1, c1, rfl⟩ := own_form0 ho
      have HO1 : Hid (z1.ownsRow (World.heap W0.drew).size 5 1 (.slice b1 L.length c1) L.length (Lib.byteCells L)) := ho
      have HZ1 : Hid (Below W0.heap.size W0 z1) := (Below.refl _ _).drew.trans hb
      have hn1 : z1.cell? ⟨N, 0, none⟩ = some (.slice bb us.length cc) := HCN.out z1 HZ1.out
      clear ho hb
      (try go_simp)
      refine hK.out _ _ ⟨⟨z1, HCF.out z1 HZ1.out⟩, rfl⟩ ?_
      clear hK K
      refine cmix_two (fuel := 3) (fuel' := 4) (i := 0) (k := 5) rfl rfl (by kernel_rfl) rfl rfl rfl (by rfl) (by rfl) ?_ ?_
      · intro K hK
        go_simp
        refine hK.out _ _ ⟨⟨z1, HCF.out z1 HZ1.out⟩, rfl⟩ ?_
        clear hK K
        refine mix_loud (fuel := 2) (fuel' := 3) (i := 5) rfl (by kernel_rfl) rfl rfl (by rfl) ?_
        intro K hK
        go_simp
        obtain ⟨z2, hz2, hb2, -, hg2⟩ := box1 z1 (.cells #[.slice b1 L.length c1] 30)
        rw [← hz2]
        have HZ2 : Hid (Below W0.heap.size W0 z2) := HZ1.out.trans (hb2.mono HZ1.out.size)
        have HG2 : Hid (z2.heap[(World.heap z1).size]? = some (.cells #[.slice b1 L.length c1] 30 (0, 0))) := hg2
        have HO2 : Hid (z2.ownsRow W0.heap.size 5 1 (.slice b1 L.length c1) L.length (Lib.byteCells L)) := own_stay HO1.out hb2
        have hn2 : z2.cell? ⟨N, 0, none⟩ = some (.slice bb us.length cc) := HCN.out z2 HZ2.out
        refine hK.out _ _ ⟨⟨z2, HCF.out z2 HZ2.out⟩, rfl⟩ ?_
        clear hK K hz2 hb2 hg2
        refine mix_loud (fuel := 1) (fuel' := 2) (i := 6) rfl (by kernel_rfl) rfl rfl (by rfl) ?_
        intro K hK
        have cp := pPutOwn_any B (.slice bb us.length cc) us (World.heap z1).size 1 [(.slice b1 L.length c1, L)] W0 z2 HOWN.out HBW.out HZ2.out HG2.out (fun p hp => by
          obtain rfl : p = (.slice b1 L.length c1, L) := by simpa using hp
          exact HO2.out) (by simp) (by have := HBb.out; simp [flatP]; omega)
        go_simp
        refine cp.mono ?_
        clear cp
        rintro e z3 ⟨v3, rfl, hop⟩
        have e3 : us ++ flatP [(Value.slice b1 L.length c1, L)] = us ++ L := by simp [flatP]
        rw [e3] at hop
        have hN3 := hop.other (own_stay HOWN.out HZ2.out) ((HZ2.out.block _ (heap_lt HN.out)).trans HN.out) (by decide)
        have hM3 := hop.other (own_stay HOWN.out HZ2.out) ((HZ2.out.block _ (heap_lt HM.out)).trans HM.out) (by decide)
        have HM3 : Hid (z3.heap[M]? = some (.cells #[.int .i64 x.k, .int .i64 x.n, .string (strB x.s)] 54 (0, 0))) := hM3
        have HN3 : Hid (z3.heap[N]? = some (.cells #[.slice bb us.length cc] 30 (0, 0))) := hN3
        have H3 : Hid (OwnTo B W0 (.slice bb us.length cc) z3 v3 (us ++ L)) := OwnTo.behind HZ2.out hop
        obtain ⟨n3, b3, c3, rfl⟩ := own_form1 hop.row
        have hn3 := cells1p hN3
        have fz3 := cfrozen hN3 0
        have hm3 := cells3p hM3
        clear hop e3 hN3 hM3
        (try go_simp)
        refine hK.out _ _ ⟨⟨z3, hm3.2.1⟩, rfl⟩ ?_
        clear hK K
        refine mix_loud (fuel := 0) (fuel' := 1) (i := 7) rfl (by kernel_rfl) rfl rfl (by rfl) ?_
        intro K hK
        go_simp
        have hm4 := cells3p ((Below.heap_setCell z3 ⟨N, 0, none⟩ (.slice b3 n3 c3) M HNM.out).trans HM3.out)
        refine hK.out _ _ ⟨⟨_, hm4.2.1⟩, rfl⟩ ?_
        clear hK K hm4 hm3 hn3 fz3
        refine mix_done (by kernel_rfl) ?_
        go_wp2
        refine bodyPost_end (v := .tuple #[]) (by simp [results, Tryz.results73]) rfl ?_
        refine ⟨rfl, _, HEND.out _ _ _ H3.out HN3.out, csetCell_block _ HN3.out⟩
      · intro K hK
        go_simp
        obtain ⟨z2, hz2, hb2, -, hg2⟩ := box1 z1 (.cells #[.slice b1 L.length c1] 30)
        rw [← hz2]
        have HZ2 : Hid (Below W0.heap.size W0 z2) := HZ1.out.trans (hb2.mono HZ1.out.size)
        have HG2 : Hid (z2.heap[(World.heap z1).size]? = some (.cells #[.slice b1 L.length c1] 30 (0, 0))) := hg2
        have HO2 : Hid (z2.ownsRow W0.heap.size 5 1 (.slice b1 L.length c1) L.length (Lib.byteCells L)) := own_stay HO1.out hb2
        have hn2 : z2.cell? ⟨N, 0, none⟩ = some (.slice bb us.length cc) := HCN.out z2 HZ2.out
        refine hK.out _ _ ⟨⟨z2, HCF.out z2 HZ2.out⟩, rfl⟩ ?_
        clear hK K hz2 hb2 hg2
        refine mix_loud (fuel := 2) (fuel' := 3) (i := 0) rfl (by kernel_rfl) rfl rfl (by rfl) ?_
        intro K hK
        go_simp
        refine hK.out _ _ ⟨⟨z2, HCF.out z2 HZ2.out⟩, rfl⟩ ?_
        clear hK K
        refine mix_loud (fuel := 1) (fuel' := 2) (i := 6) rfl (by kernel_rfl) rfl rfl (by rfl) ?_
        intro K hK
        have cp := pPutOwn_any B (.slice bb us.length cc) us (World.heap z1).size 1 [(.slice b1 L.length c1, L)] W0 z2 HOWN.out HBW.out HZ2.out HG2.out (fun p hp => by
          obtain rfl : p = (.slice b1 L.length c1, L) := by simpa using hp
          exact HO2.out) (by simp) (by have := HBb.out; simp [flatP]; omega)
        go_simp
        refine cp.mono ?_
        clear cp
        rintro e z3 ⟨v3, rfl, hop⟩
        have e3 : us ++ flatP [(Value.slice b1 L.length c1, L)] = us ++ L := by simp [flatP]
        rw [e3] at hop
        have hN3 := hop.other (own_stay HOWN.out HZ2.out) ((HZ2.out.block _ (heap_lt HN.out)).trans HN.out) (by decide)
        have hM3 := hop.other (own_stay HOWN.out HZ2.out) ((HZ2.out.block _ (heap_lt HM.out)).trans HM.out) (by decide)
        have HM3 : Hid (z3.heap[M]? = some (.cells #[.int .i64 x.k, .int .i64 x.n, .string (strB x.s)] 54 (0, 0))) := hM3
        have HN3 : Hid (z3.heap[N]? = some (.cells #[.slice bb us.length cc] 30 (0, 0))) := hN3
        have H3 : Hid (OwnTo B W0 (.slice bb us.length cc) z3 v3 (us ++ L)) := OwnTo.behind HZ2.out hop
        obtain ⟨n3, b3, c3, rfl⟩ := own_form1 hop.row
        have hn3 := cells1p hN3
        have fz3 := cfrozen hN3 0
        have hm3 := cells3p hM3
        clear hop e3 hN3 hM3
        (try go_simp)
        refine hK.out _ _ ⟨⟨z3, hm3.2.1⟩, rfl⟩ ?_
        clear hK K
        refine mix_loud (fuel := 0) (fuel' := 1) (i := 7) rfl (by kernel_rfl) rfl rfl (by rfl) ?_
        intro K hK
        go_simp
        have hm4 := cells3p ((Below.heap_setCell z3 ⟨N, 0, none⟩ (.slice b3 n3 c3) M HNM.out).trans HM3.out)
        refine hK.out _ _ ⟨⟨_, hm4.2.1⟩, rfl⟩ ?_
        clear hK K hm4 hm3 hn3 fz3
        refine mix_done (by kernel_rfl) ?_
        go_wp2
        refine bodyPost_end (v := .tuple #[]) (by simp [results, Tryz.results73]) rfl ?_
        refine ⟨rfl, _, HEND.out _ _ _ H3.out HN3.out, csetCell_block _ HN3.out⟩


set_option maxRecDepth 100000 in
set_option maxHeartbeats 8000000 in
theorem pPutT_any (B N M : Nat) (v0 : Value) (x : Vl) (w0 W0 : World) (bv : Value) (us : List UInt8) (hO : OwnTo B w0 v0 W0 bv us) (hB : B ≤ w0.heap.size) (hN : W0.heap[N]? = some (.cells #[bv] 30 (0, 0))) (hM : W0.heap[M]? = some (.cells #[.int .i64 x.k, .int .i64 x.n, .string (strB x.s)] 54 (0, 0))) (hNl : w0.heap.size ≤ N) (hi : x.s.length ≤ 1048576) (hb : us.length + (txB x.s).length ≤ 140737488355328) :
    Calls Tryz.prog 74 #[.pointer (some ⟨M, 2, none⟩), .pointer (some ⟨N, 0, none⟩)] W0 fun e w' => e = .returned (.tuple #[]) ∧ ∃ bv', OwnTo B w0 v0 w' bv' (us ++ txB x.s) ∧ w'.heap[N]? = some (.cells #[bv'] 30 (0, 0)) := by
  have C0 : Hid (∀ W, Calls Tryz.prog 21 #[.string (strB x.s)] W fun e w' => ∃ v, e = .returned v ∧ w'.ownsRow W.heap.size 5 1 v (txB x.s).length (Lib.byteCells (txB x.s)) ∧ Below W.heap.size W w') := fun W => pText_any x.s hi W
  obtain ⟨L, hL⟩ : ∃ L, L = txB x.s := ⟨_, rfl⟩
  rw [← hL] at C0 hb ⊢
  obtain ⟨bb, cc, rfl⟩ := own_form0 hO.row
  have HO : Hid (OwnTo B w0 v0 W0 (.slice bb us.length cc) us) := hO
  have HOWN : Hid (W0.ownsRow B 5 1 (.slice bb us.length cc) us.length (Lib.byteCells us)) := hO.row
  have HBW : Hid (B ≤ W0.heap.size) := Nat.le_trans hB hO.grown.size
  have HN : Hid (W0.heap[N]? = some (.cells #[.slice bb us.length cc] 30 (0, 0))) := hN
  have HM : Hid (W0.heap[M]? = some (.cells #[.int .i64 x.k, .int .i64 x.n, .string (strB x.s)] 54 (0, 0))) := hM
  have HNM : Hid (M ≠ N) := fun e => by
    subst e
    rw [hM] at hN
    simp at hN
  have HEND : Hid (∀ (z3 : World) (v3 : Value) (xs : Array Value), OwnTo B W0 (.slice bb us.length cc) z3 v3 (us ++ L) → z3.heap[N]? = some (.cells xs 30 (0, 0)) → OwnTo B w0 v0 (z3.setCell ⟨N, 0, none⟩ v3) v3 (us ++ L)) := fun z3 v3 xs h3 hn => (hO.trans h3).set hn (by decide) hNl _
  have HCF : Hid (∀ W, Below W0.heap.size W0 W → W.cell? ⟨M, 2, none⟩ = some (.string (strB x.s))) := fun W hW => (cells3p ((hW.block _ (heap_lt HM.out)).trans HM.out)).2.2
  have HCN : Hid (∀ W, Below W0.heap.size W0 W → W.cell? ⟨N, 0, none⟩ = some (.slice bb us.length cc)) := fun W hW => cells1p ((hW.block _ (heap_lt HN.out)).trans HN.out)
  haveI hne : Nonempty (ClsP (fun W => W.cell? ⟨M, 2, none⟩ = some (.string (strB x.s)))) := ⟨⟨W0, HCF.out W0 (Below.refl _ _)⟩⟩
  have XM : ∀ c : ClsP (fun W => W.cell? ⟨M, 2, none⟩ = some (.string (strB x.s))), c.1.cell? ⟨M, 2, none⟩ = some (.string (strB x.s)) := fun c => c.2
  have HBb : Hid (us.length + L.length ≤ 140737488355328) := hb
  have hn0 : W0.cell? ⟨N, 0, none⟩ = some (.slice bb us.length cc) := HCN.out W0 (Below.refl _ _)
  clear hO hN hM hb hL hi
  go_enter Tryz.func74, Tryz.ntmps74
  go_upto_region 0 with fail
  refine mix_begin (n := 8) (S := fun w' => ∃ c : ClsP (fun W => W.cell? ⟨M, 2, none⟩ = some (.string (strB x.s))), w' = c.1) (by kernel_rfl) rfl rfl ?_
  refine mix_seg (fuel := 7) (fuel' := 8) (idx := [1]) (by kernel_rfl) rfl rfl rfl (fun _ _ _ _ _ h => h) ⟨⟨W0.drew, HCF.out W0.drew (Below.refl _ _).drew⟩, rfl⟩ ?_
  show wpQuiet _ _ _ _ [_] _
  iterate 1 (go_big_quiet_step (fail))
  refine wpQuiet_nil ?_
  refine cmix_two (fuel := 6) (fuel' := 7) (i := 0) (k := 2) rfl rfl (by kernel_rfl) rfl rfl rfl (by rfl) (by rfl) ?_ ?_
  · intro K hK
    go_simp
    refine hK.out _ _ ⟨⟨W0.drew, HCF.out W0.drew (Below.refl _ _).drew⟩, rfl⟩ ?_
    clear hK K
    refine mix_loud (fuel := 5) (fuel' := 6) (i := 2) rfl (by kernel_rfl) rfl rfl (by rfl) ?_
    intro K hK
    go_simp
    refine hK.out _ _ ⟨⟨W0.drew, HCF.out W0.drew (Below.refl _ _).drew⟩, rfl⟩ ?_
    clear hK K
    refine mix_seg (fuel := 4) (fuel' := 5) (idx := [3]) (by kernel_rfl) rfl rfl rfl (fun _ _ _ _ _ h => h) ⟨⟨W0.drew, HCF.out W0.drew (Below.refl _ _).drew⟩, rfl⟩ ?_
    show wpQuiet _ _ _ _ [_] _
    iterate 1 (go_big_quiet_step (fail))
    refine wpQuiet_nil ?_
    clear XM
    refine mix_loud (fuel := 3) (fuel' := 4) (i := 4) rfl (by kernel_rfl) rfl rfl (by rfl) ?_
    intro K hK
    go_simp
    refine (C0.out W0.drew).mono ?_
    rintro e z1 ⟨p1, rfl, ho, hb⟩
    obtain ⟨b1, c1, rfl⟩ := own_form0 ho
    have HO1 : Hid (z1.ownsRow (World.heap W0.drew).size 5 1 (.slice b1 L.length c1) L.length (Lib.byteCells L)) := ho
    have HZ1 : Hid (Below W0.heap.size W0 z1) := (Below.refl _ _).drew.trans hb
    have hn1 : z1.cell? ⟨N, 0, none⟩ = some (.slice bb us.length cc) := HCN.out z1 HZ1.out
    clear ho hb
    (try go_simp)
    refine hK.out _ _ ⟨⟨z1, HCF.out z1 HZ1.out⟩, rfl⟩ ?_
    clear hK K
    refine mix_loud (fuel := 2) (fuel' := 3) (i := 5) rfl (by kernel_rfl) rfl rfl (by rfl) ?_
    intro K hK
    go_simp
    obtain ⟨z2, hz2, hb2, -, hg2⟩ := box1 z1 (.cells #[.slice b1 L.length c1] 30)
    rw [← hz2]
    have HZ2 : Hid (Below W0.heap.size W0 z2) := HZ1.out.trans (hb2.mono HZ1.out.size)
    have HG2 : Hid (z2.heap[(World.heap z1).size]? = some (.cells #[.slice b1 L.length c1] 30 (0, 0))) := hg2
    have HO2 : Hid (z2.ownsRow W0.heap.size 5 1 (.slice b1 L.length c1) L.length (Lib.byteCells L)) := own_stay HO1.out hb2
    have hn2 : z2.cell? ⟨N, 0, none⟩ = some (.slice bb us.length cc) := HCN.out z2 HZ2.out
    refine hK.out _ _ ⟨⟨z2, HCF.out z2 HZ2.out⟩, rfl⟩ ?_
    clear hK K hz2 hb2 hg2
    refine mix_loud (fuel := 1) (fuel' := 2) (i := 6) rfl (by kernel_rfl) rfl rfl (by rfl) ?_
    intro K hK
    have cp := pPutOwn_any B (.slice bb us.length cc) us (World.heap z1).size 1 [(.slice b1 L.length c1, L)] W0 z2 HOWN.out HBW.out HZ2.out HG2.out (fun p hp => by
      obtain rfl : p = (.slice b1 L.length c1, L) := by simpa using hp
      exact HO2.out) (by simp) (by have := HBb.out; simp [flatP]; omega)
    go_simp
    refine cp.mono ?_
    clear cp
    rintro e z3 ⟨v3, rfl, hop⟩
    have e3 : us ++ flatP [(Value.slice b1 L.length c1, L)] = us ++ L := by simp [flatP]
    rw [e3] at hop
    have hN3 := hop.other (own_stay HOWN.out HZ2.out) ((HZ2.out.block _ (heap_lt HN.out)).trans HN.out) (by decide)
    have hM3 := hop.other (own_stay HOWN.out HZ2.out) ((HZ2.out.block _ (heap_lt HM.out)).trans HM.out) (by decide)
    have HM3 : Hid (z3.heap[M]? = some (.cells #[.int .i64 x.k, .int .i64 x.n, .string (strB x.s)] 54 (0, 0))) := hM3
    have HN3 : Hid (z3.heap[N]? = some (.cells #[.slice bb us.length cc] 30 (0, 0))) := hN3
    have H3 : Hid (OwnTo B W0 (.slice bb us.length cc) z3 v3 (us ++ L)) := OwnTo.behind HZ2.out hop
    obtain ⟨n3, b3, c3, rfl⟩ := own_form1 hop.row
    have hn3 := cells1p hN3
    have fz3 := cfrozen hN3 0
    have hm3 := cells3p hM3
    clear hop e3 hN3 hM3
    (try go_simp)
    refine hK.out _ _ ⟨⟨z3, hm3.2.2⟩, rfl⟩ ?_
    clear hK K
    refine mix_loud (fuel := 0) (fuel' := 1) (i := 7) rfl (by kernel_rfl) rfl rfl (by rfl) ?_
    intro K hK
    go_simp
    have hm4 := cells3p ((Below.heap_setCell z3 ⟨N, 0, none⟩ (.slice b3 n3 c3) M HNM.out).trans HM3.out)
    refine hK.out _ _ ⟨⟨_, hm4.2.2⟩, rfl⟩ ?_
    clear hK K hm4 hm3 hn3 fz3
    refine mix_done (by kernel_rfl) ?_
    go_wp2
    refine bodyPost_end (v := .tuple #[]) (by simp [results, Tryz.results74]) rfl ?_
    refine ⟨rfl, _, HEND.out _ _ _ H3.out HN3.out, csetCell_block _ HN3.out⟩
  · intro K hK
    go_simp
    refine hK.out _ _ ⟨⟨W0.drew, HCF.out W0.drew (Below.refl _ _).drew⟩, rfl⟩ ?_
    clear hK K
    refine mix_seg (fuel := 5) (fuel' := 6) (idx := [3]) (by kernel_rfl) rfl rfl rfl (fun _ _ _ _ _ h => h) ⟨⟨W0.drew, HCF.out W0.drew (Below.refl _ _).drew⟩, rfl⟩ ?_
    show wpQuiet _ _ _ _ [_] _
    iterate 1 (go_big_quiet_step (fail))
    refine wpQuiet_nil ?_
    clear XM
    refine cmix_two (fuel := 4) (fuel' := 5) (i := 0) (k := 4) rfl rfl (by kernel_rfl) rfl rfl rfl (by rfl) (by rfl) ?_ ?_
    · intro K hK
      go_simp
      refine hK.out _ _ ⟨⟨W0.drew, HCF.out W0.drew (Below.refl _ _).drew⟩, rfl⟩ ?_
      clear hK K
      refine mix_loud (fuel := 3) (fuel' := 4) (i := 4) rfl (by kernel_rfl) rfl rfl (by rfl) ?_
      intro K hK
      go_simp
      refine (C0.out W0.drew).mono ?_
      rintro e z1 ⟨p1, rfl, ho, hb⟩
      obtain ⟨b1, c1, rfl⟩ := own_form0 ho
      have HO1 : Hid (z1.ownsRow (World.heap W0.drew).size 5 1 (.slice b1 L.length c1) L.length (Lib.byteCells L)) := ho
      have HZ1 : Hid (Below W0.heap.size W0 z1) := (Below.refl _ _).drew.trans hb
      have hn1 : z1.cell? ⟨N, 0, none⟩ = some (.slice bb us.length cc) := HCN.out z1 HZ1.out
      clear ho hb
      (try go_simp)
      refine hK.out _ _ ⟨⟨z1, HCF.out z1 HZ1.out⟩, rfl⟩ ?_
      clear hK K
      refine mix_loud (fuel := 2) (fuel' := 3) (i := 5) rfl (by kernel_rfl) rfl rfl (by rfl) ?_
      intro K hK
      go_simp
      obtain ⟨z2, hz2, hb2, -, hg2⟩ := box1 z1 (.cells #[.slice b1 L.length c1] 30)
      rw [← hz2]
      have HZ2 : Hid (Below W0.heap.size W0 z2) := HZ1.out.trans (hb2.mono HZ1.out.size)
      have HG2 : Hid (z2.heap[(World.heap z1).size]? = some (.cells #[.slice b1 L.length c1] 30 (0, 0))) := hg2
      have HO2 : Hid (z2.ownsRow W0.heap.size 5 1 (.slice b1 L.length c1) L.length (Lib.byteCells L)) := own_stay HO1.out hb2
      have hn2 : z2.cell? ⟨N, 0, none⟩ = some (.slice bb us.length cc) := HCN.out z2 HZ2.out
      refine hK.out _ _ ⟨⟨z2, HCF.out z2 HZ2.out⟩, rfl⟩ ?_
      clear hK K hz2 hb2 hg2
      refine mix_loud (fuel := 1) (fuel' := 2) (i := 6) rfl (by kernel_rfl) rfl rfl (by rfl) ?_
      intro K hK
      have cp := pPutOwn_any B (.slice bb us.length cc) us (World.heap z1).size 1 [(.slice b1 L.length c1, L)] W0 z2 HOWN.out HBW.out HZ2.out HG2.out (fun p hp => by
        obtain rfl : p = (.slice b1 L.length c1, L) := by simpa using hp
        exact HO2.out) (by simp) (by have := HBb.out; simp [flatP]; omega)
      go_simp
      refine cp.mono ?_
      clear cp
      rintro e z3 ⟨v3, rfl, hop⟩
      have e3 : us ++ flatP [(Value.slice b1 L.length c1, L)] = us ++ L := by simp [flatP]
      rw [e3] at hop
      have hN3 := hop.other (own_stay HOWN.out HZ2.out) ((HZ2.out.block _ (heap_lt HN.out)).trans HN.out) (by decide)
      have hM3 := hop.other (own_stay HOWN.out HZ2.out) ((HZ2.out.block _ (heap_lt HM.out)).trans HM.out) (by decide)
      have HM3 : Hid (z3.heap[M]? = some (.cells #[.int .i64 x.k, .int .i64 x.n, .string (strB x.s)] 54 (0, 0))) := hM3
      have HN3 : Hid (z3.heap[N]? = some (.cells #[.slice bb us.length cc] 30 (0, 0))) := hN3
      have H3 : Hid (OwnTo B W0 (.slice bb us.length cc) z3 v3 (us ++ L)) := OwnTo.behind HZ2.out hop
      obtain ⟨n3, b3, c3, rfl⟩ := own_form1 hop.row
      have hn3 := cells1p hN3
      have fz3 := cfrozen hN3 0
      have hm3 := cells3p hM3
      clear hop e3 hN3 hM3
      (try go_simp)
      refine hK.out _ _ ⟨⟨z3, hm3.2.2⟩, rfl⟩ ?_
      clear hK K
      refine mix_loud (fuel := 0) (fuel' := 1) (i := 7) rfl (by kernel_rfl) rfl rfl (by rfl) ?_
      intro K hK
      go_simp
      have hm4 := cells3p ((Below.heap_setCell z3 ⟨N, 0, none⟩ (.slice b3 n3 c3) M HNM.out).trans HM3.out)
      refine hK.out _ _ ⟨⟨_, hm4.2.2⟩, rfl⟩ ?_
      clear hK K hm4 hm3 hn3 fz3
      refine mix_done (by kernel_rfl) ?_
      go_wp2
      refine bodyPost_end (v := .tuple #[]) (by simp [results, Tryz.results74]) rfl ?_
      refine ⟨rfl, _, HEND.out _ _ _ H3.out HN3.out, csetCell_block _ HN3.out⟩
    · intro K hK
      go_simp
      refine (C0.out W0.drew).mono ?_
      rintro e z1 ⟨p1, rfl, ho, hb⟩
      obtain ⟨b1, c1, rfl⟩ := own_form0 ho
      have HO1 : Hid (z1.ownsRow (World.heap W0.drew).size 5 1 (.slice b1 L.length c1) L.length (Lib.byteCells L)) := ho
      have HZ1 : Hid (Below W0.heap.size W0 z1) := (Below.refl _ _).drew.trans hb
      have hn1 : z1.cell? ⟨N, 0, none⟩ = some (.slice bb us.length cc) := HCN.out z1 HZ1.out
      clear ho hb
      (try go_simp)
      refine hK.out _ _ ⟨⟨z1, HCF.out z1 HZ1.out⟩, rfl⟩ ?_
      clear hK K
      refine cmix_two (fuel := 3) (fuel' := 4) (i := 0) (k := 5) rfl rfl (by kernel_rfl) rfl rfl rfl (by rfl) (by rfl) ?_ ?_
      · intro K hK
        go_simp
        refine hK.out _ _ ⟨⟨z1, HCF.out z1 HZ1.out⟩, rfl⟩ ?_
        clear hK K
        refine mix_loud (fuel := 2) (fuel' := 3) (i := 5) rfl (by kernel_rfl) rfl rfl (by rfl) ?_
        intro K hK
        go_simp
        obtain ⟨z2, hz2, hb2, -, hg2⟩ := box1 z1 (.cells #[.slice b1 L.length c1] 30)
        rw [← hz2]
        have HZ2 : Hid (Below W0.heap.size W0 z2) := HZ1.out.trans (hb2.mono HZ1.out.size)
        have HG2 : Hid (z2.heap[(World.heap z1).size]? = some (.cells #[.slice b1 L.length c1] 30 (0, 0))) := hg2
        have HO2 : Hid (z2.ownsRow W0.heap.size 5 1 (.slice b1 L.length c1) L.length (Lib.byteCells L)) := own_stay HO1.out hb2
        have hn2 : z2.cell? ⟨N, 0, none⟩ = some (.slice bb us.length cc) := HCN.out z2 HZ2.out
        refine hK.out _ _ ⟨⟨z2, HCF.out z2 HZ2.out⟩, rfl⟩ ?_
        clear hK K hz2 hb2 hg2
        refine mix_loud (fuel := 1) (fuel' := 2) (i := 6) rfl (by kernel_rfl) rfl rfl (by rfl) ?_
        intro K hK
        have cp := pPutOwn_any B (.slice bb us.length cc) us (World.heap z1).size 1 [(.slice b1 L.length c1, L)] W0 z2 HOWN.out HBW.out HZ2.out HG2.out (fun p hp => by
          obtain rfl : p = (.slice b1 L.length c1, L) := by simpa using hp
          exact HO2.out) (by simp) (by have := HBb.out; simp [flatP]; omega)
        go_simp
        refine cp.mono ?_
        clear cp
        rintro e z3 ⟨v3, rfl, hop⟩
        have e3 : us ++ flatP [(Value.slice b1 L.length c1, L)] = us ++ L := by simp [flatP]
        rw [e3] at hop
        have hN3 := hop.other (own_stay HOWN.out HZ2.out) ((HZ2.out.block _ (heap_lt HN.out)).trans HN.out) (by decide)
        have hM3 := hop.other (own_stay HOWN.out HZ2.out) ((HZ2.out.block _ (heap_lt HM.out)).trans HM.out) (by decide)
        have HM3 : Hid (z3.heap[M]? = some (.cells #[.int .i64 x.k, .int .i64 x.n, .string (strB x.s)] 54 (0, 0))) := hM3
        have HN3 : Hid (z3.heap[N]? = some (.cells #[.slice bb us.length cc] 30 (0, 0))) := hN3
        have H3 : Hid (OwnTo B W0 (.slice bb us.length cc) z3 v3 (us ++ L)) := OwnTo.behind HZ2.out hop
        obtain ⟨n3, b3, c3, rfl⟩ := own_form1 hop.row
        have hn3 := cells1p hN3
        have fz3 := cfrozen hN3 0
        have hm3 := cells3p hM3
        clear hop e3 hN3 hM3
        (try go_simp)
        refine hK.out _ _ ⟨⟨z3, hm3.2.2⟩, rfl⟩ ?_
        clear hK K
        refine mix_loud (fuel := 0) (fuel' := 1) (i := 7) rfl (by kernel_rfl) rfl rfl (by rfl) ?_
        intro K hK
        go_simp
        have hm4 := cells3p ((Below.heap_setCell z3 ⟨N, 0, none⟩ (.slice b3 n3 c3) M HNM.out).trans HM3.out)
        refine hK.out _ _ ⟨⟨_, hm4.2.2⟩, rfl⟩ ?_
        clear hK K hm4 hm3 hn3 fz3
        refine mix_done (by kernel_rfl) ?_
        go_wp2
        refine bodyPost_end (v := .tuple #[]) (by simp [results, Tryz.results74]) rfl ?_
        refine ⟨rfl, _, HEND.out _ _ _ H3.out HN3.out, csetCell_block _ HN3.out⟩
      · intro K hK
        go_simp
        obtain ⟨z2, hz2, hb2, -, hg2⟩ := box1 z1 (.cells #[.slice b1 L.length c1] 30)
        rw [← hz2]
        have HZ2 : Hid (Below W0.heap.size W0 z2) := HZ1.out.trans (hb2.mono HZ1.out.size)
        have HG2 : Hid (z2.heap[(World.heap z1).size]? = some (.cells #[.slice b1 L.length c1] 30 (0, 0))) := hg2
        have HO2 : Hid (z2.ownsRow W0.heap.size 5 1 (.slice b1 L.length c1) L.length (Lib.byteCells L)) := own_stay HO1.out hb2
        have hn2 : z2.cell? ⟨N, 0, none⟩ = some (.slice bb us.length cc) := HCN.out z2 HZ2.out
        refine hK.out _ _ ⟨⟨z2, HCF.out z2 HZ2.out⟩, rfl⟩ ?_
        clear hK K hz2 hb2 hg2
        refine mix_loud (fuel := 2) (fuel' := 3) (i := 0) rfl (by kernel_rfl) rfl rfl (by rfl) ?_
        intro K hK
        go_simp
        refine hK.out _ _ ⟨⟨z2, HCF.out z2 HZ2.out⟩, rfl⟩ ?_
        clear hK K
        refine mix_loud (fuel := 1) (fuel' := 2) (i := 6) rfl (by kernel_rfl) rfl rfl (by rfl) ?_
        intro K hK
        have cp := pPutOwn_any B (.slice bb us.length cc) us (World.heap z1).size 1 [(.slice b1 L.length c1, L)] W0 z2 HOWN.out HBW.out HZ2.out HG2.out (fun p hp => by
          obtain rfl : p = (.slice b1 L.length c1, L) := by simpa using hp
          exact HO2.out) (by simp) (by have := HBb.out; simp [flatP]; omega)
        go_simp
        refine cp.mono ?_
        clear cp
        rintro e z3 ⟨v3, rfl, hop⟩
        have e3 : us ++ flatP [(Value.slice b1 L.length c1, L)] = us ++ L := by simp [flatP]
        rw [e3] at hop
        have hN3 := hop.other (own_stay HOWN.out HZ2.out) ((HZ2.out.block _ (heap_lt HN.out)).trans HN.out) (by decide)
        have hM3 := hop.other (own_stay HOWN.out HZ2.out) ((HZ2.out.block _ (heap_lt HM.out)).trans HM.out) (by decide)
        have HM3 : Hid (z3.heap[M]? = some (.cells #[.int .i64 x.k, .int .i64 x.n, .string (strB x.s)] 54 (0, 0))) := hM3
        have HN3 : Hid (z3.heap[N]? = some (.cells #[.slice bb us.length cc] 30 (0, 0))) := hN3
        have H3 : Hid (OwnTo B W0 (.slice bb us.length cc) z3 v3 (us ++ L)) := OwnTo.behind HZ2.out hop
        obtain ⟨n3, b3, c3, rfl⟩ := own_form1 hop.row
        have hn3 := cells1p hN3
        have fz3 := cfrozen hN3 0
        have hm3 := cells3p hM3
        clear hop e3 hN3 hM3
        (try go_simp)
        refine hK.out _ _ ⟨⟨z3, hm3.2.2⟩, rfl⟩ ?_
        clear hK K
        refine mix_loud (fuel := 0) (fuel' := 1) (i := 7) rfl (by kernel_rfl) rfl rfl (by rfl) ?_
        intro K hK
        go_simp
        have hm4 := cells3p ((Below.heap_setCell z3 ⟨N, 0, none⟩ (.slice b3 n3 c3) M HNM.out).trans HM3.out)
        refine hK.out _ _ ⟨⟨_, hm4.2.2⟩, rfl⟩ ?_
        clear hK K hm4 hm3 hn3 fz3
        refine mix_done (by kernel_rfl) ?_
        go_wp2
        refine bodyPost_end (v := .tuple #[]) (by simp [results, Tryz.results74]) rfl ?_
        refine ⟨rfl, _, HEND.out _ _ _ H3.out HN3.out, csetCell_block _ HN3.out⟩


def behB (x : Vl) : List UInt8 := if x.k = 1 ∨ x.k = 2 ∨ x.k = 4 then numB x.n else if x.k = 3 then txB x.s else []

set_option maxRecDepth 100000 in
set_option maxHeartbeats 8000000 in
theorem pBehPut_any (B N M : Nat) (v0 : Value) (x : Vl) (w0 W0 : World) (bv : Value) (us : List UInt8) (hO : OwnTo B w0 v0 W0 bv us) (hB : B ≤ w0.heap.size) (hN : W0.heap[N]? = some (.cells #[bv] 30 (0, 0))) (hM : W0.heap[M]? = some (.cells #[.int .i64 x.k, .int .i64 x.n, .string (strB x.s)] 54 (0, 0))) (hNl : w0.heap.size ≤ N) (hi : smallV x) (hb : us.length + (behB x).length ≤ 140737488355328) :
    Calls Tryz.prog 72 #[.pointer (some ⟨M, 0, none⟩), .func (.func 73) #[] #[.pointer (some ⟨N, 0, none⟩)], .func (.func 74) #[] #[.pointer (some ⟨N, 0, none⟩)]] W0 fun e w' => e = .returned (.tuple #[]) ∧ ∃ bv', OwnTo B w0 v0 w' bv' (us ++ behB x) ∧ w'.heap[N]? = some (.cells #[bv'] 30 (0, 0)) := by
  have c1 : x.k = 1 ∨ x.k = 2 ∨ x.k = 4 → Calls Tryz.prog 73 #[.pointer (some ⟨M, 1, none⟩), .pointer (some ⟨N, 0, none⟩)] W0 fun e w' => e = .returned (.tuple #[]) ∧ ∃ bv', OwnTo B w0 v0 w' bv' (us ++ behB x) ∧ w'.heap[N]? = some (.cells #[bv'] 30 (0, 0)) := fun h => by
    have e : behB x = numB x.n := by unfold behB; rw [if_pos h]
    rw [e] at hb ⊢
    exact pPutN_any B N M v0 x w0 W0 bv us hO hB hN hM hNl hi.1 hb
  have c2 : x.k = 3 → Calls Tryz.prog 74 #[.pointer (some ⟨M, 2, none⟩), .pointer (some ⟨N, 0, none⟩)] W0 fun e w' => e = .returned (.tuple #[]) ∧ ∃ bv', OwnTo B w0 v0 w' bv' (us ++ behB x) ∧ w'.heap[N]? = some (.cells #[bv'] 30 (0, 0)) := fun h => by
    have e : behB x = txB x.s := by unfold behB; rw [if_neg (by omega), if_pos h]
    rw [e] at hb ⊢
    exact pPutT_any B N M v0 x w0 W0 bv us hO hB hN hM hNl hi.2 hb
  have HZ : Hid (¬ (x.k = 1 ∨ x.k = 2 ∨ x.k = 4) → ¬ x.k = 3 → ∃ bv', OwnTo B w0 v0 W0 bv' (us ++ behB x) ∧ W0.heap[N]? = some (.cells #[bv'] 30 (0, 0))) := fun h1 h2 => by
    have e : behB x = [] := by unfold behB; rw [if_neg h1, if_neg h2]
    rw [e, List.append_nil]
    exact ⟨bv, hO, hN⟩
  obtain ⟨R, hR⟩ : ∃ R, R = us ++ behB x := ⟨_, rfl⟩
  rw [← hR] at c1 c2 HZ ⊢
  obtain ⟨m0, m1, m2⟩ := cells3p hM
  have hml := heap_lt hM
  obtain ⟨k, hk⟩ : ∃ k, k = x.k := ⟨_, rfl⟩
  rw [← hk] at c1 c2 HZ m0
  clear hO hB hN hM hNl hi hb hR hk
  by_cases h1 : k = 1
  · subst h1
    replace c1 := c1 (.inl rfl)
    clear c2
    go_enter Tryz.func72, Tryz.ntmps72
    go_wp2_with fail
    refine c1.mono ?_
    clear c1
    rintro e w1 ⟨rfl, bv', ho, hn⟩
    have HE : Hid (OwnTo B w0 v0 w1 bv' R ∧ w1.heap[N]? = some (.cells #[bv'] 30 (0, 0))) := ⟨ho, hn⟩
    clear ho hn
    go_wp2
    refine bodyPost_end (v := .tuple #[]) (by simp [results, Tryz.results72]) rfl ?_
    exact ⟨rfl, _, HE.out⟩
  · by_cases h2 : k = 2
    · subst h2
      replace c1 := c1 (.inr (.inl rfl))
      clear c2
      go_enter Tryz.func72, Tryz.ntmps72
      go_wp2_with fail
      refine c1.mono ?_
      clear c1
      rintro e w1 ⟨rfl, bv', ho, hn⟩
      have HE : Hid (OwnTo B w0 v0 w1 bv' R ∧ w1.heap[N]? = some (.cells #[bv'] 30 (0, 0))) := ⟨ho, hn⟩
      clear ho hn
      go_wp2
      refine bodyPost_end (v := .tuple #[]) (by simp [results, Tryz.results72]) rfl ?_
      exact ⟨rfl, _, HE.out⟩
    · by_cases h4 : k = 4
      · subst h4
        replace c1 := c1 (.inr (.inr rfl))
        clear c2
        go_enter Tryz.func72, Tryz.ntmps72
        go_wp2_with fail
        refine c1.mono ?_
        clear c1
        rintro e w1 ⟨rfl, bv', ho, hn⟩
        have HE : Hid (OwnTo B w0 v0 w1 bv' R ∧ w1.heap[N]? = some (.cells #[bv'] 30 (0, 0))) := ⟨ho, hn⟩
        clear ho hn
        go_wp2
        refine bodyPost_end (v := .tuple #[]) (by simp [results, Tryz.results72]) rfl ?_
        exact ⟨rfl, _, HE.out⟩
      · by_cases h3 : k = 3
        · subst h3
          replace c2 := c2 rfl
          clear c1
          go_enter Tryz.func72, Tryz.ntmps72
          go_wp2_with fail
          refine c2.mono ?_
          clear c2
          rintro e w1 ⟨rfl, bv', ho, hn⟩
          have HE : Hid (OwnTo B w0 v0 w1 bv' R ∧ w1.heap[N]? = some (.cells #[bv'] 30 (0, 0))) := ⟨ho, hn⟩
          clear ho hn
          go_wp2
          refine bodyPost_end (v := .tuple #[]) (by simp [results, Tryz.results72]) rfl ?_
          exact ⟨rfl, _, HE.out⟩
        · have HZ2 : Hid (∃ bv', OwnTo B w0 v0 W0 bv' R ∧ W0.heap[N]? = some (.cells #[bv'] 30 (0, 0))) := HZ.out (by omega) h3
          have d1 : (k == 1) = false := by rw [beq_eq_false_iff_ne]; exact h1
          have d2 : (k == 2) = false := by rw [beq_eq_false_iff_ne]; exact h2
          have d3 : (k == 3) = false := by rw [beq_eq_false_iff_ne]; exact h3
          have d4 : (k == 4) = false := by rw [beq_eq_false_iff_ne]; exact h4
          clear c1 c2 HZ
          go_enter Tryz.func72, Tryz.ntmps72
          go_wp2
          refine bodyPost_end (v := .tuple #[]) (by simp [results, Tryz.results72]) rfl ?_
          exact ⟨rfl, HZ2.out⟩

set_option maxRecDepth 100000 in
set_option maxHeartbeats 8000000 in
theorem pPutVal_any (B : Nat) (v : Value) (us : List UInt8) (x : Vl) (w : World) (hown : w.ownsRow B 5 1 v us.length (Lib.byteCells us)) (hB : B ≤ w.heap.size) (hi : smallV x ∧ I64 x.k) (hb : us.length + (vlB x).length ≤ 140737488355328) :
    Calls Tryz.prog 43 #[v, vlV x] w fun e w' => ∃ v', e = .returned v' ∧ OwnTo B w v w' v' (us ++ vlB x) := by
  have hvb : vlB x = numB x.k ++ behB x := rfl
  have C0 : Hid (∀ W, Calls Tryz.prog 71 #[.int .i64 x.k] W fun e w' => ∃ v, e = .returned v ∧ w'.ownsRow W.heap.size 5 1 v (numB x.k).length (Lib.byteCells (numB x.k)) ∧ Below W.heap.size W w') := fun W => pNumberK_any x.k hi.2.1 hi.2.2 W
  rw [hvb] at hb ⊢
  obtain ⟨L, hL⟩ : ∃ L, L = numB x.k := ⟨_, rfl⟩
  rw [← hL] at C0 hb ⊢
  rw [List.length_append] at hb
  have HBE : Hid (us.length + L.length + (behB x).length ≤ 140737488355328) := by show _ ≤ _; omega
  have HSV : Hid (smallV x) := hi.1
  obtain ⟨bb, cc, rfl⟩ := own_form0 hown
  obtain ⟨W0, hW0, hbW, -, hN, hM⟩ := box2 w (.cells #[.slice bb us.length cc] 30) (.cells #[.int .i64 x.k, .int .i64 x.n, .string (strB x.s)] 54)
  have HW0 : Hid (W0 = (w.alloc (.cells #[.slice bb us.length cc] 30)).alloc (.cells #[.int .i64 x.k, .int .i64 x.n, .string (strB x.s)] 54)) := hW0
  obtain ⟨N, hNe⟩ : ∃ N, N = w.heap.size := ⟨_, rfl⟩
  obtain ⟨M, hMe⟩ : ∃ M, M = w.heap.size + 1 := ⟨_, rfl⟩
  have HNE : Hid (w.heap.size = N) := hNe.symm
  have HME : Hid (N + 1 = M) := by show _ = _; rw [hMe, hNe]
  rw [← hNe] at hN
  rw [← hMe] at hM
  obtain ⟨w0, hw0⟩ : ∃ w0, w0 = w := ⟨_, rfl⟩
  obtain ⟨v0, hv0⟩ : ∃ v0 : Value, v0 = .slice bb us.length cc := ⟨_, rfl⟩
  have hO : OwnTo B w0 v0 W0 (.slice bb us.length cc) us := by rw [hw0, hv0]; exact OwnTo.behind hbW (OwnTo.refl (own_stay hown hbW))
  have hNl : w0.heap.size ≤ N := by rw [hw0, hNe]; exact Nat.le_refl _
  have HWV : Hid (w0 = w ∧ v0 = .slice bb us.length cc) := ⟨hw0, hv0⟩
  have hB0 : B ≤ w0.heap.size := by rw [hw0]; exact hB
  have HB0 : Hid (B ≤ w0.heap.size) := hB0
  have HNL : Hid (w0.heap.size ≤ N) := hNl
  replace hb : us.length + L.length ≤ 140737488355328 := by omega
  have HO : Hid (OwnTo B w0 v0 W0 (.slice bb us.length cc) us) := hO
  have HOWN : Hid (W0.ownsRow B 5 1 (.slice bb us.length cc) us.length (Lib.byteCells us)) := hO.row
  have HBW : Hid (B ≤ W0.heap.size) := Nat.le_trans hB0 hO.grown.size
  have HN : Hid (W0.heap[N]? = some (.cells #[.slice bb us.length cc] 30 (0, 0))) := hN
  have HM : Hid (W0.heap[M]? = some (.cells #[.int .i64 x.k, .int .i64 x.n, .string (strB x.s)] 54 (0, 0))) := hM
  have HNM : Hid (M ≠ N) := fun e => by
    subst e
    rw [hM] at hN
    simp at hN
  have HEND : Hid (∀ (z3 : World) (v3 : Value) (xs : Array Value), OwnTo B W0 (.slice bb us.length cc) z3 v3 (us ++ L) → z3.heap[N]? = some (.cells xs 30 (0, 0)) → OwnTo B w0 v0 (z3.setCell ⟨N, 0, none⟩ v3) v3 (us ++ L)) := fun z3 v3 xs h3 hn => (hO.trans h3).set hn (by decide) hNl _
  have HCF : Hid (∀ W, Below W0.heap.size W0 W → W.cell? ⟨M, 0, none⟩ = some (.int .i64 x.k)) := fun W hW => (cells3p ((hW.block _ (heap_lt HM.out)).trans HM.out)).1
  have HCN : Hid (∀ W, Below W0.heap.size W0 W → W.cell? ⟨N, 0, none⟩ = some (.slice bb us.length cc)) := fun W hW => cells1p ((hW.block _ (heap_lt HN.out)).trans HN.out)
  haveI hne : Nonempty (ClsP (fun W => W.cell? ⟨M, 0, none⟩ = some (.int .i64 x.k))) := ⟨⟨W0, HCF.out W0 (Below.refl _ _)⟩⟩
  have XM : ∀ c : ClsP (fun W => W.cell? ⟨M, 0, none⟩ = some (.int .i64 x.k)), c.1.cell? ⟨M, 0, none⟩ = some (.int .i64 x.k) := fun c => c.2
  have HBb : Hid (us.length + L.length ≤ 140737488355328) := hb
  have hn0 : W0.cell? ⟨N, 0, none⟩ = some (.slice bb us.length cc) := HCN.out W0 (Below.refl _ _)
  clear hO hN hM hb hL hi hvb hown hW0 hbW hNe hMe hw0 hv0 hNl hB0
  go_enter Tryz.func43, Tryz.ntmps43
  go_upto_region 1 with fail
  rw [← HW0.out, HNE.out, HME.out]
  refine mix_begin (n := 7) (S := fun w' => ∃ c : ClsP (fun W => W.cell? ⟨M, 0, none⟩ = some (.int .i64 x.k)), w' = c.1) (by kernel_rfl) rfl rfl ?_
  refine mix_seg (fuel := 5) (fuel' := 7) (idx := [1, 2]) (by kernel_rfl) rfl rfl rfl (fun _ _ _ _ _ h => h) ⟨⟨W0.drew, HCF.out W0.drew (Below.refl _ _).drew⟩, rfl⟩ ?_
  show wpQuiet _ _ _ _ [_, _] _
  iterate 2 (go_big_quiet_step (fail))
  refine wpQuiet_nil ?_
  clear XM
  refine cmix_two (fuel := 4) (fuel' := 5) (i := 0) (k := 3) rfl rfl (by kernel_rfl) rfl rfl rfl (by rfl) (by rfl) ?_ ?_
  · intro K hK
    go_simp
    refine hK.out _ _ ⟨⟨W0.drew, HCF.out W0.drew (Below.refl _ _).drew⟩, rfl⟩ ?_
    clear hK K
    refine mix_loud (fuel := 3) (fuel' := 4) (i := 3) rfl (by kernel_rfl) rfl rfl (by rfl) ?_
    intro K hK
    go_simp
    refine (C0.out W0.drew).mono ?_
    rintro e z1 ⟨p1, rfl, ho, hb⟩
    obtain ⟨b1, c1, rfl⟩ := own_form0 ho
    have HO1 : Hid (z1.ownsRow (World.heap W0.drew).size 5 1 (.slice b1 L.length c1) L.length (Lib.byteCells L)) := ho
    have HZ1 : Hid (Below W0.heap.size W0 z1) := (Below.refl _ _).drew.trans hb
    have hn1 : z1.cell? ⟨N, 0, none⟩ = some (.slice bb us.length cc) := HCN.out z1 HZ1.out
    clear ho hb
    (try go_simp)
    refine hK.out _ _ ⟨⟨z1, HCF.out z1 HZ1.out⟩, rfl⟩ ?_
    clear hK K
    refine mix_loud (fuel := 2) (fuel' := 3) (i := 4) rfl (by kernel_rfl) rfl rfl (by rfl) ?_
    intro K hK
    go_simp
    obtain ⟨z2, hz2, hb2, -, hg2⟩ := box1 z1 (.cells #[.slice b1 L.length c1] 30)
    rw [← hz2]
    have HZ2 : Hid (Below W0.heap.size W0 z2) := HZ1.out.trans (hb2.mono HZ1.out.size)
    have HG2 : Hid (z2.heap[(World.heap z1).size]? = some (.cells #[.slice b1 L.length c1] 30 (0, 0))) := hg2
    have HO2 : Hid (z2.ownsRow W0.heap.size 5 1 (.slice b1 L.length c1) L.length (Lib.byteCells L)) := own_stay HO1.out hb2
    have hn2 : z2.cell? ⟨N, 0, none⟩ = some (.slice bb us.length cc) := HCN.out z2 HZ2.out
    refine hK.out _ _ ⟨⟨z2, HCF.out z2 HZ2.out⟩, rfl⟩ ?_
    clear hK K hz2 hb2 hg2
    refine mix_loud (fuel := 1) (fuel' := 2) (i := 5) rfl (by kernel_rfl) rfl rfl (by rfl) ?_
    intro K hK
    have cp := pPutOwn_any B (.slice bb us.length cc) us (World.heap z1).size 1 [(.slice b1 L.length c1, L)] W0 z2 HOWN.out HBW.out HZ2.out HG2.out (fun p hp => by
      obtain rfl : p = (.slice b1 L.length c1, L) := by simpa using hp
      exact HO2.out) (by simp) (by have := HBb.out; simp [flatP]; omega)
    go_simp
    refine cp.mono ?_
    clear cp
    rintro e z3 ⟨v3, rfl, hop⟩
    have e3 : us ++ flatP [(Value.slice b1 L.length c1, L)] = us ++ L := by simp [flatP]
    rw [e3] at hop
    have hN3 := hop.other (own_stay HOWN.out HZ2.out) ((HZ2.out.block _ (heap_lt HN.out)).trans HN.out) (by decide)
    have hM3 := hop.other (own_stay HOWN.out HZ2.out) ((HZ2.out.block _ (heap_lt HM.out)).trans HM.out) (by decide)
    have HM3 : Hid (z3.heap[M]? = some (.cells #[.int .i64 x.k, .int .i64 x.n, .string (strB x.s)] 54 (0, 0))) := hM3
    have HN3 : Hid (z3.heap[N]? = some (.cells #[.slice bb us.length cc] 30 (0, 0))) := hN3
    have H3 : Hid (OwnTo B W0 (.slice bb us.length cc) z3 v3 (us ++ L)) := OwnTo.behind HZ2.out hop
    obtain ⟨n3, b3, c3, rfl⟩ := own_form1 hop.row
    have hn3 := cells1p hN3
    have fz3 := cfrozen hN3 0
    have hm3 := cells3p hM3
    clear hop e3 hN3 hM3
    (try go_simp)
    refine hK.out _ _ ⟨⟨z3, hm3.1⟩, rfl⟩ ?_
    clear hK K
    refine mix_loud (fuel := 0) (fuel' := 1) (i := 6) rfl (by kernel_rfl) rfl rfl (by rfl) ?_
    intro K hK
    go_simp
    have hm4 := cells3p ((Below.heap_setCell z3 ⟨N, 0, none⟩ (.slice b3 n3 c3) M HNM.out).trans HM3.out)
    refine hK.out _ _ ⟨⟨_, hm4.1⟩, rfl⟩ ?_
    clear hK K hm4 hm3 hn3 fz3
    refine mix_done (by kernel_rfl) ?_
    have H4 : Hid (OwnTo B w0 v0 (z3.setCell ⟨N, 0, none⟩ (.slice b3 n3 c3)) (.slice b3 n3 c3) (us ++ L)) := HEND.out _ _ _ H3.out HN3.out
    have HN4 : Hid ((z3.setCell ⟨N, 0, none⟩ (.slice b3 n3 c3)).heap[N]? = some (.cells #[.slice b3 n3 c3] 30 (0, 0))) := csetCell_block _ HN3.out
    have HM4 : Hid ((z3.setCell ⟨N, 0, none⟩ (.slice b3 n3 c3)).heap[M]? = some (.cells #[.int .i64 x.k, .int .i64 x.n, .string (strB x.s)] 54 (0, 0))) := (Below.heap_setCell z3 ⟨N, 0, none⟩ (.slice b3 n3 c3) M HNM.out).trans HM3.out
    generalize z3.setCell ⟨N, 0, none⟩ (.slice b3 n3 c3) = z4 at H4 HN4 HM4 ⊢
    have cb := pBehPut_any B N M v0 x w0 z4 _ (us ++ L) H4.out HB0.out HN4.out HM4.out HNL.out HSV.out (by have := HBE.out; rw [List.length_append]; exact this)
    clear C0 hn0 hne
    go_wp2_with fail
    refine cb.mono ?_
    clear cb
    rintro e z5 ⟨rfl, bv5, ho5, hn5⟩
    have HR : Hid (OwnTo B w0 v0 z5 bv5 (us ++ L ++ behB x)) := ho5
    obtain ⟨n5, b5, c5, rfl⟩ := own_form1 ho5.row
    have q5 := cells1p hn5
    clear ho5 hn5
    go_wp2
    go_ret
    have h9 := HR.out
    rw [HWV.out.1, HWV.out.2, List.append_assoc] at h9
    exact ⟨_, rfl, h9⟩
  · intro K hK
    go_simp
    refine (C0.out W0.drew).mono ?_
    rintro e z1 ⟨p1, rfl, ho, hb⟩
    obtain ⟨b1, c1, rfl⟩ := own_form0 ho
    have HO1 : Hid (z1.ownsRow (World.heap W0.drew).size 5 1 (.slice b1 L.length c1) L.length (Lib.byteCells L)) := ho
    have HZ1 : Hid (Below W0.heap.size W0 z1) := (Below.refl _ _).drew.trans hb
    have hn1 : z1.cell? ⟨N, 0, none⟩ = some (.slice bb us.length cc) := HCN.out z1 HZ1.out
    clear ho hb
    (try go_simp)
    refine hK.out _ _ ⟨⟨z1, HCF.out z1 HZ1.out⟩, rfl⟩ ?_
    clear hK K
    refine cmix_two (fuel := 3) (fuel' := 4) (i := 0) (k := 4) rfl rfl (by kernel_rfl) rfl rfl rfl (by rfl) (by rfl) ?_ ?_
    · intro K hK
      go_simp
      refine hK.out _ _ ⟨⟨z1, HCF.out z1 HZ1.out⟩, rfl⟩ ?_
      clear hK K
      refine mix_loud (fuel := 2) (fuel' := 3) (i := 4) rfl (by kernel_rfl) rfl rfl (by rfl) ?_
      intro K hK
      go_simp
      obtain ⟨z2, hz2, hb2, -, hg2⟩ := box1 z1 (.cells #[.slice b1 L.length c1] 30)
      rw [← hz2]
      have HZ2 : Hid (Below W0.heap.size W0 z2) := HZ1.out.trans (hb2.mono HZ1.out.size)
      have HG2 : Hid (z2.heap[(World.heap z1).size]? = some (.cells #[.slice b1 L.length c1] 30 (0, 0))) := hg2
      have HO2 : Hid (z2.ownsRow W0.heap.size 5 1 (.slice b1 L.length c1) L.length (Lib.byteCells L)) := own_stay HO1.out hb2
      have hn2 : z2.cell? ⟨N, 0, none⟩ = some (.slice bb us.length cc) := HCN.out z2 HZ2.out
      refine hK.out _ _ ⟨⟨z2, HCF.out z2 HZ2.out⟩, rfl⟩ ?_
      clear hK K hz2 hb2 hg2
      refine mix_loud (fuel := 1) (fuel' := 2) (i := 5) rfl (by kernel_rfl) rfl rfl (by rfl) ?_
      intro K hK
      have cp := pPutOwn_any B (.slice bb us.length cc) us (World.heap z1).size 1 [(.slice b1 L.length c1, L)] W0 z2 HOWN.out HBW.out HZ2.out HG2.out (fun p hp => by
        obtain rfl : p = (.slice b1 L.length c1, L) := by simpa using hp
        exact HO2.out) (by simp) (by have := HBb.out; simp [flatP]; omega)
      go_simp
      refine cp.mono ?_
      clear cp
      rintro e z3 ⟨v3, rfl, hop⟩
      have e3 : us ++ flatP [(Value.slice b1 L.length c1, L)] = us ++ L := by simp [flatP]
      rw [e3] at hop
      have hN3 := hop.other (own_stay HOWN.out HZ2.out) ((HZ2.out.block _ (heap_lt HN.out)).trans HN.out) (by decide)
      have hM3 := hop.other (own_stay HOWN.out HZ2.out) ((HZ2.out.block _ (heap_lt HM.out)).trans HM.out) (by decide)
      have HM3 : Hid (z3.heap[M]? = some (.cells #[.int .i64 x.k, .int .i64 x.n, .string (strB x.s)] 54 (0, 0))) := hM3
      have HN3 : Hid (z3.heap[N]? = some (.cells #[.slice bb us.length cc] 30 (0, 0))) := hN3
      have H3 : Hid (OwnTo B W0 (.slice bb us.length cc) z3 v3 (us ++ L)) := OwnTo.behind HZ2.out hop
      obtain ⟨n3, b3, c3, rfl⟩ := own_form1 hop.row
      have hn3 := cells1p hN3
      have fz3 := cfrozen hN3 0
      have hm3 := cells3p hM3
      clear hop e3 hN3 hM3
      (try go_simp)
      refine hK.out _ _ ⟨⟨z3, hm3.1⟩, rfl⟩ ?_
      clear hK K
      refine mix_loud (fuel := 0) (fuel' := 1) (i := 6) rfl (by kernel_rfl) rfl rfl (by rfl) ?_
      intro K hK
      go_simp
      have hm4 := cells3p ((Below.heap_setCell z3 ⟨N, 0, none⟩ (.slice b3 n3 c3) M HNM.out).trans HM3.out)
      refine hK.out _ _ ⟨⟨_, hm4.1⟩, rfl⟩ ?_
      clear hK K hm4 hm3 hn3 fz3
      refine mix_done (by kernel_rfl) ?_
      have H4 : Hid (OwnTo B w0 v0 (z3.setCell ⟨N, 0, none⟩ (.slice b3 n3 c3)) (.slice b3 n3 c3) (us ++ L)) := HEND.out _ _ _ H3.out HN3.out
      have HN4 : Hid ((z3.setCell ⟨N, 0, none⟩ (.slice b3 n3 c3)).heap[N]? = some (.cells #[.slice b3 n3 c3] 30 (0, 0))) := csetCell_block _ HN3.out
      have HM4 : Hid ((z3.setCell ⟨N, 0, none⟩ (.slice b3 n3 c3)).heap[M]? = some (.cells #[.int .i64 x.k, .int .i64 x.n, .string (strB x.s)] 54 (0, 0))) := (Below.heap_setCell z3 ⟨N, 0, none⟩ (.slice b3 n3 c3) M HNM.out).trans HM3.out
      generalize z3.setCell ⟨N, 0, none⟩ (.slice b3 n3 c3) = z4 at H4 HN4 HM4 ⊢
      have cb := pBehPut_any B N M v0 x w0 z4 _ (us ++ L) H4.out HB0.out HN4.out HM4.out HNL.out HSV.out (by have := HBE.out; rw [List.length_append]; exact this)
      clear C0 hn0 hne
      go_wp2_with fail
      refine cb.mono ?_
      clear cb
      rintro e z5 ⟨rfl, bv5, ho5, hn5⟩
      have HR : Hid (OwnTo B w0 v0 z5 bv5 (us ++ L ++ behB x)) := ho5
      obtain ⟨n5, b5, c5, rfl⟩ := own_form1 ho5.row
      have q5 := cells1p hn5
      clear ho5 hn5
      go_wp2
      go_ret
      have h9 := HR.out
      rw [HWV.out.1, HWV.out.2, List.append_assoc] at h9
      exact ⟨_, rfl, h9⟩
    · intro K hK
      go_simp
      obtain ⟨z2, hz2, hb2, -, hg2⟩ := box1 z1 (.cells #[.slice b1 L.length c1] 30)
      rw [← hz2]
      have HZ2 : Hid (Below W0.heap.size W0 z2) := HZ1.out.trans (hb2.mono HZ1.out.size)
      have HG2 : Hid (z2.heap[(World.heap z1).size]? = some (.cells #[.slice b1 L.length c1] 30 (0, 0))) := hg2
      have HO2 : Hid (z2.ownsRow W0.heap.size 5 1 (.slice b1 L.length c1) L.length (Lib.byteCells L)) := own_stay HO1.out hb2
      have hn2 : z2.cell? ⟨N, 0, none⟩ = some (.slice bb us.length cc) := HCN.out z2 HZ2.out
      refine hK.out _ _ ⟨⟨z2, HCF.out z2 HZ2.out⟩, rfl⟩ ?_
      clear hK K hz2 hb2 hg2
      refine mix_loud (fuel := 2) (fuel' := 3) (i := 0) rfl (by kernel_rfl) rfl rfl (by rfl) ?_
      intro K hK
      go_simp
      refine hK.out _ _ ⟨⟨z2, HCF.out z2 HZ2.out⟩, rfl⟩ ?_
      clear hK K
      refine mix_loud (fuel := 1) (fuel' := 2) (i := 5) rfl (by kernel_rfl) rfl rfl (by rfl) ?_
      intro K hK
      have cp := pPutOwn_any B (.slice bb us.length cc) us (World.heap z1).size 1 [(.slice b1 L.length c1, L)] W0 z2 HOWN.out HBW.out HZ2.out HG2.out (fun p hp => by
        obtain rfl : p = (.slice b1 L.length c1, L) := by simpa using hp
        exact HO2.out) (by simp) (by have := HBb.out; simp [flatP]; omega)
      go_simp
      refine cp.mono ?_
      clear cp
      rintro e z3 ⟨v3, rfl, hop⟩
      have e3 : us ++ flatP [(Value.slice b1 L.length c1, L)] = us ++ L := by simp [flatP]
      rw [e3] at hop
      have hN3 := hop.other (own_stay HOWN.out HZ2.out) ((HZ2.out.block _ (heap_lt HN.out)).trans HN.out) (by decide)
      have hM3 := hop.other (own_stay HOWN.out HZ2.out) ((HZ2.out.block _ (heap_lt HM.out)).trans HM.out) (by decide)
      have HM3 : Hid (z3.heap[M]? = some (.cells #[.int .i64 x.k, .int .i64 x.n, .string (strB x.s)] 54 (0, 0))) := hM3
      have HN3 : Hid (z3.heap[N]? = some (.cells #[.slice bb us.length cc] 30 (0, 0))) := hN3
      have H3 : Hid (OwnTo B W0 (.slice bb us.length cc) z3 v3 (us ++ L)) := OwnTo.behind HZ2.out hop
      obtain ⟨n3, b3, c3, rfl⟩ := own_form1 hop.row
      have hn3 := cells1p hN3
      have fz3 := cfrozen hN3 0
      have hm3 := cells3p hM3
      clear hop e3 hN3 hM3
      (try go_simp)
      refine hK.out _ _ ⟨⟨z3, hm3.1⟩, rfl⟩ ?_
      clear hK K
      refine mix_loud (fuel := 0) (fuel' := 1) (i := 6) rfl (by kernel_rfl) rfl rfl (by rfl) ?_
      intro K hK
      go_simp
      have hm4 := cells3p ((Below.heap_setCell z3 ⟨N, 0, none⟩ (.slice b3 n3 c3) M HNM.out).trans HM3.out)
      refine hK.out _ _ ⟨⟨_, hm4.1⟩, rfl⟩ ?_
      clear hK K hm4 hm3 hn3 fz3
      refine mix_done (by kernel_rfl) ?_
      have H4 : Hid (OwnTo B w0 v0 (z3.setCell ⟨N, 0, none⟩ (.slice b3 n3 c3)) (.slice b3 n3 c3) (us ++ L)) := HEND.out _ _ _ H3.out HN3.out
      have HN4 : Hid ((z3.setCell ⟨N, 0, none⟩ (.slice b3 n3 c3)).heap[N]? = some (.cells #[.slice b3 n3 c3] 30 (0, 0))) := csetCell_block _ HN3.out
      have HM4 : Hid ((z3.setCell ⟨N, 0, none⟩ (.slice b3 n3 c3)).heap[M]? = some (.cells #[.int .i64 x.k, .int .i64 x.n, .string (strB x.s)] 54 (0, 0))) := (Below.heap_setCell z3 ⟨N, 0, none⟩ (.slice b3 n3 c3) M HNM.out).trans HM3.out
      generalize z3.setCell ⟨N, 0, none⟩ (.slice b3 n3 c3) = z4 at H4 HN4 HM4 ⊢
      have cb := pBehPut_any B N M v0 x w0 z4 _ (us ++ L) H4.out HB0.out HN4.out HM4.out HNL.out HSV.out (by have := HBE.out; rw [List.length_append]; exact this)
      clear C0 hn0 hne
      go_wp2_with fail
      refine cb.mono ?_
      clear cb
      rintro e z5 ⟨rfl, bv5, ho5, hn5⟩
      have HR : Hid (OwnTo B w0 v0 z5 bv5 (us ++ L ++ behB x)) := ho5
      obtain ⟨n5, b5, c5, rfl⟩ := own_form1 ho5.row
      have q5 := cells1p hn5
      clear ho5 hn5
      go_wp2
      go_ret
      have h9 := HR.out
      rw [HWV.out.1, HWV.out.2, List.append_assoc] at h9
      exact ⟨_, rfl, h9⟩

end Go.Proofs.YtbdgniiafdjmiaaGreatDoor
/- snap: a call, put behind bytes of one's own. -/
namespace Go.Proofs.YtbdgniiafdjmiaaGreatDoor
open Go.RowKit Go.Shelf

set_option maxRecDepth 100000 in
set_option maxHeartbeats 8000000 in
theorem pPutCall_any (B : Nat) (v : Value) (us : List UInt8) (x : Cal) (bi : Option Addr) (ni ci : Nat) (bv : Option Addr) (nv cv : Nat) (w : World) (hown : w.ownsRow B 5 1 v us.length (Lib.byteCells us)) (hB : B ≤ w.heap.size) (S : Nat → Prop) (hii : valsR S w (.slice bi ni ci) x.slots) (hvv : valsR S w (.slice bv nv cv) x.stack) (hSB : ∀ q, S q → q < B) (hi64 : ∀ y ∈ x.slots, smallV y ∧ I64 y.k) (hv64 : ∀ y ∈ x.stack, smallV y ∧ I64 y.k) (j0 : -9223372036854775808 ≤ x.unit ∧ x.unit ≤ 9223372036854775807) (j1 : -9223372036854775808 ≤ x.at0 ∧ x.at0 ≤ 9223372036854775807) (j2 : -9223372036854775808 ≤ x.mark ∧ x.mark ≤ 9223372036854775807) (hb : us.length + (calB x).length ≤ 140737488355328) :
    Calls Tryz.prog 23 #[v, calV x (.slice bi ni ci) (.slice bv nv cv)] w fun e w' => ∃ v', e = .returned v' ∧ OwnTo B w v w' v' (us ++ calB x) := by
  obtain ⟨w1, hw1, hb1, HZ1, h1⟩ := box1 w (.cells #[.int .i64 x.unit, .int .i64 x.at0, .int .i64 x.mark, .slice bi ni ci, .slice bv nv cv] 49)
  have HW1 : Hid (w1 = w.alloc (.cells #[.int .i64 x.unit, .int .i64 x.at0, .int .i64 x.mark, .slice bi ni ci, .slice bv nv cv] 49)) := hw1
  have HB1 : Hid (Below w.heap.size w w1) := hb1
  have HBX : Hid (w1.heap[w.heap.size]? = some (.cells #[.int .i64 x.unit, .int .i64 x.at0, .int .i64 x.mark, .slice bi ni ci, .slice bv nv cv] 49 (0, 0))) := h1
  have HLT : Hid (w.heap.size < w1.heap.size) := by have := HZ1.out; show _ < _; omega
  have HOWN : Hid (w.ownsRow B 5 1 v us.length (Lib.byteCells us)) := hown
  obtain ⟨R, hR⟩ : ∃ R, R = calB x := ⟨_, rfl⟩
  rw [← hR] at hb ⊢
  have HRB : Hid (R = calB x) := hR
  have HBb : Hid (us.length + R.length ≤ 140737488355328) := hb
  have HCF : Hid (∀ W, Below w1.heap.size w1 W → W.cell? ⟨w.heap.size, 0, none⟩ = some (.int .i64 x.unit) ∧ W.cell? ⟨w.heap.size, 1, none⟩ = some (.int .i64 x.at0) ∧ W.cell? ⟨w.heap.size, 2, none⟩ = some (.int .i64 x.mark)) := fun W hW => by
    obtain ⟨f0, f1, f2, -, -⟩ := cells5p ((hW.block _ HLT.out).trans HBX.out)
    exact ⟨f0, f1, f2⟩
  haveI hne : Nonempty (ClsP (fun W => W.cell? ⟨w.heap.size, 0, none⟩ = some (.int .i64 x.unit) ∧ W.cell? ⟨w.heap.size, 1, none⟩ = some (.int .i64 x.at0) ∧ W.cell? ⟨w.heap.size, 2, none⟩ = some (.int .i64 x.mark))) := ⟨⟨w1, HCF.out w1 (Below.refl _ _)⟩⟩
  have X0 : ∀ c : ClsP (fun W => W.cell? ⟨w.heap.size, 0, none⟩ = some (.int .i64 x.unit) ∧ W.cell? ⟨w.heap.size, 1, none⟩ = some (.int .i64 x.at0) ∧ W.cell? ⟨w.heap.size, 2, none⟩ = some (.int .i64 x.mark)), c.1.cell? ⟨w.heap.size, 0, none⟩ = some (.int .i64 x.unit) := fun c => c.2.1
  have X1 : ∀ c : ClsP (fun W => W.cell? ⟨w.heap.size, 0, none⟩ = some (.int .i64 x.unit) ∧ W.cell? ⟨w.heap.size, 1, none⟩ = some (.int .i64 x.at0) ∧ W.cell? ⟨w.heap.size, 2, none⟩ = some (.int .i64 x.mark)), c.1.cell? ⟨w.heap.size, 1, none⟩ = some (.int .i64 x.at0) := fun c => c.2.2.1
  have X2 : ∀ c : ClsP (fun W => W.cell? ⟨w.heap.size, 0, none⟩ = some (.int .i64 x.unit) ∧ W.cell? ⟨w.heap.size, 1, none⟩ = some (.int .i64 x.at0) ∧ W.cell? ⟨w.heap.size, 2, none⟩ = some (.int .i64 x.mark)), c.1.cell? ⟨w.heap.size, 2, none⟩ = some (.int .i64 x.mark) := fun c => c.2.2.2
  have C0 : Hid (∀ W, Calls Tryz.prog 18 #[.int .i64 x.unit] W fun e w' => ∃ v, e = .returned v ∧ w'.ownsRow W.heap.size 5 1 v (numB x.unit).length (Lib.byteCells (numB x.unit)) ∧ Below W.heap.size W w') := fun W => pNumber_any x.unit j0.1 j0.2 W
  have C1 : Hid (∀ W, Calls Tryz.prog 18 #[.int .i64 x.at0] W fun e w' => ∃ v, e = .returned v ∧ w'.ownsRow W.heap.size 5 1 v (numB x.at0).length (Lib.byteCells (numB x.at0)) ∧ Below W.heap.size W w') := fun W => pNumber_any x.at0 j1.1 j1.2 W
  have C2 : Hid (∀ W, Calls Tryz.prog 18 #[.int .i64 x.mark] W fun e w' => ∃ v, e = .returned v ∧ w'.ownsRow W.heap.size 5 1 v (numB x.mark).length (Lib.byteCells (numB x.mark)) ∧ Below W.heap.size W w') := fun W => pNumber_any x.mark j2.1 j2.2 W
  obtain ⟨L0, hL0⟩ : ∃ L, L = numB x.unit := ⟨_, rfl⟩
  rw [← hL0] at C0
  obtain ⟨L1, hL1⟩ : ∃ L, L = numB x.at0 := ⟨_, rfl⟩
  rw [← hL1] at C1
  obtain ⟨L2, hL2⟩ : ∃ L, L = numB x.mark := ⟨_, rfl⟩
  rw [← hL2] at C2
  have HLS : Hid (L0 = numB x.unit ∧ L1 = numB x.at0 ∧ L2 = numB x.mark) := ⟨hL0, hL1, hL2⟩
  obtain ⟨bb, cc, rfl⟩ := own_form0 hown
  clear hw1 hb1 h1 hown hb hR hL0 hL1 hL2 j0 j1 j2
  have HII : Hid (valsR S w (.slice bi ni ci) x.slots) := hii
  have HVV : Hid (valsR S w (.slice bv nv cv) x.stack) := hvv
  have HSB : Hid (∀ q, S q → q < B) := hSB
  have HI64 : Hid (∀ y ∈ x.slots, smallV y ∧ I64 y.k) := hi64
  have HV64 : Hid (∀ y ∈ x.stack, smallV y ∧ I64 y.k) := hv64
  clear hii hvv hSB hi64 hv64
  go_enter Tryz.func23, Tryz.ntmps23
  go_upto_region 1 with fail
  rw [← HW1.out]
  refine mix_begin (n := 13) (S := fun w' => ∃ c : ClsP (fun W => W.cell? ⟨w.heap.size, 0, none⟩ = some (.int .i64 x.unit) ∧ W.cell? ⟨w.heap.size, 1, none⟩ = some (.int .i64 x.at0) ∧ W.cell? ⟨w.heap.size, 2, none⟩ = some (.int .i64 x.mark)), w' = c.1) (by kernel_rfl) rfl rfl ?_
  refine mix_seg (fuel := 6) (fuel' := 13) (idx := [0, 1, 2, 4, 5, 7, 8]) (by kernel_rfl) rfl rfl rfl (fun _ _ _ _ _ h => h) ⟨⟨w1.drew, HCF.out w1.drew (Below.refl _ _).drew⟩, rfl⟩ ?_
  show wpQuiet _ _ _ _ [_, _, _, _, _, _, _] _
  iterate 7 (go_big_quiet_step (fail))
  refine wpQuiet_nil ?_
  have HV0 : Hid (Below w1.heap.size w1 w1.drew) := (Below.refl _ _).drew
  clear X0 X1 X2
  refine mix_loud (fuel := 5) (fuel' := 6) (i := 3) rfl (by kernel_rfl) rfl rfl (by rfl) ?_
  intro K hK
  go_simp
  refine (C0.out w1.drew).mono ?_
  rintro e z0 ⟨p0, rfl, ho, hb⟩
  obtain ⟨b0, c0, rfl⟩ := own_form0 ho
  have HO0 : Hid (z0.ownsRow (World.heap w1.drew).size 5 1 (.slice b0 L0.length c0) L0.length (Lib.byteCells L0)) := ho
  have HZB0 : Hid (Below (World.heap w1.drew).size w1.drew z0) := hb
  have HV1 : Hid (Below w1.heap.size w1 z0) := HV0.out.trans (hb.mono HV0.out.size)
  clear ho hb
  (try go_simp)
  refine hK.out _ _ ⟨⟨z0, HCF.out z0 HV1.out⟩, rfl⟩ ?_
  clear hK K
  refine mix_loud (fuel := 4) (fuel' := 5) (i := 6) rfl (by kernel_rfl) rfl rfl (by rfl) ?_
  intro K hK
  go_simp
  refine (C1.out z0).mono ?_
  rintro e z1 ⟨p1, rfl, ho, hb⟩
  obtain ⟨b1, c1, rfl⟩ := own_form0 ho
  have HO1 : Hid (z1.ownsRow (World.heap z0).size 5 1 (.slice b1 L1.length c1) L1.length (Lib.byteCells L1)) := ho
  have HZB1 : Hid (Below (World.heap z0).size z0 z1) := hb
  have HV2 : Hid (Below w1.heap.size w1 z1) := HV1.out.trans (hb.mono HV1.out.size)
  clear ho hb
  (try go_simp)
  refine hK.out _ _ ⟨⟨z1, HCF.out z1 HV2.out⟩, rfl⟩ ?_
  clear hK K
  refine mix_loud (fuel := 3) (fuel' := 4) (i := 9) rfl (by kernel_rfl) rfl rfl (by rfl) ?_
  intro K hK
  go_simp
  refine (C2.out z1).mono ?_
  rintro e z2 ⟨p2, rfl, ho, hb⟩
  obtain ⟨b2, c2, rfl⟩ := own_form0 ho
  have HO2 : Hid (z2.ownsRow (World.heap z1).size 5 1 (.slice b2 L2.length c2) L2.length (Lib.byteCells L2)) := ho
  have HZB2 : Hid (Below (World.heap z1).size z1 z2) := hb
  have HV3 : Hid (Below w1.heap.size w1 z2) := HV2.out.trans (hb.mono HV2.out.size)
  clear ho hb
  (try go_simp)
  refine hK.out _ _ ⟨⟨z2, HCF.out z2 HV3.out⟩, rfl⟩ ?_
  clear hK K
  refine mix_loud (fuel := 2) (fuel' := 3) (i := 10) rfl (by kernel_rfl) rfl rfl (by rfl) ?_
  intro K hK
  go_simp
  obtain ⟨zb, hzb, hbb, -, hgb⟩ := box1 z2 (.cells #[.slice b0 L0.length c0, .slice b1 L1.length c1, .slice b2 L2.length c2] 30)
  rw [← hzb]
  have HVb : Hid (Below w1.heap.size w1 zb) := HV3.out.trans (hbb.mono HV3.out.size)
  have HGB : Hid (zb.heap[(World.heap z2).size]? = some (.cells #[.slice b0 L0.length c0, .slice b1 L1.length c1, .slice b2 L2.length c2] 30 (0, 0))) := hgb
  have HBBB : Hid (Below (World.heap z2).size z2 zb) := hbb
  refine hK.out _ _ ⟨⟨zb, HCF.out zb HVb.out⟩, rfl⟩ ?_
  clear hK K hzb hbb hgb
  have q0 : zb.ownsRow w.heap.size 5 1 (.slice b0 L0.length c0) L0.length (Lib.byteCells L0) := own_base (own_stay (own_stay (own_stay HO0.out HZB1.out) HZB2.out) HBBB.out) (Nat.le_trans HB1.out.size HV0.out.size)
  have q1 : zb.ownsRow w.heap.size 5 1 (.slice b1 L1.length c1) L1.length (Lib.byteCells L1) := own_base (own_stay (own_stay HO1.out HZB2.out) HBBB.out) (Nat.le_trans HB1.out.size HV1.out.size)
  have q2 : zb.ownsRow w.heap.size 5 1 (.slice b2 L2.length c2) L2.length (Lib.byteCells L2) := own_base (own_stay HO2.out HBBB.out) (Nat.le_trans HB1.out.size HV2.out.size)
  have cp := pPutOwn_any B (.slice bb us.length cc) us (World.heap z2).size 3 [(.slice b0 L0.length c0, L0), (.slice b1 L1.length c1, L1), (.slice b2 L2.length c2, L2)] w zb HOWN.out hB (HB1.out.trans (HVb.out.mono HB1.out.size)) HGB.out (fun p hp => by
    simp only [List.mem_cons, List.not_mem_nil, or_false] at hp
    rcases hp with rfl | rfl | rfl
    · exact q0
    · exact q1
    · exact q2) (by simp) (by
    have h2 := HBb.out
    rw [HRB.out] at h2
    obtain ⟨e0, e1, e2⟩ := HLS.out
    simp only [calB, ← e0, ← e1, ← e2, List.length_append] at h2
    simp only [flatP, List.map_cons, List.map_nil, List.flatten_cons, List.flatten_nil, List.append_nil, List.length_append]
    omega)
  clear q0 q1 q2
  refine mix_loud (fuel := 1) (fuel' := 2) (i := 11) rfl (by kernel_rfl) rfl rfl (by rfl) ?_
  intro K hK
  go_simp
  refine cp.mono ?_
  clear cp
  rintro e zp ⟨vp, rfl, hop⟩
  have HOP : Hid (OwnTo B w (.slice bb us.length cc) zp vp (us ++ flatP [(.slice b0 L0.length c0, L0), (.slice b1 L1.length c1, L1), (.slice b2 L2.length c2, L2)])) := OwnTo.behind (HB1.out.trans (HVb.out.mono HB1.out.size)) hop
  have hboxp : zp.heap[w.heap.size]? = some (.cells #[.int .i64 x.unit, .int .i64 x.at0, .int .i64 x.mark, .slice bi ni ci, .slice bv nv cv] 49 (0, 0)) := hop.other (own_stay HOWN.out (HB1.out.trans (HVb.out.mono HB1.out.size))) ((HVb.out.block _ HLT.out).trans HBX.out) (by decide)
  have HBXP : Hid (zp.heap[w.heap.size]? = some (.cells #[.int .i64 x.unit, .int .i64 x.at0, .int .i64 x.mark, .slice bi ni ci, .slice bv nv cv] 49 (0, 0))) := hboxp
  obtain ⟨f0, f1, f2, -, -⟩ := cells5p hboxp
  (try go_simp)
  refine hK.out _ _ ⟨⟨zp, f0, f1, f2⟩, rfl⟩ ?_
  clear hK K hop hboxp f0 f1 f2
  refine mix_seg (fuel := 0) (fuel' := 1) (idx := [12]) (by kernel_rfl) rfl rfl rfl (fun _ _ _ _ _ h => h) ⟨⟨zp, by obtain ⟨f0, f1, f2, -, -⟩ := cells5p HBXP.out; exact ⟨f0, f1, f2⟩⟩, rfl⟩ ?_
  show wpQuiet _ _ _ _ [_] _
  iterate 1 (go_big_quiet_step (fail))
  refine wpQuiet_nil ?_
  refine mix_done (by kernel_rfl) ?_
  obtain ⟨np, bp, cp, rfl⟩ := own_form1 HOP.out.row
  obtain ⟨U1, hU1⟩ : ∃ U, U = us ++ flatP [(.slice b0 L0.length c0, L0), (.slice b1 L1.length c1, L1), (.slice b2 L2.length c2, L2)] := ⟨_, rfl⟩
  rw [← hU1] at HOP
  have HU1 : Hid (R = (L0 ++ (L1 ++ L2)) ++ (allB vlB x.slots ++ allB vlB x.stack) ∧ U1 = us ++ (L0 ++ (L1 ++ L2))) := by
    have h8 := HRB.out
    obtain ⟨e0, e1, e2⟩ := HLS.out
    refine ⟨?_, ?_⟩
    · rw [h8, e0, e1, e2]
      simp only [calB, List.append_assoc]
    · rw [hU1]
      simp only [flatP, List.map_cons, List.map_nil, List.flatten_cons, List.flatten_nil, List.append_nil]
  have HSZ : Hid (U1.length + (allB vlB x.slots).length + (allB vlB x.stack).length ≤ 140737488355328) := by
    have h1 := HBb.out
    rw [HU1.out.1] at h1
    show _ ≤ _
    rw [HU1.out.2]
    simp only [List.length_append] at h1 ⊢
    omega
  have hlow := HOP.out.low HOWN.out hB
  have ca := pAllVal_any B (.slice bp np cp) U1 S x.slots (.slice bi ni ci) vlB zp HOP.out.row (Nat.le_trans hB HOP.out.grown.size) (rowIn.kept HII.out (valE_keeps S) hlow.size fun q hq _ => hlow.block q (HSB.out q hq)) HSB.out (fun i hi W v0 us0 r1 r2 _ r4 => pPutVal_any B v0 us0 x.slots[i] W r1 r2 (HI64.out _ (List.getElem_mem hi)) r4) (by have := HSZ.out; omega)
  obtain ⟨-, -, -, a3, a4⟩ := cells5p HBXP.out
  clear hU1 hlow
  go_wp2_with fail
  refine ca.mono ?_
  clear ca a3 a4
  rintro e z8 ⟨v8, rfl, h8⟩
  have HBX8 : Hid (z8.heap[w.heap.size]? = some (.cells #[.int .i64 x.unit, .int .i64 x.at0, .int .i64 x.mark, .slice bi ni ci, .slice bv nv cv] 49 (0, 0))) := h8.other HOP.out.row HBXP.out (by decide)
  have H8 : Hid (OwnTo B w (.slice bb us.length cc) z8 v8 (U1 ++ allB vlB x.slots)) := HOP.out.trans h8
  obtain ⟨n8, b8, c8, rfl⟩ := own_form1 h8.row
  have hlow := H8.out.low HOWN.out hB
  have cv9 := pAllVal_any B (.slice b8 n8 c8) (U1 ++ allB vlB x.slots) S x.stack (.slice bv nv cv) vlB z8 H8.out.row (Nat.le_trans hB H8.out.grown.size) (rowIn.kept HVV.out (valE_keeps S) hlow.size fun q hq _ => hlow.block q (HSB.out q hq)) HSB.out (fun i hi W v0 us0 r1 r2 _ r4 => pPutVal_any B v0 us0 x.stack[i] W r1 r2 (HV64.out _ (List.getElem_mem hi)) r4) (by have := HSZ.out; rw [List.length_append]; omega)
  obtain ⟨-, -, -, a3, a4⟩ := cells5p HBX8.out
  clear h8 hlow
  go_wp2_with fail
  refine cv9.mono ?_
  clear cv9 a3 a4
  rintro e z9 ⟨v9, rfl, h9⟩
  have H9 : Hid (OwnTo B w (.slice bb us.length cc) z9 v9 (us ++ R)) := by
    have h1 := H8.out.trans h9
    rw [HU1.out.2] at h1
    rw [HU1.out.1]
    simp only [List.append_assoc] at h1 ⊢
    exact h1
  clear h9
  go_wp2
  go_ret
  exact ⟨_, rfl, H9.out⟩
end Go.Proofs.YtbdgniiafdjmiaaGreatDoor
/- snap: an object, put behind bytes of one's own. -/
namespace Go.Proofs.YtbdgniiafdjmiaaGreatDoor
open Go.RowKit Go.Shelf

set_option maxRecDepth 100000 in
set_option maxHeartbeats 8000000 in
theorem pPutObj_any (B : Nat) (v : Value) (us : List UInt8) (S : Nat → Prop) (x : Ob) (bf : Option Addr) (nf cf : Nat) (w : World) (hown : w.ownsRow B 5 1 v us.length (Lib.byteCells us)) (hB : B ≤ w.heap.size) (hin : valsR S w (.slice bf nf cf) x.2) (hSB : ∀ q, S q → q < B) (hn : x.1.length ≤ 1048576) (hf : ∀ f ∈ x.2, smallV f ∧ I64 f.k) (hb : us.length + (objB x).length ≤ 140737488355328) :
    Calls Tryz.prog 25 #[v, obV x (.slice bf nf cf)] w fun e w' => ∃ v', e = .returned v' ∧ OwnTo B w v w' v' (us ++ objB x) := by
  obtain ⟨w1, hw1, hb1, HZ1, h1⟩ := box1 w (.cells #[.string (strB x.1), .slice bf nf cf] 51)
  have HW1 : Hid (w1 = w.alloc (.cells #[.string (strB x.1), .slice bf nf cf] 51)) := hw1
  have HB1 : Hid (Below w.heap.size w w1) := hb1
  have HBX : Hid (w1.heap[w.heap.size]? = some (.cells #[.string (strB x.1), .slice bf nf cf] 51 (0, 0))) := h1
  have HLT : Hid (w.heap.size < w1.heap.size) := by have := HZ1.out; show _ < _; omega
  have HOWN : Hid (w.ownsRow B 5 1 v us.length (Lib.byteCells us)) := hown
  have HIN : Hid (valsR S w (.slice bf nf cf) x.2) := hin
  have HSB : Hid (∀ q, S q → q < B) := hSB
  have HFL : Hid (∀ f ∈ x.2, smallV f ∧ I64 f.k) := hf
  have C0 : Hid (∀ W, Calls Tryz.prog 21 #[.string (strB x.1)] W fun e w' => ∃ v, e = .returned v ∧ w'.ownsRow W.heap.size 5 1 v (txB x.1).length (Lib.byteCells (txB x.1)) ∧ Below W.heap.size W w') := fun W => pText_any x.1 hn W
  obtain ⟨L, hL⟩ : ∃ L, L = txB x.1 := ⟨_, rfl⟩
  rw [← hL] at C0
  have HRB : Hid (objB x = L ++ allB vlB x.2) := by rw [hL]; exact rfl
  obtain ⟨R, hR⟩ : ∃ R, R = objB x := ⟨_, rfl⟩
  rw [← hR] at hb HRB ⊢
  have HBb : Hid (us.length + R.length ≤ 140737488355328) := hb
  obtain ⟨bb, cc, rfl⟩ := own_form0 hown
  have HCF : Hid (∀ W, Below w1.heap.size w1 W → W.cell? ⟨w.heap.size, 0, none⟩ = some (.string (strB x.1)) ∧ W.cell? ⟨w.heap.size, 1, none⟩ = some (.slice bf nf cf)) := fun W hW => bcells2 ((hW.block _ HLT.out).trans HBX.out)
  haveI hne : Nonempty (ClsP (fun W => W.cell? ⟨w.heap.size, 0, none⟩ = some (.string (strB x.1)) ∧ W.cell? ⟨w.heap.size, 1, none⟩ = some (.slice bf nf cf))) := ⟨⟨w1, HCF.out w1 (Below.refl _ _)⟩⟩
  have X0 : ∀ c : ClsP (fun W => W.cell? ⟨w.heap.size, 0, none⟩ = some (.string (strB x.1)) ∧ W.cell? ⟨w.heap.size, 1, none⟩ = some (.slice bf nf cf)), c.1.cell? ⟨w.heap.size, 0, none⟩ = some (.string (strB x.1)) := fun c => c.2.1
  have X1 : ∀ c : ClsP (fun W => W.cell? ⟨w.heap.size, 0, none⟩ = some (.string (strB x.1)) ∧ W.cell? ⟨w.heap.size, 1, none⟩ = some (.slice bf nf cf)), c.1.cell? ⟨w.heap.size, 1, none⟩ = some (.slice bf nf cf) := fun c => c.2.2
  clear hw1 hb1 h1 hown hin hSB hf hn hb hL hR
  go_enter Tryz.func25, Tryz.ntmps25
  go_upto_region 1 with fail
  rw [← HW1.out]
  refine mix_begin (n := 10) (S := fun w' => ∃ c : ClsP (fun W => W.cell? ⟨w.heap.size, 0, none⟩ = some (.string (strB x.1)) ∧ W.cell? ⟨w.heap.size, 1, none⟩ = some (.slice bf nf cf)), w' = c.1) (by kernel_rfl) rfl rfl ?_
  refine mix_seg (fuel := 5) (fuel' := 10) (idx := [0, 1, 2, 6, 7]) (by kernel_rfl) rfl rfl rfl (fun _ _ _ _ _ h => h) ⟨⟨w1.drew, HCF.out w1.drew (Below.refl _ _).drew⟩, rfl⟩ ?_
  show wpQuiet _ _ _ _ [_, _, _, _, _] _
  iterate 5 (go_big_quiet_step (fail))
  refine wpQuiet_nil ?_
  have HV0 : Hid (Below w1.heap.size w1 w1.drew) := (Below.refl _ _).drew
  clear X0 X1
  refine mix_loud (fuel := 4) (fuel' := 5) (i := 3) rfl (by kernel_rfl) rfl rfl (by rfl) ?_
  intro K hK
  go_simp
  refine (C0.out w1.drew).mono ?_
  rintro e z0 ⟨p0, rfl, ho, hb⟩
  obtain ⟨b0, c0, rfl⟩ := own_form0 ho
  have HO0 : Hid (z0.ownsRow (World.heap w1.drew).size 5 1 (.slice b0 L.length c0) L.length (Lib.byteCells L)) := ho
  have HV1 : Hid (Below w1.heap.size w1 z0) := HV0.out.trans (hb.mono HV0.out.size)
  clear ho hb
  (try go_simp)
  refine hK.out _ _ ⟨⟨z0, HCF.out z0 HV1.out⟩, rfl⟩ ?_
  clear hK K
  refine mix_loud (fuel := 3) (fuel' := 4) (i := 4) rfl (by kernel_rfl) rfl rfl (by rfl) ?_
  intro K hK
  go_simp
  obtain ⟨zb, hzb, hbb, -, hgb⟩ := box1 z0 (.cells #[.slice b0 L.length c0] 30)
  rw [← hzb]
  have HVb : Hid (Below w1.heap.size w1 zb) := HV1.out.trans (hbb.mono HV1.out.size)
  have HGB : Hid (zb.heap[(World.heap z0).size]? = some (.cells #[.slice b0 L.length c0] 30 (0, 0))) := hgb
  have HBBB : Hid (Below (World.heap z0).size z0 zb) := hbb
  refine hK.out _ _ ⟨⟨zb, HCF.out zb HVb.out⟩, rfl⟩ ?_
  clear hK K hzb hbb hgb
  have HBwb : Hid (Below w.heap.size w zb) := HB1.out.trans (HVb.out.mono HB1.out.size)
  have q0 : zb.ownsRow w.heap.size 5 1 (.slice b0 L.length c0) L.length (Lib.byteCells L) := own_base (own_stay HO0.out HBBB.out) (Nat.le_trans HB1.out.size HV0.out.size)
  have cp := pPutOwn_any B (.slice bb us.length cc) us (World.heap z0).size 1 [(.slice b0 L.length c0, L)] w zb HOWN.out hB HBwb.out HGB.out (fun p hp => by
    obtain rfl : p = (.slice b0 L.length c0, L) := by simpa using hp
    exact q0) (by simp) (by have h1 := HBb.out; rw [HRB.out, List.length_append] at h1; simp [flatP]; omega)
  clear q0
  refine mix_loud (fuel := 2) (fuel' := 3) (i := 5) rfl (by kernel_rfl) rfl rfl (by rfl) ?_
  intro K hK
  go_simp
  refine cp.mono ?_
  clear cp
  rintro e zp ⟨vp, rfl, hop⟩
  have e9 : us ++ flatP [(Value.slice b0 L.length c0, L)] = us ++ L := by simp [flatP]
  rw [e9] at hop
  have HOP : Hid (OwnTo B w (.slice bb us.length cc) zp vp (us ++ L)) := OwnTo.behind HBwb.out hop
  have hboxp : zp.heap[w.heap.size]? = some (.cells #[.string (strB x.1), .slice bf nf cf] 51 (0, 0)) := hop.other (own_stay HOWN.out HBwb.out) ((HVb.out.block _ HLT.out).trans HBX.out) (by decide)
  have HBXP : Hid (zp.heap[w.heap.size]? = some (.cells #[.string (strB x.1), .slice bf nf cf] 51 (0, 0))) := hboxp
  obtain ⟨np, bp, cp, rfl⟩ := own_form1 hop.row
  obtain ⟨f0, f1⟩ := bcells2 hboxp
  (try go_simp)
  refine hK.out _ _ ⟨⟨zp, f0, f1⟩, rfl⟩ ?_
  clear hK K hop hboxp f0 f1 e9
  have hlow := HOP.out.low HOWN.out hB
  have ca := pAllVal_any B (.slice bp np cp) (us ++ L) S x.2 (.slice bf nf cf) vlB zp HOP.out.row (Nat.le_trans hB HOP.out.grown.size) (rowIn.kept HIN.out (valE_keeps S) hlow.size fun q hq _ => hlow.block q (HSB.out q hq)) HSB.out (fun i hi W v0 us0 r1 r2 _ r4 => pPutVal_any B v0 us0 x.2[i] W r1 r2 (HFL.out _ (List.getElem_mem hi)) r4) (by have h1 := HBb.out; rw [HRB.out, List.length_append] at h1; rw [List.length_append]; omega)
  clear hlow
  refine mix_loud (fuel := 1) (fuel' := 2) (i := 8) rfl (by kernel_rfl) rfl rfl (by rfl) ?_
  intro K hK
  go_simp
  refine ca.mono ?_
  clear ca
  rintro e z8 ⟨v8, rfl, h8⟩
  have hbox8 : z8.heap[w.heap.size]? = some (.cells #[.string (strB x.1), .slice bf nf cf] 51 (0, 0)) := h8.other HOP.out.row HBXP.out (by decide)
  have H8 : Hid (OwnTo B w (.slice bb us.length cc) z8 v8 (us ++ R)) := by
    rw [HRB.out, ← List.append_assoc]
    exact HOP.out.trans h8
  obtain ⟨f0, f1⟩ := bcells2 hbox8
  have HF8 : Hid (z8.cell? ⟨w.heap.size, 0, none⟩ = some (.string (strB x.1)) ∧ z8.cell? ⟨w.heap.size, 1, none⟩ = some (.slice bf nf cf)) := ⟨f0, f1⟩
  (try go_simp)
  refine hK.out _ _ ⟨⟨z8, f0, f1⟩, rfl⟩ ?_
  clear hK K h8 hbox8 f0 f1
  refine mix_seg (fuel := 0) (fuel' := 1) (idx := [9]) (by kernel_rfl) rfl rfl rfl (fun _ _ _ _ _ h => h) ⟨⟨z8, HF8.out⟩, rfl⟩ ?_
  show wpQuiet _ _ _ _ [_] _
  iterate 1 (go_big_quiet_step (fail))
  refine wpQuiet_nil ?_
  refine mix_done (by kernel_rfl) ?_
  go_wp2
  go_ret
  exact ⟨_, rfl, H8.out⟩
end Go.Proofs.YtbdgniiafdjmiaaGreatDoor
