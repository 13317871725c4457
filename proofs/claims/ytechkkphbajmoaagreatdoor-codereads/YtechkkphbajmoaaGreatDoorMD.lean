import Derived.Test.YtechkkphbajmoaaGreatDoorCPut3
/- code: how many there are, and each, as bytes. -/
namespace Go.Proofs.YtechkkphbajmoaaGreatDoor
open Go.RowKit Go.Shelf

/-- How many there are, and each. -/
def allB {α : Type} (pc : α → List UInt8) (l : List α) : List UInt8 := numB l.length ++ (l.map pc).flatten
theorem flat_succ {α : Type} (pc : α → List UInt8) (l : List α) {i : Nat} (hi : i < l.length) : ((l.take (i + 1)).map pc).flatten = ((l.take i).map pc).flatten ++ pc l[i] := by
  have h : l.take i ++ [l[i]] = l.take (i + 1) := List.take_append_getElem hi
  rw [← h, List.map_append, List.flatten_append]
  simp only [List.map_cons, List.map_nil, List.flatten_cons, List.flatten_nil, List.append_nil]
theorem flat_le {α : Type} (pc : α → List UInt8) (l : List α) (i : Nat) : ((l.take i).map pc).flatten.length ≤ (l.map pc).flatten.length := by
  have h : l.map pc = (l.take i).map pc ++ (l.drop i).map pc := by rw [← List.map_append, List.take_append_drop]
  rw [h, List.flatten_append, List.length_append]
  omega
theorem own_form1 {w : World} {B e n : Nat} {v : Value} {xs : List Value} (h : w.ownsRow B e 1 v n xs) : ∃ n0 base cap, v = .slice base n0 cap := by
  obtain ⟨b, c, h⟩ := own_form0 h
  exact ⟨_, b, c, h⟩
end Go.Proofs.YtechkkphbajmoaaGreatDoor
/- code: how many there are, and each, put behind bytes of one's own: at string. -/
namespace Go.Proofs.YtechkkphbajmoaaGreatDoor
open Go.RowKit Go.Shelf

set_option maxRecDepth 100000 in
set_option maxHeartbeats 8000000 in
theorem cAllStr2_any (B : Nat) (v : Value) (us : List UInt8) (S : Nat → Prop) (l : List (List UInt8)) (rv : Value) (pc : (List UInt8) → List UInt8) (w : World) (hown : w.ownsRow B 5 1 v us.length (Lib.byteCells us)) (hB : B ≤ w.heap.size) (hin : strsIn S w rv l) (hSB : ∀ q, S q → q < B)
    (hk : ∀ i (hi : i < l.length) W v0 us0, W.ownsRow B 5 1 v0 us0.length (Lib.byteCells us0) → B ≤ W.heap.size → Below B w W → us0.length + (pc l[i]).length ≤ 140737488355328 → Calls Tryz.prog 74 #[v0, .string (strB l[i])] W fun e w' => ∃ v', e = .returned v' ∧ OwnTo B W v0 w' v' (us0 ++ pc l[i])) (hb : us.length + (allB pc l).length ≤ 140737488355328) :
    Calls Tryz.prog 28 #[v, rv, .func (.func 74) #[] #[]] w fun e w' => ∃ v', e = .returned v' ∧ OwnTo B w v w' v' (us ++ allB pc l) := by
  obtain ⟨base, cap, rfl, hc1, hc2, hat⟩ := hin.at
  have HK : Hid (∀ i (hi : i < l.length) W v0 us0, W.ownsRow B 5 1 v0 us0.length (Lib.byteCells us0) → B ≤ W.heap.size → Below B w W → us0.length + (pc l[i]).length ≤ 140737488355328 → Calls Tryz.prog 74 #[v0, .string (strB l[i])] W fun e w' => ∃ v', e = .returned v' ∧ OwnTo B W v0 w' v' (us0 ++ pc l[i])) := hk
  have HAT : Hid (∀ i (hi : i < l.length), ∃ b o, base = some ⟨b, o, none⟩ ∧ S b ∧ b < w.heap.size ∧ strE w b (o + i * 1) l[i]) := hat
  have hln : l.length ≤ 9223372036854775807 := by have : maxLen ≤ 9223372036854775807 := by decide
                                                  omega
  have HOWN : Hid (w.ownsRow B 5 1 v us.length (Lib.byteCells us)) := hown
  have HSB : Hid (∀ q, S q → q < B) := hSB
  have HBb : Hid (us.length + (numB l.length).length + (l.map pc).flatten.length ≤ 140737488355328) := by
    have := hb; unfold allB at this; rw [List.length_append] at this; show _ ≤ _; omega
  have c1 := cNumber_any (l.length : Int) (by omega) (by omega) w
  obtain ⟨L, hL⟩ : ∃ L, L = numB (l.length : Int) := ⟨_, rfl⟩
  rw [← hL] at c1 HBb
  have HRES : Hid (allB pc l = L ++ (l.map pc).flatten) := by rw [hL]; exact rfl
  obtain ⟨R, hR⟩ : ∃ R, R = allB pc l := ⟨_, rfl⟩
  rw [← hR] at HRES ⊢
  obtain ⟨bb, cc, rfl⟩ := own_form0 hown
  clear hat hin hk hown hb hL hSB hR
  go_enter Tryz.func28, Tryz.ntmps28
  go_wp2_with fail
  refine c1.mono ?_
  clear c1
  rintro e w1 ⟨v1, rfl, ho, hb1⟩
  obtain ⟨b1, c1, rfl⟩ := own_form0 ho
  have HO : Hid (w1.ownsRow w.heap.size 5 1 (.slice b1 L.length c1) L.length (Lib.byteCells L)) := ho
  have HB1 : Hid (Below w.heap.size w w1) := hb1
  clear ho hb1
  go_wp2_with fail
  obtain ⟨w2, hw2, hb2, -, hg2⟩ := box1 w1 (.cells #[.slice b1 L.length c1] 39)
  rw [← hw2]
  refine (cPutOwn_any B _ us w1.heap.size 1 [(.slice b1 L.length c1, L)] w w2 HOWN.out hB (HB1.out.trans (hb2.mono HB1.out.size)) hg2 (fun p hp => ?_) (by simp) (by have := HBb.out; simp [flatP]; omega)).mono ?_
  · obtain rfl : p = (.slice b1 L.length c1, L) := by simpa using hp
    exact own_stay HO.out hb2
  rintro e w3 ⟨v3, rfl, h3⟩
  have H3 : Hid (OwnTo B w (.slice bb us.length cc) w3 v3 (us ++ L)) := by
    have := OwnTo.behind (HB1.out.trans (hb2.mono HB1.out.size)) h3
    simp only [flatP, List.map_cons, List.map_nil, List.flatten_cons, List.flatten_nil, List.append_nil] at this
    exact this
  clear hw2 hb2 hg2 h3
  go_wp2
  go_loopw [0, 17] (fun v0 vi wr => ∃ i : Nat, i ≤ l.length ∧ vi = .int .i64 i ∧ OwnTo B w (.slice bb us.length cc) wr v0 (us ++ (L ++ ((l.take i).map pc).flatten))) (fun _ vi _ => l.length - (intOf vi).toNat)
  case atStart => exact ⟨0, Nat.zero_le _, rfl, by simpa using H3.out⟩
  case round =>
    obtain ⟨i, hi, rfl, hJ⟩ := hrel
    have HJ : Hid (OwnTo B w (.slice bb us.length cc) wr u0 (us ++ (L ++ ((l.take i).map pc).flatten))) := hJ
    have hbr := hJ.low HOWN.out hB
    have HBR : Hid (Below B w wr) := hbr
    obtain ⟨n0, b0, c0, rfl⟩ := own_form1 hJ.row
    by_cases hlt : i < l.length
    · have hi2 : (i : Int) < l.length := by omega
      obtain ⟨b, o, rfl, hSb, hbl, hc⟩ := HAT.out i hlt
      have e0 : w.cell? ⟨b, o + i, none⟩ = some (.string (strB l[i])) := by have := hc; rw [Nat.mul_one] at this; exact this
      obtain ⟨s, hs⟩ : ∃ s, s = l[i] := ⟨_, rfl⟩
      have HS : Hid (s = l[i]) := hs
      have hcc : ∀ q, wr.cell? ⟨b, q, none⟩ = w.cell? ⟨b, q, none⟩ := fun q => below_cell hbr (HSB.out b hSb)
      rw [← hs] at e0
      rw [← hcc] at e0
      have hsz : (us ++ (L ++ ((l.take i).map pc).flatten)).length + (pc l[i]).length ≤ 140737488355328 := by
        have h1 := flat_le pc l (i + 1)
        rw [flat_succ pc l hlt, List.length_append] at h1
        have := HBb.out
        rw [List.length_append, List.length_append]
        omega
      have cis := HK.out i hlt wr _ _ hJ.row (Nat.le_trans hB hJ.grown.size) hbr hsz
      rw [← hs] at cis
      clear hs hcc hsz hJ hbr
      go_wp2_with fail
      refine cis.mono ?_
      clear cis
      rintro e w5 ⟨v5, rfl, h5⟩
      have HNX : Hid (OwnTo B w (.slice bb us.length cc) w5 v5 (us ++ (L ++ ((l.take (i + 1)).map pc).flatten))) := by
        rw [flat_succ pc l hlt, ← List.append_assoc L, ← List.append_assoc us, ← HS.out]
        exact HJ.out.trans h5
      clear h5
      go_wp2
      exact ⟨⟨i + 1, by omega, by go_num, HNX.out⟩, by simp [intOf]; omega⟩
    · obtain rfl : i = l.length := by omega
      have hi2 : ¬ (l.length : Int) < l.length := by omega
      have HE : Hid (OwnTo B w (.slice bb us.length cc) wr (.slice b0 n0 c0) (us ++ R)) := by
        have := HJ.out
        rw [List.take_length] at this
        rw [HRES.out]
        exact this
      clear hJ hbr
      go_wp2
      go_ret
      exact ⟨_, rfl, HE.out⟩
end Go.Proofs.YtechkkphbajmoaaGreatDoor
/- code: a shape, put behind bytes of one's own. -/
namespace Go.Proofs.YtechkkphbajmoaaGreatDoor
open Go.RowKit Go.Shelf

def shB (x : Sh) : List UInt8 := txB x.name ++ allB txB x.fields

set_option maxRecDepth 100000 in
set_option maxHeartbeats 4000000 in
theorem cPutShape_any (B : Nat) (v : Value) (us : List UInt8) (S : Nat → Prop) (x : Sh) (bf : Option Addr) (nf cf : Nat) (w : World) (hown : w.ownsRow B 5 1 v us.length (Lib.byteCells us)) (hB : B ≤ w.heap.size) (hin : strsIn S w (.slice bf nf cf) x.fields) (hSB : ∀ q, S q → q < B) (hn : x.name.length ≤ 1048576) (hf : ∀ f ∈ x.fields, f.length ≤ 1048576) (hb : us.length + (shB x).length ≤ 140737488355328) :
    Calls Tryz.prog 33 #[v, shV x (.slice bf nf cf)] w fun e w' => ∃ v', e = .returned v' ∧ OwnTo B w v w' v' (us ++ shB x) := by
  obtain ⟨w1, hw1, hb1, HZ1, h1⟩ := box1 w (.cells #[.string (strB x.name), .slice bf nf cf] 77)
  have HW1 : Hid (w1 = w.alloc (.cells #[.string (strB x.name), .slice bf nf cf] 77)) := hw1
  have HB1 : Hid (Below w.heap.size w w1) := hb1
  have HBX : Hid (w1.heap[w.heap.size]? = some (.cells #[.string (strB x.name), .slice bf nf cf] 77 (0, 0))) := h1
  have HLT : Hid (w.heap.size < w1.heap.size) := by have := HZ1.out; show _ < _; omega
  have HOWN : Hid (w.ownsRow B 5 1 v us.length (Lib.byteCells us)) := hown
  have HIN : Hid (strsIn S w (.slice bf nf cf) x.fields) := hin
  have HSB : Hid (∀ q, S q → q < B) := hSB
  have HFL : Hid (∀ f ∈ x.fields, f.length ≤ 1048576) := hf
  have c := cText_any x.name hn w1
  obtain ⟨L, hL⟩ : ∃ L, L = txB x.name := ⟨_, rfl⟩
  rw [← hL] at c
  have HRB : Hid (shB x = L ++ allB txB x.fields) := by rw [hL]; exact rfl
  obtain ⟨R, hR⟩ : ∃ R, R = shB x := ⟨_, rfl⟩
  rw [← hR] at hb HRB ⊢
  have HBb : Hid (us.length + R.length ≤ 140737488355328) := hb
  obtain ⟨bb, cc, rfl⟩ := own_form0 hown
  clear hw1 hb1 h1 hown hin hSB hf hn hb hL hR
  go_enter Tryz.func33, Tryz.ntmps33
  go_wp2_with fail
  rw [← HW1.out]
  refine c.mono ?_
  clear c
  rintro e w2 ⟨v2, rfl, ho, hb2⟩
  obtain ⟨b2, c2, rfl⟩ := own_form0 ho
  have HO : Hid (w2.ownsRow w1.heap.size 5 1 (.slice b2 L.length c2) L.length (Lib.byteCells L)) := ho
  have HB2 : Hid (Below w1.heap.size w1 w2) := hb2
  clear ho hb2
  go_wp2_with fail
  obtain ⟨w3, hw3, hb3, -, hg3⟩ := box1 w2 (.cells #[.slice b2 L.length c2] 39)
  rw [← hw3]
  have HB13 : Hid (Below w1.heap.size w1 w3) := HB2.out.trans (hb3.mono HB2.out.size)
  have HBw3 : Hid (Below w.heap.size w w3) := HB1.out.trans (HB13.out.mono HB1.out.size)
  refine (cPutOwn_any B _ us w2.heap.size 1 [(.slice b2 L.length c2, L)] w w3 HOWN.out hB HBw3.out hg3 (fun p hp => ?_) (by simp) (by have h1 := HBb.out; rw [HRB.out, List.length_append] at h1; simp [flatP]; omega)).mono ?_
  · obtain rfl : p = (.slice b2 L.length c2, L) := by simpa using hp
    exact own_base (own_stay HO.out hb3) HB1.out.size
  rintro e w4 ⟨v4, rfl, h4⟩
  have e9 : us ++ flatP [(Value.slice b2 L.length c2, L)] = us ++ L := by simp [flatP]
  rw [e9] at h4
  have HX4 : Hid (w4.heap[w.heap.size]? = some (.cells #[.string (strB x.name), .slice bf nf cf] 77 (0, 0))) := h4.other (own_stay HOWN.out HBw3.out) ((HB13.out.block _ HLT.out).trans HBX.out) (by decide)
  have H4 : Hid (OwnTo B w (.slice bb us.length cc) w4 v4 (us ++ L)) := OwnTo.behind HBw3.out h4
  obtain ⟨a0, a1⟩ := bcells2 HX4.out
  obtain ⟨n4, b4, c4, rfl⟩ := own_form1 h4.row
  have hlow := H4.out.low HOWN.out hB
  have ca := cAllStr2_any B (.slice b4 n4 c4) (us ++ L) S x.fields (.slice bf nf cf) txB w4 H4.out.row (Nat.le_trans hB H4.out.grown.size) (rowIn.kept HIN.out (strE_keeps S) hlow.size fun q hq _ => hlow.block q (HSB.out q hq)) HSB.out (fun i hi W v0 us0 r1 r2 _ r4 => cPutStr2_any B v0 us0 x.fields[i] (HFL.out _ (List.getElem_mem hi)) W r1 r2 r4) (by have h1 := HBb.out; rw [HRB.out, List.length_append] at h1; rw [List.length_append]; omega)
  clear hw3 hb3 hg3 h4 e9 hlow
  go_wp2_with fail
  refine ca.mono ?_
  clear ca a0 a1
  rintro e w5 ⟨v5, rfl, h5⟩
  have H5 : Hid (OwnTo B w (.slice bb us.length cc) w5 v5 (us ++ R)) := by
    rw [HRB.out, ← List.append_assoc]
    exact H4.out.trans h5
  clear h5
  go_wp2
  go_ret
  exact ⟨_, rfl, H5.out⟩
end Go.Proofs.YtechkkphbajmoaaGreatDoor
/- code: how many there are, and each, put behind bytes of one's own: at hindcast/api.Ins. -/
namespace Go.Proofs.YtechkkphbajmoaaGreatDoor
open Go.RowKit Go.Shelf

set_option maxRecDepth 100000 in
set_option maxHeartbeats 8000000 in
theorem cAllIns_any (B : Nat) (v : Value) (us : List UInt8) (S : Nat → Prop) (l : List In7) (rv : Value) (pc : In7 → List UInt8) (w : World) (hown : w.ownsRow B 5 1 v us.length (Lib.byteCells us)) (hB : B ≤ w.heap.size) (hin : insIn S w rv l) (hSB : ∀ q, S q → q < B)
    (hk : ∀ i (hi : i < l.length) W v0 us0, W.ownsRow B 5 1 v0 us0.length (Lib.byteCells us0) → B ≤ W.heap.size → Below B w W → us0.length + (pc l[i]).length ≤ 140737488355328 → Calls Tryz.prog 77 #[v0, inV l[i]] W fun e w' => ∃ v', e = .returned v' ∧ OwnTo B W v0 w' v' (us0 ++ pc l[i])) (hb : us.length + (allB pc l).length ≤ 140737488355328) :
    Calls Tryz.prog 76 #[v, rv, .func (.func 77) #[] #[]] w fun e w' => ∃ v', e = .returned v' ∧ OwnTo B w v w' v' (us ++ allB pc l) := by
  obtain ⟨base, cap, rfl, hc1, hc2, hat⟩ := hin.at
  have HK : Hid (∀ i (hi : i < l.length) W v0 us0, W.ownsRow B 5 1 v0 us0.length (Lib.byteCells us0) → B ≤ W.heap.size → Below B w W → us0.length + (pc l[i]).length ≤ 140737488355328 → Calls Tryz.prog 77 #[v0, inV l[i]] W fun e w' => ∃ v', e = .returned v' ∧ OwnTo B W v0 w' v' (us0 ++ pc l[i])) := hk
  have HAT : Hid (∀ i (hi : i < l.length), ∃ b o, base = some ⟨b, o, none⟩ ∧ S b ∧ b < w.heap.size ∧ insE w b (o + i * 2) l[i]) := hat
  have hln : l.length ≤ 9223372036854775807 := by have : maxLen ≤ 9223372036854775807 := by decide
                                                  omega
  have HOWN : Hid (w.ownsRow B 5 1 v us.length (Lib.byteCells us)) := hown
  have HSB : Hid (∀ q, S q → q < B) := hSB
  have HBb : Hid (us.length + (numB l.length).length + (l.map pc).flatten.length ≤ 140737488355328) := by
    have := hb; unfold allB at this; rw [List.length_append] at this; show _ ≤ _; omega
  have c1 := cNumber_any (l.length : Int) (by omega) (by omega) w
  obtain ⟨L, hL⟩ : ∃ L, L = numB (l.length : Int) := ⟨_, rfl⟩
  rw [← hL] at c1 HBb
  have HRES : Hid (allB pc l = L ++ (l.map pc).flatten) := by rw [hL]; exact rfl
  obtain ⟨R, hR⟩ : ∃ R, R = allB pc l := ⟨_, rfl⟩
  rw [← hR] at HRES ⊢
  obtain ⟨bb, cc, rfl⟩ := own_form0 hown
  clear hat hin hk hown hb hL hSB hR
  go_enter Tryz.func76, Tryz.ntmps76
  go_wp2_with fail
  refine c1.mono ?_
  clear c1
  rintro e w1 ⟨v1, rfl, ho, hb1⟩
  obtain ⟨b1, c1, rfl⟩ := own_form0 ho
  have HO : Hid (w1.ownsRow w.heap.size 5 1 (.slice b1 L.length c1) L.length (Lib.byteCells L)) := ho
  have HB1 : Hid (Below w.heap.size w w1) := hb1
  clear ho hb1
  go_wp2_with fail
  obtain ⟨w2, hw2, hb2, -, hg2⟩ := box1 w1 (.cells #[.slice b1 L.length c1] 39)
  rw [← hw2]
  refine (cPutOwn_any B _ us w1.heap.size 1 [(.slice b1 L.length c1, L)] w w2 HOWN.out hB (HB1.out.trans (hb2.mono HB1.out.size)) hg2 (fun p hp => ?_) (by simp) (by have := HBb.out; simp [flatP]; omega)).mono ?_
  · obtain rfl : p = (.slice b1 L.length c1, L) := by simpa using hp
    exact own_stay HO.out hb2
  rintro e w3 ⟨v3, rfl, h3⟩
  have H3 : Hid (OwnTo B w (.slice bb us.length cc) w3 v3 (us ++ L)) := by
    have := OwnTo.behind (HB1.out.trans (hb2.mono HB1.out.size)) h3
    simp only [flatP, List.map_cons, List.map_nil, List.flatten_cons, List.flatten_nil, List.append_nil] at this
    exact this
  clear hw2 hb2 hg2 h3
  go_wp2
  go_loopw [0, 17] (fun v0 vi wr => ∃ i : Nat, i ≤ l.length ∧ vi = .int .i64 i ∧ OwnTo B w (.slice bb us.length cc) wr v0 (us ++ (L ++ ((l.take i).map pc).flatten))) (fun _ vi _ => l.length - (intOf vi).toNat)
  case atStart => exact ⟨0, Nat.zero_le _, rfl, by simpa using H3.out⟩
  case round =>
    obtain ⟨i, hi, rfl, hJ⟩ := hrel
    have HJ : Hid (OwnTo B w (.slice bb us.length cc) wr u0 (us ++ (L ++ ((l.take i).map pc).flatten))) := hJ
    have hbr := hJ.low HOWN.out hB
    have HBR : Hid (Below B w wr) := hbr
    obtain ⟨n0, b0, c0, rfl⟩ := own_form1 hJ.row
    by_cases hlt : i < l.length
    · have hi2 : (i : Int) < l.length := by omega
      obtain ⟨b, o, rfl, hSb, hbl, hc⟩ := HAT.out i hlt
      obtain ⟨e0, e1⟩ := hc
      obtain ⟨s, hs⟩ : ∃ s, s = l[i] := ⟨_, rfl⟩
      have HS : Hid (s = l[i]) := hs
      have hcc : ∀ q, wr.cell? ⟨b, q, none⟩ = w.cell? ⟨b, q, none⟩ := fun q => below_cell hbr (HSB.out b hSb)
      rw [← hs] at e0 e1
      rw [← hcc] at e0 e1
      have hsz : (us ++ (L ++ ((l.take i).map pc).flatten)).length + (pc l[i]).length ≤ 140737488355328 := by
        have h1 := flat_le pc l (i + 1)
        rw [flat_succ pc l hlt, List.length_append] at h1
        have := HBb.out
        rw [List.length_append, List.length_append]
        omega
      obtain ⟨w4, hw4, hb4, HZ4, h4⟩ := box1 wr (.cells #[.int .i64 s.op, .int .i64 s.a] 62)
      have HW4 : Hid (w4 = wr.alloc (.cells #[.int .i64 s.op, .int .i64 s.a] 62)) := hw4
      have HB4 : Hid (Below wr.heap.size wr w4) := hb4
      have cis := HK.out i hlt w4 _ _ (own_stay hJ.row hb4) (Nat.le_trans hB (Nat.le_trans hJ.grown.size hb4.size)) (hbr.trans (hb4.mono (Nat.le_trans hB hJ.grown.size))) hsz
      clear hw4 hb4 HZ4 h4
      rw [← hs] at cis
      clear hs hcc hsz hJ hbr
      go_wp2_with fail
      rw [← HW4.out]
      refine cis.mono ?_
      clear cis
      rintro e w5 ⟨v5, rfl, h5⟩
      have HNX : Hid (OwnTo B w (.slice bb us.length cc) w5 v5 (us ++ (L ++ ((l.take (i + 1)).map pc).flatten))) := by
        rw [flat_succ pc l hlt, ← List.append_assoc L, ← List.append_assoc us, ← HS.out]
        exact HJ.out.trans (OwnTo.behind HB4.out h5)
      clear h5
      go_wp2
      exact ⟨⟨i + 1, by omega, by go_num, HNX.out⟩, by simp [intOf]; omega⟩
    · obtain rfl : i = l.length := by omega
      have hi2 : ¬ (l.length : Int) < l.length := by omega
      have HE : Hid (OwnTo B w (.slice bb us.length cc) wr (.slice b0 n0 c0) (us ++ R)) := by
        have := HJ.out
        rw [List.take_length] at this
        rw [HRES.out]
        exact this
      clear hJ hbr
      go_wp2
      go_ret
      exact ⟨_, rfl, HE.out⟩
end Go.Proofs.YtechkkphbajmoaaGreatDoor
/- code: how many there are, and each, put behind bytes of one's own: at hindcast/api.Var. -/
namespace Go.Proofs.YtechkkphbajmoaaGreatDoor
open Go.RowKit Go.Shelf

set_option maxRecDepth 100000 in
set_option maxHeartbeats 8000000 in
theorem cAllVar_any (B : Nat) (v : Value) (us : List UInt8) (S : Nat → Prop) (l : List Vr) (rv : Value) (pc : Vr → List UInt8) (w : World) (hown : w.ownsRow B 5 1 v us.length (Lib.byteCells us)) (hB : B ≤ w.heap.size) (hin : varsIn S w rv l) (hSB : ∀ q, S q → q < B)
    (hk : ∀ i (hi : i < l.length) W v0 us0, W.ownsRow B 5 1 v0 us0.length (Lib.byteCells us0) → B ≤ W.heap.size → Below B w W → us0.length + (pc l[i]).length ≤ 140737488355328 → Calls Tryz.prog 79 #[v0, vrV l[i]] W fun e w' => ∃ v', e = .returned v' ∧ OwnTo B W v0 w' v' (us0 ++ pc l[i])) (hb : us.length + (allB pc l).length ≤ 140737488355328) :
    Calls Tryz.prog 78 #[v, rv, .func (.func 79) #[] #[]] w fun e w' => ∃ v', e = .returned v' ∧ OwnTo B w v w' v' (us ++ allB pc l) := by
  obtain ⟨base, cap, rfl, hc1, hc2, hat⟩ := hin.at
  have HK : Hid (∀ i (hi : i < l.length) W v0 us0, W.ownsRow B 5 1 v0 us0.length (Lib.byteCells us0) → B ≤ W.heap.size → Below B w W → us0.length + (pc l[i]).length ≤ 140737488355328 → Calls Tryz.prog 79 #[v0, vrV l[i]] W fun e w' => ∃ v', e = .returned v' ∧ OwnTo B W v0 w' v' (us0 ++ pc l[i])) := hk
  have HAT : Hid (∀ i (hi : i < l.length), ∃ b o, base = some ⟨b, o, none⟩ ∧ S b ∧ b < w.heap.size ∧ varE w b (o + i * 4) l[i]) := hat
  have hln : l.length ≤ 9223372036854775807 := by have : maxLen ≤ 9223372036854775807 := by decide
                                                  omega
  have HOWN : Hid (w.ownsRow B 5 1 v us.length (Lib.byteCells us)) := hown
  have HSB : Hid (∀ q, S q → q < B) := hSB
  have HBb : Hid (us.length + (numB l.length).length + (l.map pc).flatten.length ≤ 140737488355328) := by
    have := hb; unfold allB at this; rw [List.length_append] at this; show _ ≤ _; omega
  have c1 := cNumber_any (l.length : Int) (by omega) (by omega) w
  obtain ⟨L, hL⟩ : ∃ L, L = numB (l.length : Int) := ⟨_, rfl⟩
  rw [← hL] at c1 HBb
  have HRES : Hid (allB pc l = L ++ (l.map pc).flatten) := by rw [hL]; exact rfl
  obtain ⟨R, hR⟩ : ∃ R, R = allB pc l := ⟨_, rfl⟩
  rw [← hR] at HRES ⊢
  obtain ⟨bb, cc, rfl⟩ := own_form0 hown
  clear hat hin hk hown hb hL hSB hR
  go_enter Tryz.func78, Tryz.ntmps78
  go_wp2_with fail
  refine c1.mono ?_
  clear c1
  rintro e w1 ⟨v1, rfl, ho, hb1⟩
  obtain ⟨b1, c1, rfl⟩ := own_form0 ho
  have HO : Hid (w1.ownsRow w.heap.size 5 1 (.slice b1 L.length c1) L.length (Lib.byteCells L)) := ho
  have HB1 : Hid (Below w.heap.size w w1) := hb1
  clear ho hb1
  go_wp2_with fail
  obtain ⟨w2, hw2, hb2, -, hg2⟩ := box1 w1 (.cells #[.slice b1 L.length c1] 39)
  rw [← hw2]
  refine (cPutOwn_any B _ us w1.heap.size 1 [(.slice b1 L.length c1, L)] w w2 HOWN.out hB (HB1.out.trans (hb2.mono HB1.out.size)) hg2 (fun p hp => ?_) (by simp) (by have := HBb.out; simp [flatP]; omega)).mono ?_
  · obtain rfl : p = (.slice b1 L.length c1, L) := by simpa using hp
    exact own_stay HO.out hb2
  rintro e w3 ⟨v3, rfl, h3⟩
  have H3 : Hid (OwnTo B w (.slice bb us.length cc) w3 v3 (us ++ L)) := by
    have := OwnTo.behind (HB1.out.trans (hb2.mono HB1.out.size)) h3
    simp only [flatP, List.map_cons, List.map_nil, List.flatten_cons, List.flatten_nil, List.append_nil] at this
    exact this
  clear hw2 hb2 hg2 h3
  go_wp2
  go_loopw [0, 17] (fun v0 vi wr => ∃ i : Nat, i ≤ l.length ∧ vi = .int .i64 i ∧ OwnTo B w (.slice bb us.length cc) wr v0 (us ++ (L ++ ((l.take i).map pc).flatten))) (fun _ vi _ => l.length - (intOf vi).toNat)
  case atStart => exact ⟨0, Nat.zero_le _, rfl, by simpa using H3.out⟩
  case round =>
    obtain ⟨i, hi, rfl, hJ⟩ := hrel
    have HJ : Hid (OwnTo B w (.slice bb us.length cc) wr u0 (us ++ (L ++ ((l.take i).map pc).flatten))) := hJ
    have hbr := hJ.low HOWN.out hB
    have HBR : Hid (Below B w wr) := hbr
    obtain ⟨n0, b0, c0, rfl⟩ := own_form1 hJ.row
    by_cases hlt : i < l.length
    · have hi2 : (i : Int) < l.length := by omega
      obtain ⟨b, o, rfl, hSb, hbl, hc⟩ := HAT.out i hlt
      obtain ⟨e0, e1, e2, e3⟩ := hc
      obtain ⟨s, hs⟩ : ∃ s, s = l[i] := ⟨_, rfl⟩
      have HS : Hid (s = l[i]) := hs
      have hcc : ∀ q, wr.cell? ⟨b, q, none⟩ = w.cell? ⟨b, q, none⟩ := fun q => below_cell hbr (HSB.out b hSb)
      rw [← hs] at e0 e1 e2 e3
      rw [← hcc] at e0 e1 e2 e3
      have hsz : (us ++ (L ++ ((l.take i).map pc).flatten)).length + (pc l[i]).length ≤ 140737488355328 := by
        have h1 := flat_le pc l (i + 1)
        rw [flat_succ pc l hlt, List.length_append] at h1
        have := HBb.out
        rw [List.length_append, List.length_append]
        omega
      obtain ⟨w4, hw4, hb4, HZ4, h4⟩ := box1 wr (.cells #[.string (strB s.name), .int .i64 s.slot, .int .i64 s.lo, .int .i64 s.hi] 121)
      have HW4 : Hid (w4 = wr.alloc (.cells #[.string (strB s.name), .int .i64 s.slot, .int .i64 s.lo, .int .i64 s.hi] 121)) := hw4
      have HB4 : Hid (Below wr.heap.size wr w4) := hb4
      have cis := HK.out i hlt w4 _ _ (own_stay hJ.row hb4) (Nat.le_trans hB (Nat.le_trans hJ.grown.size hb4.size)) (hbr.trans (hb4.mono (Nat.le_trans hB hJ.grown.size))) hsz
      clear hw4 hb4 HZ4 h4
      rw [← hs] at cis
      clear hs hcc hsz hJ hbr
      go_wp2_with fail
      rw [← HW4.out]
      refine cis.mono ?_
      clear cis
      rintro e w5 ⟨v5, rfl, h5⟩
      have HNX : Hid (OwnTo B w (.slice bb us.length cc) w5 v5 (us ++ (L ++ ((l.take (i + 1)).map pc).flatten))) := by
        rw [flat_succ pc l hlt, ← List.append_assoc L, ← List.append_assoc us, ← HS.out]
        exact HJ.out.trans (OwnTo.behind HB4.out h5)
      clear h5
      go_wp2
      exact ⟨⟨i + 1, by omega, by go_num, HNX.out⟩, by simp [intOf]; omega⟩
    · obtain rfl : i = l.length := by omega
      have hi2 : ¬ (l.length : Int) < l.length := by omega
      have HE : Hid (OwnTo B w (.slice bb us.length cc) wr (.slice b0 n0 c0) (us ++ R)) := by
        have := HJ.out
        rw [List.take_length] at this
        rw [HRES.out]
        exact this
      clear hJ hbr
      go_wp2
      go_ret
      exact ⟨_, rfl, HE.out⟩
end Go.Proofs.YtechkkphbajmoaaGreatDoor
/- code: a unit, put behind bytes of one's own. -/
namespace Go.Proofs.YtechkkphbajmoaaGreatDoor
open Go.RowKit Go.Shelf

def unB (u : Un) : List UInt8 := txB u.name ++ (numB u.params ++ (numB u.slots ++ (numB u.stack ++ (boolB u.result ++ (allB insB u.ins ++ allB vrB u.vars)))))
def I64 (n : Int) : Prop := -9223372036854775808 ≤ n ∧ n ≤ 9223372036854775807

set_option maxRecDepth 100000 in
set_option maxHeartbeats 8000000 in
theorem cPutUnit_any (B : Nat) (v : Value) (us : List UInt8) (x : Un) (bi : Option Addr) (ni ci : Nat) (bv : Option Addr) (nv cv : Nat) (w : World) (hown : w.ownsRow B 5 1 v us.length (Lib.byteCells us)) (hB : B ≤ w.heap.size) (S : Nat → Prop) (hii : insIn S w (.slice bi ni ci) x.ins) (hvv : varsIn S w (.slice bv nv cv) x.vars) (hSB : ∀ q, S q → q < B) (hi64 : ∀ y ∈ x.ins, I64 y.op ∧ I64 y.a) (hv64 : ∀ y ∈ x.vars, y.name.length ≤ 1048576 ∧ I64 y.slot ∧ I64 y.lo ∧ I64 y.hi) (j0 : x.name.length ≤ 1048576) (j1 : -9223372036854775808 ≤ x.params ∧ x.params ≤ 9223372036854775807) (j2 : -9223372036854775808 ≤ x.slots ∧ x.slots ≤ 9223372036854775807) (j3 : -9223372036854775808 ≤ x.stack ∧ x.stack ≤ 9223372036854775807) (hb : us.length + (unB x).length ≤ 140737488355328) :
    Calls Tryz.prog 35 #[v, unV x (.slice bi ni ci) (.slice bv nv cv)] w fun e w' => ∃ v', e = .returned v' ∧ OwnTo B w v w' v' (us ++ unB x) := by
  obtain ⟨w1, hw1, hb1, HZ1, h1⟩ := box1 w (.cells #[.string (strB x.name), .int .i64 x.params, .int .i64 x.slots, .int .i64 x.stack, .bool x.result, .slice bi ni ci, .slice bv nv cv] 58)
  have HW1 : Hid (w1 = w.alloc (.cells #[.string (strB x.name), .int .i64 x.params, .int .i64 x.slots, .int .i64 x.stack, .bool x.result, .slice bi ni ci, .slice bv nv cv] 58)) := hw1
  have HB1 : Hid (Below w.heap.size w w1) := hb1
  have HBX : Hid (w1.heap[w.heap.size]? = some (.cells #[.string (strB x.name), .int .i64 x.params, .int .i64 x.slots, .int .i64 x.stack, .bool x.result, .slice bi ni ci, .slice bv nv cv] 58 (0, 0))) := h1
  have HLT : Hid (w.heap.size < w1.heap.size) := by have := HZ1.out; show _ < _; omega
  have HOWN : Hid (w.ownsRow B 5 1 v us.length (Lib.byteCells us)) := hown
  obtain ⟨R, hR⟩ : ∃ R, R = unB x := ⟨_, rfl⟩
  rw [← hR] at hb ⊢
  have HRB : Hid (R = unB x) := hR
  have HBb : Hid (us.length + R.length ≤ 140737488355328) := hb
  have HCF : Hid (∀ W, Below w1.heap.size w1 W → W.cell? ⟨w.heap.size, 0, none⟩ = some (.string (strB x.name)) ∧ W.cell? ⟨w.heap.size, 1, none⟩ = some (.int .i64 x.params) ∧ W.cell? ⟨w.heap.size, 2, none⟩ = some (.int .i64 x.slots) ∧ W.cell? ⟨w.heap.size, 3, none⟩ = some (.int .i64 x.stack) ∧ W.cell? ⟨w.heap.size, 4, none⟩ = some (.bool x.result)) := fun W hW => by
    obtain ⟨f0, f1, f2, f3, f4, -, -⟩ := cells7 ((hW.block _ HLT.out).trans HBX.out)
    exact ⟨f0, f1, f2, f3, f4⟩
  haveI hne : Nonempty (ClsP (fun W => W.cell? ⟨w.heap.size, 0, none⟩ = some (.string (strB x.name)) ∧ W.cell? ⟨w.heap.size, 1, none⟩ = some (.int .i64 x.params) ∧ W.cell? ⟨w.heap.size, 2, none⟩ = some (.int .i64 x.slots) ∧ W.cell? ⟨w.heap.size, 3, none⟩ = some (.int .i64 x.stack) ∧ W.cell? ⟨w.heap.size, 4, none⟩ = some (.bool x.result))) := ⟨⟨w1, HCF.out w1 (Below.refl _ _)⟩⟩
  have X0 : ∀ c : ClsP (fun W => W.cell? ⟨w.heap.size, 0, none⟩ = some (.string (strB x.name)) ∧ W.cell? ⟨w.heap.size, 1, none⟩ = some (.int .i64 x.params) ∧ W.cell? ⟨w.heap.size, 2, none⟩ = some (.int .i64 x.slots) ∧ W.cell? ⟨w.heap.size, 3, none⟩ = some (.int .i64 x.stack) ∧ W.cell? ⟨w.heap.size, 4, none⟩ = some (.bool x.result)), c.1.cell? ⟨w.heap.size, 0, none⟩ = some (.string (strB x.name)) := fun c => c.2.1
  have X1 : ∀ c : ClsP (fun W => W.cell? ⟨w.heap.size, 0, none⟩ = some (.string (strB x.name)) ∧ W.cell? ⟨w.heap.size, 1, none⟩ = some (.int .i64 x.params) ∧ W.cell? ⟨w.heap.size, 2, none⟩ = some (.int .i64 x.slots) ∧ W.cell? ⟨w.heap.size, 3, none⟩ = some (.int .i64 x.stack) ∧ W.cell? ⟨w.heap.size, 4, none⟩ = some (.bool x.result)), c.1.cell? ⟨w.heap.size, 1, none⟩ = some (.int .i64 x.params) := fun c => c.2.2.1
  have X2 : ∀ c : ClsP (fun W => W.cell? ⟨w.heap.size, 0, none⟩ = some (.string (strB x.name)) ∧ W.cell? ⟨w.heap.size, 1, none⟩ = some (.int .i64 x.params) ∧ W.cell? ⟨w.heap.size, 2, none⟩ = some (.int .i64 x.slots) ∧ W.cell? ⟨w.heap.size, 3, none⟩ = some (.int .i64 x.stack) ∧ W.cell? ⟨w.heap.size, 4, none⟩ = some (.bool x.result)), c.1.cell? ⟨w.heap.size, 2, none⟩ = some (.int .i64 x.slots) := fun c => c.2.2.2.1
  have X3 : ∀ c : ClsP (fun W => W.cell? ⟨w.heap.size, 0, none⟩ = some (.string (strB x.name)) ∧ W.cell? ⟨w.heap.size, 1, none⟩ = some (.int .i64 x.params) ∧ W.cell? ⟨w.heap.size, 2, none⟩ = some (.int .i64 x.slots) ∧ W.cell? ⟨w.heap.size, 3, none⟩ = some (.int .i64 x.stack) ∧ W.cell? ⟨w.heap.size, 4, none⟩ = some (.bool x.result)), c.1.cell? ⟨w.heap.size, 3, none⟩ = some (.int .i64 x.stack) := fun c => c.2.2.2.2.1
  have X4 : ∀ c : ClsP (fun W => W.cell? ⟨w.heap.size, 0, none⟩ = some (.string (strB x.name)) ∧ W.cell? ⟨w.heap.size, 1, none⟩ = some (.int .i64 x.params) ∧ W.cell? ⟨w.heap.size, 2, none⟩ = some (.int .i64 x.slots) ∧ W.cell? ⟨w.heap.size, 3, none⟩ = some (.int .i64 x.stack) ∧ W.cell? ⟨w.heap.size, 4, none⟩ = some (.bool x.result)), c.1.cell? ⟨w.heap.size, 4, none⟩ = some (.bool x.result) := fun c => c.2.2.2.2.2
  have C0 : Hid (∀ W, Calls Tryz.prog 31 #[.string (strB x.name)] W fun e w' => ∃ v, e = .returned v ∧ w'.ownsRow W.heap.size 5 1 v (txB x.name).length (Lib.byteCells (txB x.name)) ∧ Below W.heap.size W w') := fun W => cText_any x.name j0 W
  have C1 : Hid (∀ W, Calls Tryz.prog 36 #[.int .i64 x.params] W fun e w' => ∃ v, e = .returned v ∧ w'.ownsRow W.heap.size 5 1 v (numB x.params).length (Lib.byteCells (numB x.params)) ∧ Below W.heap.size W w') := fun W => cNumber_any x.params j1.1 j1.2 W
  have C2 : Hid (∀ W, Calls Tryz.prog 36 #[.int .i64 x.slots] W fun e w' => ∃ v, e = .returned v ∧ w'.ownsRow W.heap.size 5 1 v (numB x.slots).length (Lib.byteCells (numB x.slots)) ∧ Below W.heap.size W w') := fun W => cNumber_any x.slots j2.1 j2.2 W
  have C3 : Hid (∀ W, Calls Tryz.prog 36 #[.int .i64 x.stack] W fun e w' => ∃ v, e = .returned v ∧ w'.ownsRow W.heap.size 5 1 v (numB x.stack).length (Lib.byteCells (numB x.stack)) ∧ Below W.heap.size W w') := fun W => cNumber_any x.stack j3.1 j3.2 W
  have C4 : Hid (∀ W, Calls Tryz.prog 75 #[.slice none 0 0, .bool x.result] W fun e w' => ∃ v, e = .returned v ∧ w'.ownsRow W.heap.size 5 1 v (boolB x.result).length (Lib.byteCells (boolB x.result)) ∧ Below W.heap.size W w') := fun W => by
    have := putBool_any (.slice none 0 0) [] x.result W (bytesAt_nil W) (by simp)
    rw [List.nil_append] at this
    exact this
  obtain ⟨L0, hL0⟩ : ∃ L, L = txB x.name := ⟨_, rfl⟩
  rw [← hL0] at C0
  obtain ⟨L1, hL1⟩ : ∃ L, L = numB x.params := ⟨_, rfl⟩
  rw [← hL1] at C1
  obtain ⟨L2, hL2⟩ : ∃ L, L = numB x.slots := ⟨_, rfl⟩
  rw [← hL2] at C2
  obtain ⟨L3, hL3⟩ : ∃ L, L = numB x.stack := ⟨_, rfl⟩
  rw [← hL3] at C3
  obtain ⟨L4, hL4⟩ : ∃ L, L = boolB x.result := ⟨_, rfl⟩
  rw [← hL4] at C4
  have HLS : Hid (L0 = txB x.name ∧ L1 = numB x.params ∧ L2 = numB x.slots ∧ L3 = numB x.stack ∧ L4 = boolB x.result) := ⟨hL0, hL1, hL2, hL3, hL4⟩
  obtain ⟨bb, cc, rfl⟩ := own_form0 hown
  clear hw1 hb1 h1 hown hb hR hL0 hL1 hL2 hL3 hL4 j0 j1 j2 j3
  have HII : Hid (insIn S w (.slice bi ni ci) x.ins) := hii
  have HVV : Hid (varsIn S w (.slice bv nv cv) x.vars) := hvv
  have HSB : Hid (∀ q, S q → q < B) := hSB
  have HI64 : Hid (∀ y ∈ x.ins, I64 y.op ∧ I64 y.a) := hi64
  have HV64 : Hid (∀ y ∈ x.vars, y.name.length ≤ 1048576 ∧ I64 y.slot ∧ I64 y.lo ∧ I64 y.hi) := hv64
  clear hii hvv hSB hi64 hv64
  go_enter Tryz.func35, Tryz.ntmps35
  go_upto_region 1 with fail
  rw [← HW1.out]
  refine mix_begin (n := 19) (S := fun w' => ∃ c : ClsP (fun W => W.cell? ⟨w.heap.size, 0, none⟩ = some (.string (strB x.name)) ∧ W.cell? ⟨w.heap.size, 1, none⟩ = some (.int .i64 x.params) ∧ W.cell? ⟨w.heap.size, 2, none⟩ = some (.int .i64 x.slots) ∧ W.cell? ⟨w.heap.size, 3, none⟩ = some (.int .i64 x.stack) ∧ W.cell? ⟨w.heap.size, 4, none⟩ = some (.bool x.result)), w' = c.1) (by kernel_rfl) rfl rfl ?_
  refine mix_seg (fuel := 8) (fuel' := 19) (idx := [0, 1, 2, 4, 5, 7, 8, 10, 11, 13, 14]) (by kernel_rfl) rfl rfl rfl (fun _ _ _ _ _ h => h) ⟨⟨w1.drew, HCF.out w1.drew (Below.refl _ _).drew⟩, rfl⟩ ?_
  show wpQuiet _ _ _ _ [_, _, _, _, _, _, _, _, _, _, _] _
  iterate 11 (go_big_quiet_step (fail))
  refine wpQuiet_nil ?_
  have HV0 : Hid (Below w1.heap.size w1 w1.drew) := (Below.refl _ _).drew
  clear X0 X1 X2 X3 X4
  refine mix_loud (fuel := 7) (fuel' := 8) (i := 3) rfl (by kernel_rfl) rfl rfl (by rfl) ?_
  intro K hK
  go_simp
  refine (C0.out w1.drew).mono ?_
  rintro e z0 ⟨p0, rfl, ho, hb⟩
  obtain ⟨b0, c0, rfl⟩ := own_form0 ho
  have HO0 : Hid (z0.ownsRow (World.heap w1.drew).size 5 1 (.slice b0 L0.length c0) L0.length (Lib.byteCells L0)) := ho
  have HZB0 : Hid (Below (World.heap w1.drew).size w1.drew z0) := hb
  have HV1 : Hid (Below w1.heap.size w1 z0) := HV0.out.trans (hb.mono HV0.out.size)
  clear ho hb
  (try go_simp)
  refine hK.out _ _ ⟨⟨z0, HCF.out z0 HV1.out⟩, rfl⟩ ?_
  clear hK K
  refine mix_loud (fuel := 6) (fuel' := 7) (i := 6) rfl (by kernel_rfl) rfl rfl (by rfl) ?_
  intro K hK
  go_simp
  refine (C1.out z0).mono ?_
  rintro e z1 ⟨p1, rfl, ho, hb⟩
  obtain ⟨b1, c1, rfl⟩ := own_form0 ho
  have HO1 : Hid (z1.ownsRow (World.heap z0).size 5 1 (.slice b1 L1.length c1) L1.length (Lib.byteCells L1)) := ho
  have HZB1 : Hid (Below (World.heap z0).size z0 z1) := hb
  have HV2 : Hid (Below w1.heap.size w1 z1) := HV1.out.trans (hb.mono HV1.out.size)
  clear ho hb
  (try go_simp)
  refine hK.out _ _ ⟨⟨z1, HCF.out z1 HV2.out⟩, rfl⟩ ?_
  clear hK K
  refine mix_loud (fuel := 5) (fuel' := 6) (i := 9) rfl (by kernel_rfl) rfl rfl (by rfl) ?_
  intro K hK
  go_simp
  refine (C2.out z1).mono ?_
  rintro e z2 ⟨p2, rfl, ho, hb⟩
  obtain ⟨b2, c2, rfl⟩ := own_form0 ho
  have HO2 : Hid (z2.ownsRow (World.heap z1).size 5 1 (.slice b2 L2.length c2) L2.length (Lib.byteCells L2)) := ho
  have HZB2 : Hid (Below (World.heap z1).size z1 z2) := hb
  have HV3 : Hid (Below w1.heap.size w1 z2) := HV2.out.trans (hb.mono HV2.out.size)
  clear ho hb
  (try go_simp)
  refine hK.out _ _ ⟨⟨z2, HCF.out z2 HV3.out⟩, rfl⟩ ?_
  clear hK K
  refine mix_loud (fuel := 4) (fuel' := 5) (i := 12) rfl (by kernel_rfl) rfl rfl (by rfl) ?_
  intro K hK
  go_simp
  refine (C3.out z2).mono ?_
  rintro e z3 ⟨p3, rfl, ho, hb⟩
  obtain ⟨b3, c3, rfl⟩ := own_form0 ho
  have HO3 : Hid (z3.ownsRow (World.heap z2).size 5 1 (.slice b3 L3.length c3) L3.length (Lib.byteCells L3)) := ho
  have HZB3 : Hid (Below (World.heap z2).size z2 z3) := hb
  have HV4 : Hid (Below w1.heap.size w1 z3) := HV3.out.trans (hb.mono HV3.out.size)
  clear ho hb
  (try go_simp)
  refine hK.out _ _ ⟨⟨z3, HCF.out z3 HV4.out⟩, rfl⟩ ?_
  clear hK K
  refine mix_loud (fuel := 3) (fuel' := 4) (i := 15) rfl (by kernel_rfl) rfl rfl (by rfl) ?_
  intro K hK
  go_simp
  refine (C4.out z3).mono ?_
  rintro e z4 ⟨p4, rfl, ho, hb⟩
  obtain ⟨b4, c4, rfl⟩ := own_form0 ho
  have HO4 : Hid (z4.ownsRow (World.heap z3).size 5 1 (.slice b4 L4.length c4) L4.length (Lib.byteCells L4)) := ho
  have HZB4 : Hid (Below (World.heap z3).size z3 z4) := hb
  have HV5 : Hid (Below w1.heap.size w1 z4) := HV4.out.trans (hb.mono HV4.out.size)
  clear ho hb
  (try go_simp)
  refine hK.out _ _ ⟨⟨z4, HCF.out z4 HV5.out⟩, rfl⟩ ?_
  clear hK K
  refine mix_loud (fuel := 2) (fuel' := 3) (i := 16) rfl (by kernel_rfl) rfl rfl (by rfl) ?_
  intro K hK
  go_simp
  obtain ⟨zb, hzb, hbb, -, hgb⟩ := box1 z4 (.cells #[.slice b0 L0.length c0, .slice b1 L1.length c1, .slice b2 L2.length c2, .slice b3 L3.length c3, .slice b4 L4.length c4] 39)
  rw [← hzb]
  have HVb : Hid (Below w1.heap.size w1 zb) := HV5.out.trans (hbb.mono HV5.out.size)
  have HGB : Hid (zb.heap[(World.heap z4).size]? = some (.cells #[.slice b0 L0.length c0, .slice b1 L1.length c1, .slice b2 L2.length c2, .slice b3 L3.length c3, .slice b4 L4.length c4] 39 (0, 0))) := hgb
  have HBBB : Hid (Below (World.heap z4).size z4 zb) := hbb
  refine hK.out _ _ ⟨⟨zb, HCF.out zb HVb.out⟩, rfl⟩ ?_
  clear hK K hzb hbb hgb
  have q0 : zb.ownsRow w.heap.size 5 1 (.slice b0 L0.length c0) L0.length (Lib.byteCells L0) := own_base (own_stay (own_stay (own_stay (own_stay (own_stay HO0.out HZB1.out) HZB2.out) HZB3.out) HZB4.out) HBBB.out) (Nat.le_trans HB1.out.size HV0.out.size)
  have q1 : zb.ownsRow w.heap.size 5 1 (.slice b1 L1.length c1) L1.length (Lib.byteCells L1) := own_base (own_stay (own_stay (own_stay (own_stay HO1.out HZB2.out) HZB3.out) HZB4.out) HBBB.out) (Nat.le_trans HB1.out.size HV1.out.size)
  have q2 : zb.ownsRow w.heap.size 5 1 (.slice b2 L2.length c2) L2.length (Lib.byteCells L2) := own_base (own_stay (own_stay (own_stay HO2.out HZB3.out) HZB4.out) HBBB.out) (Nat.le_trans HB1.out.size HV2.out.size)
  have q3 : zb.ownsRow w.heap.size 5 1 (.slice b3 L3.length c3) L3.length (Lib.byteCells L3) := own_base (own_stay (own_stay HO3.out HZB4.out) HBBB.out) (Nat.le_trans HB1.out.size HV3.out.size)
  have q4 : zb.ownsRow w.heap.size 5 1 (.slice b4 L4.length c4) L4.length (Lib.byteCells L4) := own_base (own_stay HO4.out HBBB.out) (Nat.le_trans HB1.out.size HV4.out.size)
  have cp := cPutOwn_any B (.slice bb us.length cc) us (World.heap z4).size 5 [(.slice b0 L0.length c0, L0), (.slice b1 L1.length c1, L1), (.slice b2 L2.length c2, L2), (.slice b3 L3.length c3, L3), (.slice b4 L4.length c4, L4)] w zb HOWN.out hB (HB1.out.trans (HVb.out.mono HB1.out.size)) HGB.out (fun p hp => by
    simp only [List.mem_cons, List.not_mem_nil, or_false] at hp
    rcases hp with rfl | rfl | rfl | rfl | rfl
    · exact q0
    · exact q1
    · exact q2
    · exact q3
    · exact q4) (by simp) (by
    have h2 := HBb.out
    rw [HRB.out] at h2
    obtain ⟨e0, e1, e2, e3, e4⟩ := HLS.out
    simp only [unB, ← e0, ← e1, ← e2, ← e3, ← e4, List.length_append] at h2
    simp only [flatP, List.map_cons, List.map_nil, List.flatten_cons, List.flatten_nil, List.append_nil, List.length_append]
    omega)
  clear q0 q1 q2 q3 q4
  refine mix_loud (fuel := 1) (fuel' := 2) (i := 17) rfl (by kernel_rfl) rfl rfl (by rfl) ?_
  intro K hK
  go_simp
  refine cp.mono ?_
  clear cp
  rintro e zp ⟨vp, rfl, hop⟩
  have HOP : Hid (OwnTo B w (.slice bb us.length cc) zp vp (us ++ flatP [(.slice b0 L0.length c0, L0), (.slice b1 L1.length c1, L1), (.slice b2 L2.length c2, L2), (.slice b3 L3.length c3, L3), (.slice b4 L4.length c4, L4)])) := OwnTo.behind (HB1.out.trans (HVb.out.mono HB1.out.size)) hop
  have hboxp : zp.heap[w.heap.size]? = some (.cells #[.string (strB x.name), .int .i64 x.params, .int .i64 x.slots, .int .i64 x.stack, .bool x.result, .slice bi ni ci, .slice bv nv cv] 58 (0, 0)) := hop.other (own_stay HOWN.out (HB1.out.trans (HVb.out.mono HB1.out.size))) ((HVb.out.block _ HLT.out).trans HBX.out) (by decide)
  have HBXP : Hid (zp.heap[w.heap.size]? = some (.cells #[.string (strB x.name), .int .i64 x.params, .int .i64 x.slots, .int .i64 x.stack, .bool x.result, .slice bi ni ci, .slice bv nv cv] 58 (0, 0))) := hboxp
  obtain ⟨f0, f1, f2, f3, f4, -, -⟩ := cells7 hboxp
  (try go_simp)
  refine hK.out _ _ ⟨⟨zp, f0, f1, f2, f3, f4⟩, rfl⟩ ?_
  clear hK K hop hboxp f0 f1 f2 f3 f4
  refine mix_seg (fuel := 0) (fuel' := 1) (idx := [18]) (by kernel_rfl) rfl rfl rfl (fun _ _ _ _ _ h => h) ⟨⟨zp, by obtain ⟨f0, f1, f2, f3, f4, -, -⟩ := cells7 HBXP.out; exact ⟨f0, f1, f2, f3, f4⟩⟩, rfl⟩ ?_
  show wpQuiet _ _ _ _ [_] _
  iterate 1 (go_big_quiet_step (fail))
  refine wpQuiet_nil ?_
  refine mix_done (by kernel_rfl) ?_
  obtain ⟨np, bp, cp, rfl⟩ := own_form1 HOP.out.row
  obtain ⟨U1, hU1⟩ : ∃ U, U = us ++ flatP [(.slice b0 L0.length c0, L0), (.slice b1 L1.length c1, L1), (.slice b2 L2.length c2, L2), (.slice b3 L3.length c3, L3), (.slice b4 L4.length c4, L4)] := ⟨_, rfl⟩
  rw [← hU1] at HOP
  have HU1 : Hid (R = (L0 ++ (L1 ++ (L2 ++ (L3 ++ L4)))) ++ (allB insB x.ins ++ allB vrB x.vars) ∧ U1 = us ++ (L0 ++ (L1 ++ (L2 ++ (L3 ++ L4))))) := by
    have h8 := HRB.out
    obtain ⟨e0, e1, e2, e3, e4⟩ := HLS.out
    refine ⟨?_, ?_⟩
    · rw [h8, e0, e1, e2, e3, e4]
      simp only [unB, List.append_assoc]
    · rw [hU1]
      simp only [flatP, List.map_cons, List.map_nil, List.flatten_cons, List.flatten_nil, List.append_nil]
  have HSZ : Hid (U1.length + (allB insB x.ins).length + (allB vrB x.vars).length ≤ 140737488355328) := by
    have h1 := HBb.out
    rw [HU1.out.1] at h1
    show _ ≤ _
    rw [HU1.out.2]
    simp only [List.length_append] at h1 ⊢
    omega
  have hlow := HOP.out.low HOWN.out hB
  have ca := cAllIns_any B (.slice bp np cp) U1 S x.ins (.slice bi ni ci) insB zp HOP.out.row (Nat.le_trans hB HOP.out.grown.size) (rowIn.kept HII.out (insE_keeps S) hlow.size fun q hq _ => hlow.block q (HSB.out q hq)) HSB.out (fun i hi W v0 us0 r1 r2 _ r4 => cPutIns_any B v0 us0 x.ins[i] W r1 r2 (HI64.out _ (List.getElem_mem hi)).1 (HI64.out _ (List.getElem_mem hi)).2 r4) (by have := HSZ.out; omega)
  obtain ⟨-, -, -, -, -, a5, a6⟩ := cells7 HBXP.out
  clear hU1 hlow
  go_wp2_with fail
  refine ca.mono ?_
  clear ca a5 a6
  rintro e z8 ⟨v8, rfl, h8⟩
  have HBX8 : Hid (z8.heap[w.heap.size]? = some (.cells #[.string (strB x.name), .int .i64 x.params, .int .i64 x.slots, .int .i64 x.stack, .bool x.result, .slice bi ni ci, .slice bv nv cv] 58 (0, 0))) := h8.other HOP.out.row HBXP.out (by decide)
  have H8 : Hid (OwnTo B w (.slice bb us.length cc) z8 v8 (U1 ++ allB insB x.ins)) := HOP.out.trans h8
  obtain ⟨n8, b8, c8, rfl⟩ := own_form1 h8.row
  have hlow := H8.out.low HOWN.out hB
  have cv9 := cAllVar_any B (.slice b8 n8 c8) (U1 ++ allB insB x.ins) S x.vars (.slice bv nv cv) vrB z8 H8.out.row (Nat.le_trans hB H8.out.grown.size) (rowIn.kept HVV.out (varE_keeps S) hlow.size fun q hq _ => hlow.block q (HSB.out q hq)) HSB.out (fun i hi W v0 us0 r1 r2 _ r4 => cPutVar_any B v0 us0 x.vars[i] W r1 r2 (HV64.out _ (List.getElem_mem hi)).1 (HV64.out _ (List.getElem_mem hi)).2.1 (HV64.out _ (List.getElem_mem hi)).2.2.1 (HV64.out _ (List.getElem_mem hi)).2.2.2 r4) (by have := HSZ.out; rw [List.length_append]; omega)
  obtain ⟨-, -, -, -, -, a5, a6⟩ := cells7 HBX8.out
  clear h8 hlow
  go_wp2_with fail
  refine cv9.mono ?_
  clear cv9 a5 a6
  rintro e z9 ⟨v9, rfl, h9⟩
  have H9 : Hid (OwnTo B w (.slice bb us.length cc) z9 v9 (us ++ R)) := by
    have h1 := H8.out.trans h9
    rw [HU1.out.2] at h1
    rw [HU1.out.1]
    simp only [List.append_assoc] at h1 ⊢
    exact h1
  clear h9
  go_wp2
  go_ret
  exact ⟨_, rfl, H9.out⟩
end Go.Proofs.YtechkkphbajmoaaGreatDoor
/- code: how many there are, and each, put behind bytes of one's own: at string. -/
namespace Go.Proofs.YtechkkphbajmoaaGreatDoor
open Go.RowKit Go.Shelf

set_option maxRecDepth 100000 in
set_option maxHeartbeats 8000000 in
theorem cAllStr1_any (B : Nat) (v : Value) (us : List UInt8) (S : Nat → Prop) (l : List (List UInt8)) (rv : Value) (pc : (List UInt8) → List UInt8) (w : World) (hown : w.ownsRow B 5 1 v us.length (Lib.byteCells us)) (hB : B ≤ w.heap.size) (hin : strsIn S w rv l) (hSB : ∀ q, S q → q < B)
    (hk : ∀ i (hi : i < l.length) W v0 us0, W.ownsRow B 5 1 v0 us0.length (Lib.byteCells us0) → B ≤ W.heap.size → Below B w W → us0.length + (pc l[i]).length ≤ 140737488355328 → Calls Tryz.prog 29 #[v0, .string (strB l[i])] W fun e w' => ∃ v', e = .returned v' ∧ OwnTo B W v0 w' v' (us0 ++ pc l[i])) (hb : us.length + (allB pc l).length ≤ 140737488355328) :
    Calls Tryz.prog 28 #[v, rv, .func (.func 29) #[] #[]] w fun e w' => ∃ v', e = .returned v' ∧ OwnTo B w v w' v' (us ++ allB pc l) := by
  obtain ⟨base, cap, rfl, hc1, hc2, hat⟩ := hin.at
  have HK : Hid (∀ i (hi : i < l.length) W v0 us0, W.ownsRow B 5 1 v0 us0.length (Lib.byteCells us0) → B ≤ W.heap.size → Below B w W → us0.length + (pc l[i]).length ≤ 140737488355328 → Calls Tryz.prog 29 #[v0, .string (strB l[i])] W fun e w' => ∃ v', e = .returned v' ∧ OwnTo B W v0 w' v' (us0 ++ pc l[i])) := hk
  have HAT : Hid (∀ i (hi : i < l.length), ∃ b o, base = some ⟨b, o, none⟩ ∧ S b ∧ b < w.heap.size ∧ strE w b (o + i * 1) l[i]) := hat
  have hln : l.length ≤ 9223372036854775807 := by have : maxLen ≤ 9223372036854775807 := by decide
                                                  omega
  have HOWN : Hid (w.ownsRow B 5 1 v us.length (Lib.byteCells us)) := hown
  have HSB : Hid (∀ q, S q → q < B) := hSB
  have HBb : Hid (us.length + (numB l.length).length + (l.map pc).flatten.length ≤ 140737488355328) := by
    have := hb; unfold allB at this; rw [List.length_append] at this; show _ ≤ _; omega
  have c1 := cNumber_any (l.length : Int) (by omega) (by omega) w
  obtain ⟨L, hL⟩ : ∃ L, L = numB (l.length : Int) := ⟨_, rfl⟩
  rw [← hL] at c1 HBb
  have HRES : Hid (allB pc l = L ++ (l.map pc).flatten) := by rw [hL]; exact rfl
  obtain ⟨R, hR⟩ : ∃ R, R = allB pc l := ⟨_, rfl⟩
  rw [← hR] at HRES ⊢
  obtain ⟨bb, cc, rfl⟩ := own_form0 hown
  clear hat hin hk hown hb hL hSB hR
  go_enter Tryz.func28, Tryz.ntmps28
  go_wp2_with fail
  refine c1.mono ?_
  clear c1
  rintro e w1 ⟨v1, rfl, ho, hb1⟩
  obtain ⟨b1, c1, rfl⟩ := own_form0 ho
  have HO : Hid (w1.ownsRow w.heap.size 5 1 (.slice b1 L.length c1) L.length (Lib.byteCells L)) := ho
  have HB1 : Hid (Below w.heap.size w w1) := hb1
  clear ho hb1
  go_wp2_with fail
  obtain ⟨w2, hw2, hb2, -, hg2⟩ := box1 w1 (.cells #[.slice b1 L.length c1] 39)
  rw [← hw2]
  refine (cPutOwn_any B _ us w1.heap.size 1 [(.slice b1 L.length c1, L)] w w2 HOWN.out hB (HB1.out.trans (hb2.mono HB1.out.size)) hg2 (fun p hp => ?_) (by simp) (by have := HBb.out; simp [flatP]; omega)).mono ?_
  · obtain rfl : p = (.slice b1 L.length c1, L) := by simpa using hp
    exact own_stay HO.out hb2
  rintro e w3 ⟨v3, rfl, h3⟩
  have H3 : Hid (OwnTo B w (.slice bb us.length cc) w3 v3 (us ++ L)) := by
    have := OwnTo.behind (HB1.out.trans (hb2.mono HB1.out.size)) h3
    simp only [flatP, List.map_cons, List.map_nil, List.flatten_cons, List.flatten_nil, List.append_nil] at this
    exact this
  clear hw2 hb2 hg2 h3
  go_wp2
  go_loopw [0, 17] (fun v0 vi wr => ∃ i : Nat, i ≤ l.length ∧ vi = .int .i64 i ∧ OwnTo B w (.slice bb us.length cc) wr v0 (us ++ (L ++ ((l.take i).map pc).flatten))) (fun _ vi _ => l.length - (intOf vi).toNat)
  case atStart => exact ⟨0, Nat.zero_le _, rfl, by simpa using H3.out⟩
  case round =>
    obtain ⟨i, hi, rfl, hJ⟩ := hrel
    have HJ : Hid (OwnTo B w (.slice bb us.length cc) wr u0 (us ++ (L ++ ((l.take i).map pc).flatten))) := hJ
    have hbr := hJ.low HOWN.out hB
    have HBR : Hid (Below B w wr) := hbr
    obtain ⟨n0, b0, c0, rfl⟩ := own_form1 hJ.row
    by_cases hlt : i < l.length
    · have hi2 : (i : Int) < l.length := by omega
      obtain ⟨b, o, rfl, hSb, hbl, hc⟩ := HAT.out i hlt
      have e0 : w.cell? ⟨b, o + i, none⟩ = some (.string (strB l[i])) := by have := hc; rw [Nat.mul_one] at this; exact this
      obtain ⟨s, hs⟩ : ∃ s, s = l[i] := ⟨_, rfl⟩
      have HS : Hid (s = l[i]) := hs
      have hcc : ∀ q, wr.cell? ⟨b, q, none⟩ = w.cell? ⟨b, q, none⟩ := fun q => below_cell hbr (HSB.out b hSb)
      rw [← hs] at e0
      rw [← hcc] at e0
      have hsz : (us ++ (L ++ ((l.take i).map pc).flatten)).length + (pc l[i]).length ≤ 140737488355328 := by
        have h1 := flat_le pc l (i + 1)
        rw [flat_succ pc l hlt, List.length_append] at h1
        have := HBb.out
        rw [List.length_append, List.length_append]
        omega
      have cis := HK.out i hlt wr _ _ hJ.row (Nat.le_trans hB hJ.grown.size) hbr hsz
      rw [← hs] at cis
      clear hs hcc hsz hJ hbr
      go_wp2_with fail
      refine cis.mono ?_
      clear cis
      rintro e w5 ⟨v5, rfl, h5⟩
      have HNX : Hid (OwnTo B w (.slice bb us.length cc) w5 v5 (us ++ (L ++ ((l.take (i + 1)).map pc).flatten))) := by
        rw [flat_succ pc l hlt, ← List.append_assoc L, ← List.append_assoc us, ← HS.out]
        exact HJ.out.trans h5
      clear h5
      go_wp2
      exact ⟨⟨i + 1, by omega, by go_num, HNX.out⟩, by simp [intOf]; omega⟩
    · obtain rfl : i = l.length := by omega
      have hi2 : ¬ (l.length : Int) < l.length := by omega
      have HE : Hid (OwnTo B w (.slice bb us.length cc) wr (.slice b0 n0 c0) (us ++ R)) := by
        have := HJ.out
        rw [List.take_length] at this
        rw [HRES.out]
        exact this
      clear hJ hbr
      go_wp2
      go_ret
      exact ⟨_, rfl, HE.out⟩
end Go.Proofs.YtechkkphbajmoaaGreatDoor
/- code: how many there are, and each, put behind bytes of one's own: at hindcast/api.Shape. -/
namespace Go.Proofs.YtechkkphbajmoaaGreatDoor
open Go.RowKit Go.Shelf

set_option maxRecDepth 100000 in
set_option maxHeartbeats 8000000 in
theorem cAllShape_any (B : Nat) (v : Value) (us : List UInt8) (S : Nat → Prop) (l : List Sh) (rv : Value) (pc : Sh → List UInt8) (w : World) (hown : w.ownsRow B 5 1 v us.length (Lib.byteCells us)) (hB : B ≤ w.heap.size) (hin : shapesIn S w rv l) (hSB : ∀ q, S q → q < B)
    (hk : ∀ i (hi : i < l.length) bf nf cf W v0 us0, W.ownsRow B 5 1 v0 us0.length (Lib.byteCells us0) → B ≤ W.heap.size → Below B w W → us0.length + (pc l[i]).length ≤ 140737488355328 → strsIn S w (.slice bf nf cf) l[i].fields → Calls Tryz.prog 33 #[v0, shV l[i] (.slice bf nf cf)] W fun e w' => ∃ v', e = .returned v' ∧ OwnTo B W v0 w' v' (us0 ++ pc l[i])) (hb : us.length + (allB pc l).length ≤ 140737488355328) :
    Calls Tryz.prog 32 #[v, rv, .func (.func 33) #[] #[]] w fun e w' => ∃ v', e = .returned v' ∧ OwnTo B w v w' v' (us ++ allB pc l) := by
  obtain ⟨base, cap, rfl, hc1, hc2, hat⟩ := hin.at
  have HK : Hid (∀ i (hi : i < l.length) bf nf cf W v0 us0, W.ownsRow B 5 1 v0 us0.length (Lib.byteCells us0) → B ≤ W.heap.size → Below B w W → us0.length + (pc l[i]).length ≤ 140737488355328 → strsIn S w (.slice bf nf cf) l[i].fields → Calls Tryz.prog 33 #[v0, shV l[i] (.slice bf nf cf)] W fun e w' => ∃ v', e = .returned v' ∧ OwnTo B W v0 w' v' (us0 ++ pc l[i])) := hk
  have HAT : Hid (∀ i (hi : i < l.length), ∃ b o, base = some ⟨b, o, none⟩ ∧ S b ∧ b < w.heap.size ∧ (shE S) w b (o + i * 2) l[i]) := hat
  have hln : l.length ≤ 9223372036854775807 := by have : maxLen ≤ 9223372036854775807 := by decide
                                                  omega
  have HOWN : Hid (w.ownsRow B 5 1 v us.length (Lib.byteCells us)) := hown
  have HSB : Hid (∀ q, S q → q < B) := hSB
  have HBb : Hid (us.length + (numB l.length).length + (l.map pc).flatten.length ≤ 140737488355328) := by
    have := hb; unfold allB at this; rw [List.length_append] at this; show _ ≤ _; omega
  have c1 := cNumber_any (l.length : Int) (by omega) (by omega) w
  obtain ⟨L, hL⟩ : ∃ L, L = numB (l.length : Int) := ⟨_, rfl⟩
  rw [← hL] at c1 HBb
  have HRES : Hid (allB pc l = L ++ (l.map pc).flatten) := by rw [hL]; exact rfl
  obtain ⟨R, hR⟩ : ∃ R, R = allB pc l := ⟨_, rfl⟩
  rw [← hR] at HRES ⊢
  obtain ⟨bb, cc, rfl⟩ := own_form0 hown
  clear hat hin hk hown hb hL hSB hR
  go_enter Tryz.func32, Tryz.ntmps32
  go_wp2_with fail
  refine c1.mono ?_
  clear c1
  rintro e w1 ⟨v1, rfl, ho, hb1⟩
  obtain ⟨b1, c1, rfl⟩ := own_form0 ho
  have HO : Hid (w1.ownsRow w.heap.size 5 1 (.slice b1 L.length c1) L.length (Lib.byteCells L)) := ho
  have HB1 : Hid (Below w.heap.size w w1) := hb1
  clear ho hb1
  go_wp2_with fail
  obtain ⟨w2, hw2, hb2, -, hg2⟩ := box1 w1 (.cells #[.slice b1 L.length c1] 39)
  rw [← hw2]
  refine (cPutOwn_any B _ us w1.heap.size 1 [(.slice b1 L.length c1, L)] w w2 HOWN.out hB (HB1.out.trans (hb2.mono HB1.out.size)) hg2 (fun p hp => ?_) (by simp) (by have := HBb.out; simp [flatP]; omega)).mono ?_
  · obtain rfl : p = (.slice b1 L.length c1, L) := by simpa using hp
    exact own_stay HO.out hb2
  rintro e w3 ⟨v3, rfl, h3⟩
  have H3 : Hid (OwnTo B w (.slice bb us.length cc) w3 v3 (us ++ L)) := by
    have := OwnTo.behind (HB1.out.trans (hb2.mono HB1.out.size)) h3
    simp only [flatP, List.map_cons, List.map_nil, List.flatten_cons, List.flatten_nil, List.append_nil] at this
    exact this
  clear hw2 hb2 hg2 h3
  go_wp2
  go_loopw [0, 17] (fun v0 vi wr => ∃ i : Nat, i ≤ l.length ∧ vi = .int .i64 i ∧ OwnTo B w (.slice bb us.length cc) wr v0 (us ++ (L ++ ((l.take i).map pc).flatten))) (fun _ vi _ => l.length - (intOf vi).toNat)
  case atStart => exact ⟨0, Nat.zero_le _, rfl, by simpa using H3.out⟩
  case round =>
    obtain ⟨i, hi, rfl, hJ⟩ := hrel
    have HJ : Hid (OwnTo B w (.slice bb us.length cc) wr u0 (us ++ (L ++ ((l.take i).map pc).flatten))) := hJ
    have hbr := hJ.low HOWN.out hB
    have HBR : Hid (Below B w wr) := hbr
    obtain ⟨n0, b0, c0, rfl⟩ := own_form1 hJ.row
    by_cases hlt : i < l.length
    · have hi2 : (i : Int) < l.length := by omega
      obtain ⟨b, o, rfl, hSb, hbl, hc⟩ := HAT.out i hlt
      obtain ⟨e0, vf, e1, hf⟩ := hc
      obtain ⟨bf, cf, rfl, -⟩ := hf.at
      obtain ⟨nf, hnf⟩ : ∃ n, n = l[i].fields.length := ⟨_, rfl⟩
      rw [← hnf] at e1 hf
      clear hnf
      obtain ⟨s, hs⟩ : ∃ s, s = l[i] := ⟨_, rfl⟩
      have HS : Hid (s = l[i]) := hs
      have hcc : ∀ q, wr.cell? ⟨b, q, none⟩ = w.cell? ⟨b, q, none⟩ := fun q => below_cell hbr (HSB.out b hSb)
      rw [← hs] at e0
      rw [← hcc] at e0 e1
      have hsz : (us ++ (L ++ ((l.take i).map pc).flatten)).length + (pc l[i]).length ≤ 140737488355328 := by
        have h1 := flat_le pc l (i + 1)
        rw [flat_succ pc l hlt, List.length_append] at h1
        have := HBb.out
        rw [List.length_append, List.length_append]
        omega
      obtain ⟨w4, hw4, hb4, HZ4, h4⟩ := box1 wr (.cells #[.string (strB s.name), .slice bf nf cf] 77)
      have HW4 : Hid (w4 = wr.alloc (.cells #[.string (strB s.name), .slice bf nf cf] 77)) := hw4
      have HB4 : Hid (Below wr.heap.size wr w4) := hb4
      have cis := HK.out i hlt bf nf cf w4 _ _ (own_stay hJ.row hb4) (Nat.le_trans hB (Nat.le_trans hJ.grown.size hb4.size)) (hbr.trans (hb4.mono (Nat.le_trans hB hJ.grown.size))) hsz hf
      clear hw4 hb4 HZ4 h4
      rw [← hs] at cis
      clear hs hcc hsz hJ hbr
      go_wp2_with fail
      rw [← HW4.out]
      refine cis.mono ?_
      clear cis
      rintro e w5 ⟨v5, rfl, h5⟩
      have HNX : Hid (OwnTo B w (.slice bb us.length cc) w5 v5 (us ++ (L ++ ((l.take (i + 1)).map pc).flatten))) := by
        rw [flat_succ pc l hlt, ← List.append_assoc L, ← List.append_assoc us, ← HS.out]
        exact HJ.out.trans (OwnTo.behind HB4.out h5)
      clear h5
      go_wp2
      exact ⟨⟨i + 1, by omega, by go_num, HNX.out⟩, by simp [intOf]; omega⟩
    · obtain rfl : i = l.length := by omega
      have hi2 : ¬ (l.length : Int) < l.length := by omega
      have HE : Hid (OwnTo B w (.slice bb us.length cc) wr (.slice b0 n0 c0) (us ++ R)) := by
        have := HJ.out
        rw [List.take_length] at this
        rw [HRES.out]
        exact this
      clear hJ hbr
      go_wp2
      go_ret
      exact ⟨_, rfl, HE.out⟩
end Go.Proofs.YtechkkphbajmoaaGreatDoor
/- code: how many there are, and each, put behind bytes of one's own: at hindcast/api.Unit. -/
namespace Go.Proofs.YtechkkphbajmoaaGreatDoor
open Go.RowKit Go.Shelf

set_option maxRecDepth 100000 in
set_option maxHeartbeats 8000000 in
theorem cAllUnit_any (B : Nat) (v : Value) (us : List UInt8) (S : Nat → Prop) (l : List Un) (rv : Value) (pc : Un → List UInt8) (w : World) (hown : w.ownsRow B 5 1 v us.length (Lib.byteCells us)) (hB : B ≤ w.heap.size) (hin : unitsIn S w rv l) (hSB : ∀ q, S q → q < B)
    (hk : ∀ i (hi : i < l.length) bi ni ci bv nv cv W v0 us0, W.ownsRow B 5 1 v0 us0.length (Lib.byteCells us0) → B ≤ W.heap.size → Below B w W → us0.length + (pc l[i]).length ≤ 140737488355328 → insIn S w (.slice bi ni ci) l[i].ins → varsIn S w (.slice bv nv cv) l[i].vars → Calls Tryz.prog 35 #[v0, unV l[i] (.slice bi ni ci) (.slice bv nv cv)] W fun e w' => ∃ v', e = .returned v' ∧ OwnTo B W v0 w' v' (us0 ++ pc l[i])) (hb : us.length + (allB pc l).length ≤ 140737488355328) :
    Calls Tryz.prog 34 #[v, rv, .func (.func 35) #[] #[]] w fun e w' => ∃ v', e = .returned v' ∧ OwnTo B w v w' v' (us ++ allB pc l) := by
  obtain ⟨base, cap, rfl, hc1, hc2, hat⟩ := hin.at
  have HK : Hid (∀ i (hi : i < l.length) bi ni ci bv nv cv W v0 us0, W.ownsRow B 5 1 v0 us0.length (Lib.byteCells us0) → B ≤ W.heap.size → Below B w W → us0.length + (pc l[i]).length ≤ 140737488355328 → insIn S w (.slice bi ni ci) l[i].ins → varsIn S w (.slice bv nv cv) l[i].vars → Calls Tryz.prog 35 #[v0, unV l[i] (.slice bi ni ci) (.slice bv nv cv)] W fun e w' => ∃ v', e = .returned v' ∧ OwnTo B W v0 w' v' (us0 ++ pc l[i])) := hk
  have HAT : Hid (∀ i (hi : i < l.length), ∃ b o, base = some ⟨b, o, none⟩ ∧ S b ∧ b < w.heap.size ∧ (unE S) w b (o + i * 7) l[i]) := hat
  have hln : l.length ≤ 9223372036854775807 := by have : maxLen ≤ 9223372036854775807 := by decide
                                                  omega
  have HOWN : Hid (w.ownsRow B 5 1 v us.length (Lib.byteCells us)) := hown
  have HSB : Hid (∀ q, S q → q < B) := hSB
  have HBb : Hid (us.length + (numB l.length).length + (l.map pc).flatten.length ≤ 140737488355328) := by
    have := hb; unfold allB at this; rw [List.length_append] at this; show _ ≤ _; omega
  have c1 := cNumber_any (l.length : Int) (by omega) (by omega) w
  obtain ⟨L, hL⟩ : ∃ L, L = numB (l.length : Int) := ⟨_, rfl⟩
  rw [← hL] at c1 HBb
  have HRES : Hid (allB pc l = L ++ (l.map pc).flatten) := by rw [hL]; exact rfl
  obtain ⟨R, hR⟩ : ∃ R, R = allB pc l := ⟨_, rfl⟩
  rw [← hR] at HRES ⊢
  obtain ⟨bb, cc, rfl⟩ := own_form0 hown
  clear hat hin hk hown hb hL hSB hR
  go_enter Tryz.func34, Tryz.ntmps34
  go_wp2_with fail
  refine c1.mono ?_
  clear c1
  rintro e w1 ⟨v1, rfl, ho, hb1⟩
  obtain ⟨b1, c1, rfl⟩ := own_form0 ho
  have HO : Hid (w1.ownsRow w.heap.size 5 1 (.slice b1 L.length c1) L.length (Lib.byteCells L)) := ho
  have HB1 : Hid (Below w.heap.size w w1) := hb1
  clear ho hb1
  go_wp2_with fail
  obtain ⟨w2, hw2, hb2, -, hg2⟩ := box1 w1 (.cells #[.slice b1 L.length c1] 39)
  rw [← hw2]
  refine (cPutOwn_any B _ us w1.heap.size 1 [(.slice b1 L.length c1, L)] w w2 HOWN.out hB (HB1.out.trans (hb2.mono HB1.out.size)) hg2 (fun p hp => ?_) (by simp) (by have := HBb.out; simp [flatP]; omega)).mono ?_
  · obtain rfl : p = (.slice b1 L.length c1, L) := by simpa using hp
    exact own_stay HO.out hb2
  rintro e w3 ⟨v3, rfl, h3⟩
  have H3 : Hid (OwnTo B w (.slice bb us.length cc) w3 v3 (us ++ L)) := by
    have := OwnTo.behind (HB1.out.trans (hb2.mono HB1.out.size)) h3
    simp only [flatP, List.map_cons, List.map_nil, List.flatten_cons, List.flatten_nil, List.append_nil] at this
    exact this
  clear hw2 hb2 hg2 h3
  go_wp2
  go_loopw [0, 17] (fun v0 vi wr => ∃ i : Nat, i ≤ l.length ∧ vi = .int .i64 i ∧ OwnTo B w (.slice bb us.length cc) wr v0 (us ++ (L ++ ((l.take i).map pc).flatten))) (fun _ vi _ => l.length - (intOf vi).toNat)
  case atStart => exact ⟨0, Nat.zero_le _, rfl, by simpa using H3.out⟩
  case round =>
    obtain ⟨i, hi, rfl, hJ⟩ := hrel
    have HJ : Hid (OwnTo B w (.slice bb us.length cc) wr u0 (us ++ (L ++ ((l.take i).map pc).flatten))) := hJ
    have hbr := hJ.low HOWN.out hB
    have HBR : Hid (Below B w wr) := hbr
    obtain ⟨n0, b0, c0, rfl⟩ := own_form1 hJ.row
    by_cases hlt : i < l.length
    · have hi2 : (i : Int) < l.length := by omega
      obtain ⟨b, o, rfl, hSb, hbl, hc⟩ := HAT.out i hlt
      obtain ⟨e0, e1, e2, e3, e4, ⟨vi, e5, hvi⟩, vv, e6, hvv⟩ := hc
      obtain ⟨bi, ci, rfl, -⟩ := hvi.at
      obtain ⟨bv, cv, rfl, -⟩ := hvv.at
      obtain ⟨ni, hni⟩ : ∃ n, n = l[i].ins.length := ⟨_, rfl⟩
      obtain ⟨nv, hnv⟩ : ∃ n, n = l[i].vars.length := ⟨_, rfl⟩
      rw [← hni] at e5 hvi
      rw [← hnv] at e6 hvv
      clear hni hnv
      obtain ⟨s, hs⟩ : ∃ s, s = l[i] := ⟨_, rfl⟩
      have HS : Hid (s = l[i]) := hs
      have hcc : ∀ q, wr.cell? ⟨b, q, none⟩ = w.cell? ⟨b, q, none⟩ := fun q => below_cell hbr (HSB.out b hSb)
      rw [← hs] at e0 e1 e2 e3 e4
      rw [← hcc] at e0 e1 e2 e3 e4 e5 e6
      have hsz : (us ++ (L ++ ((l.take i).map pc).flatten)).length + (pc l[i]).length ≤ 140737488355328 := by
        have h1 := flat_le pc l (i + 1)
        rw [flat_succ pc l hlt, List.length_append] at h1
        have := HBb.out
        rw [List.length_append, List.length_append]
        omega
      obtain ⟨w4, hw4, hb4, HZ4, h4⟩ := box1 wr (.cells #[.string (strB s.name), .int .i64 s.params, .int .i64 s.slots, .int .i64 s.stack, .bool s.result, .slice bi ni ci, .slice bv nv cv] 58)
      have HW4 : Hid (w4 = wr.alloc (.cells #[.string (strB s.name), .int .i64 s.params, .int .i64 s.slots, .int .i64 s.stack, .bool s.result, .slice bi ni ci, .slice bv nv cv] 58)) := hw4
      have HB4 : Hid (Below wr.heap.size wr w4) := hb4
      have cis := HK.out i hlt bi ni ci bv nv cv w4 _ _ (own_stay hJ.row hb4) (Nat.le_trans hB (Nat.le_trans hJ.grown.size hb4.size)) (hbr.trans (hb4.mono (Nat.le_trans hB hJ.grown.size))) hsz hvi hvv
      clear hw4 hb4 HZ4 h4
      rw [← hs] at cis
      clear hs hcc hsz hJ hbr
      go_wp2_with fail
      rw [← HW4.out]
      refine cis.mono ?_
      clear cis
      rintro e w5 ⟨v5, rfl, h5⟩
      have HNX : Hid (OwnTo B w (.slice bb us.length cc) w5 v5 (us ++ (L ++ ((l.take (i + 1)).map pc).flatten))) := by
        rw [flat_succ pc l hlt, ← List.append_assoc L, ← List.append_assoc us, ← HS.out]
        exact HJ.out.trans (OwnTo.behind HB4.out h5)
      clear h5
      go_wp2
      exact ⟨⟨i + 1, by omega, by go_num, HNX.out⟩, by simp [intOf]; omega⟩
    · obtain rfl : i = l.length := by omega
      have hi2 : ¬ (l.length : Int) < l.length := by omega
      have HE : Hid (OwnTo B w (.slice bb us.length cc) wr (.slice b0 n0 c0) (us ++ R)) := by
        have := HJ.out
        rw [List.take_length] at this
        rw [HRES.out]
        exact this
      clear hJ hbr
      go_wp2
      go_ret
      exact ⟨_, rfl, HE.out⟩
end Go.Proofs.YtechkkphbajmoaaGreatDoor
