/- code: pieces that were just made, put behind bytes of one's own. -/
import Derived.Test.YtechkkphbajmoaaGreatDoorCPut
import Derived.Test.YtechkkphbajmoaaGreatDoorMB
namespace Go.Proofs.YtechkkphbajmoaaGreatDoor
open Go.RowKit Go.Shelf

def flatP (ps : List (Value × List UInt8)) : List UInt8 := (ps.map (fun p => p.2)).flatten
theorem catB_flat (ps : List (Value × List UInt8)) : catB ps ps.length = flatP ps := by unfold catB flatP; rw [List.take_length]

theorem cPutOwn_any (B : Nat) (v : Value) (us : List UInt8) (g c : Nat) (ps : List (Value × List UInt8)) (w0 W : World) (hown : w0.ownsRow B 5 1 v us.length (Lib.byteCells us)) (hB : B ≤ w0.heap.size) (hW : Below w0.heap.size w0 W)
    (hg : W.heap[g]? = some (.cells (ps.map (fun p => p.1)).toArray 39 (0, 0))) (hps : ∀ p ∈ ps, W.ownsRow w0.heap.size 5 1 p.1 p.2.length (Lib.byteCells p.2))
    (hm : ps.length ≤ 1000) (hb : us.length + (flatP ps).length ≤ 140737488355328) :
    Calls Tryz.prog 30 #[v, .slice (some ⟨g, 0, none⟩) ps.length c] W fun e w' => ∃ v', e = .returned v' ∧ OwnTo B W v w' v' (us ++ flatP ps) := by
  have h := cPut_any B v us g c ps _ W (own_stay hown hW) (Nat.le_trans hB hW.size) (fun j p hj => ?_) hg (fun p hp => bytesAt_own (hps p hp)) (fun p hp a n c' e => ?_) hm (by rw [catB_flat]; exact hb)
  · rw [catB_flat] at h
    exact h
  · have hj2 : j < ps.length := (List.getElem?_eq_some_iff.1 hj).1
    have : ((ps.map (fun p => p.1)).toArray)[j]? = some p.1 := by
      rw [List.getElem?_toArray, List.getElem?_map, hj]; rfl
    simp only [World.cell?, hg]
    simpa using this
  · have h1 := (hps p hp).lt a.block (by rw [e]; rfl)
    refine ⟨fun e2 => ?_, h1.2⟩
    have := (hown.lt a.block e2).2
    omega

set_option maxRecDepth 100000 in
set_option maxHeartbeats 4000000 in
theorem cPutStr1_any (B : Nat) (v : Value) (us : List UInt8) (s : List UInt8) (hl : s.length ≤ 1048576) (w : World) (hown : w.ownsRow B 5 1 v us.length (Lib.byteCells us)) (hB : B ≤ w.heap.size) (hb : us.length + (txB s).length ≤ 140737488355328) :
    Calls Tryz.prog 29 #[v, .string (strB s)] w fun e w' => ∃ v', e = .returned v' ∧ OwnTo B w v w' v' (us ++ txB s) := by
  have c := cText_any s hl w
  obtain ⟨L, hL⟩ : ∃ L, L = txB s := ⟨_, rfl⟩
  rw [← hL] at c hb ⊢
  have HOWN : Hid (w.ownsRow B 5 1 v us.length (Lib.byteCells us)) := hown
  have HBb : Hid (us.length + L.length ≤ 140737488355328) := hb
  obtain ⟨bb, cc, rfl⟩ := own_form0 hown
  clear hL hl hown hb
  go_enter Tryz.func29, Tryz.ntmps29
  go_wp2_with fail
  refine c.mono ?_
  clear c
  rintro e w1 ⟨v1, rfl, ho, hb1⟩
  obtain ⟨b1, c1, rfl⟩ := own_form0 ho
  have HO : Hid (w1.ownsRow w.heap.size 5 1 (.slice b1 L.length c1) L.length (Lib.byteCells L)) := ho
  have HB1 : Hid (Below w.heap.size w w1) := hb1
  clear ho hb1
  go_wp2_with fail
  obtain ⟨w2, hw2, hb2, -, hg2⟩ := box1 w1 (.cells #[.slice b1 L.length c1] 39)
  rw [← hw2]
  refine (cPutOwn_any B _ us w1.heap.size 1 [(.slice b1 L.length c1, L)] w w2 HOWN.out hB (HB1.out.trans (hb2.mono HB1.out.size)) hg2 (fun p hp => ?_) (by simp) (by simp [flatP]; exact HBb.out)).mono ?_
  · obtain rfl : p = (.slice b1 L.length c1, L) := by simpa using hp
    exact own_stay HO.out hb2
  rintro e w3 ⟨v3, rfl, h3⟩
  have H3 : Hid (OwnTo B w (.slice bb us.length cc) w3 v3 (us ++ flatP [(.slice b1 L.length c1, L)])) := OwnTo.behind (HB1.out.trans (hb2.mono HB1.out.size)) h3
  clear hw2 hb2 hg2
  clear h3
  go_wp2
  go_ret
  refine ⟨_, rfl, ?_⟩
  have := H3.out
  simp only [flatP, List.map_cons, List.map_nil, List.flatten_cons, List.flatten_nil, List.append_nil] at this
  exact this

set_option maxRecDepth 100000 in
set_option maxHeartbeats 4000000 in
theorem cPutStr2_any (B : Nat) (v : Value) (us : List UInt8) (s : List UInt8) (hl : s.length ≤ 1048576) (w : World) (hown : w.ownsRow B 5 1 v us.length (Lib.byteCells us)) (hB : B ≤ w.heap.size) (hb : us.length + (txB s).length ≤ 140737488355328) :
    Calls Tryz.prog 74 #[v, .string (strB s)] w fun e w' => ∃ v', e = .returned v' ∧ OwnTo B w v w' v' (us ++ txB s) := by
  have c := cText_any s hl w
  obtain ⟨L, hL⟩ : ∃ L, L = txB s := ⟨_, rfl⟩
  rw [← hL] at c hb ⊢
  have HOWN : Hid (w.ownsRow B 5 1 v us.length (Lib.byteCells us)) := hown
  have HBb : Hid (us.length + L.length ≤ 140737488355328) := hb
  obtain ⟨bb, cc, rfl⟩ := own_form0 hown
  clear hL hl hown hb
  go_enter Tryz.func74, Tryz.ntmps74
  go_wp2_with fail
  refine c.mono ?_
  clear c
  rintro e w1 ⟨v1, rfl, ho, hb1⟩
  obtain ⟨b1, c1, rfl⟩ := own_form0 ho
  have HO : Hid (w1.ownsRow w.heap.size 5 1 (.slice b1 L.length c1) L.length (Lib.byteCells L)) := ho
  have HB1 : Hid (Below w.heap.size w w1) := hb1
  clear ho hb1
  go_wp2_with fail
  obtain ⟨w2, hw2, hb2, -, hg2⟩ := box1 w1 (.cells #[.slice b1 L.length c1] 39)
  rw [← hw2]
  refine (cPutOwn_any B _ us w1.heap.size 1 [(.slice b1 L.length c1, L)] w w2 HOWN.out hB (HB1.out.trans (hb2.mono HB1.out.size)) hg2 (fun p hp => ?_) (by simp) (by simp [flatP]; exact HBb.out)).mono ?_
  · obtain rfl : p = (.slice b1 L.length c1, L) := by simpa using hp
    exact own_stay HO.out hb2
  rintro e w3 ⟨v3, rfl, h3⟩
  have H3 : Hid (OwnTo B w (.slice bb us.length cc) w3 v3 (us ++ flatP [(.slice b1 L.length c1, L)])) := OwnTo.behind (HB1.out.trans (hb2.mono HB1.out.size)) h3
  clear hw2 hb2 hg2
  clear h3
  go_wp2
  go_ret
  refine ⟨_, rfl, ?_⟩
  have := H3.out
  simp only [flatP, List.map_cons, List.map_nil, List.flatten_cons, List.flatten_nil, List.append_nil] at this
  exact this

end Go.Proofs.YtechkkphbajmoaaGreatDoor
