/- From any place of any bytes on a frame is got, or none, for its reason; and all of them from the front on: the walk of FrameGets. -/
import Derived.Test.YtffedjgbhdaecaaFRefAll
import Derived.Test.YtffedjgbhdaecaaFLives
namespace Go.Proofs.Ytffedjgbhdaecaa
open Go.RowKit

theorem own_list {w : World} {B e n : Nat} {v : Value} {xs : List Value} (h : w.ownsRow B e 1 v n xs) :
    ∃ base cap, v = .slice base n cap ∧ ∀ i (hi : i < xs.length), ∃ g, base = some ⟨g, 0, none⟩ ∧ w.cell? ⟨g, i, none⟩ = some xs[i] := by
  have h0 := h
  obtain ⟨hl, h2⟩ := h
  rcases h2 with ⟨rfl, rfl⟩ | ⟨g, cap, cur, rfl, hg, hh, hnc, hm, hs, ht⟩
  · exact ⟨none, 0, rfl, fun i hi => by rw [hl] at hi; omega⟩
  · refine ⟨some ⟨g, 0, none⟩, cap, rfl, fun i hi => ⟨g, rfl, ?_⟩⟩
    have := h0.cells rfl i xs[i] (List.getElem?_eq_getElem hi)
    rw [add_plain, Nat.zero_add] at this
    exact this

set_option maxHeartbeats 4000000 in
set_option maxRecDepth 100000 in
theorem fgets_walk (vb : Value) (bs : List UInt8) (at0 : Int) (w : World) (hb : bytesAt w vb bs) (h1 : bs.length ≤ 1048576) :
    Calls Try.prog 4 #[vb, .int .i64 at0] w fun e w' => e = .returned (.bool true) ∧ Below w.heap.size w w' := by
  have HB : Hid (bytesAt w vb bs) := hb
  obtain ⟨baseB, capB, rfl, -⟩ := hb
  have HCV : Hid (∀ wx, Below w.heap.size w wx → (convert 22 9 (.slice baseB bs.length capB)).run Try.prog wx = .ok (.string ⟨bs.toArray⟩) wx) := fun wx h => conv_row wx baseB bs capB (bytesAt_row (bytesAt_below HB.out h (Nat.le_refl _))).2.1
  obtain ⟨x, k, er, hg⟩ : ∃ x k er, getF bs at0 = (x, k, er) := ⟨_, _, _, rfl⟩
  go_enter Try.func4, Try.ntmps4
  go_wp2_with fail
  refine (own02_any _ bs w HB.out (by omega)).mono ?_
  rintro e w1 ⟨v1, rfl, hown1, hb1⟩
  have HB1 : Hid (Below w.heap.size w w1) := hb1
  have c2 := get_any v1 bs at0 w1 (bytesAt_own hown1)
  rw [hg] at c2
  clear hown1 hb1
  go_wp2_with fail
  refine c2.mono ?_
  clear c2
  rintro e w2 ⟨v2, rfl, hown2, hb2⟩
  have HB2 : Hid (Below w.heap.size w w2) := HB1.out.trans (hb2.mono HB1.out.size)
  have hcv2 := HCV.out w2 HB2.out
  have c3 := refGet_any ⟨bs.toArray⟩ at0 w2 (by show bs.length ≤ _; omega)
  have e3 : getF (⟨bs.toArray⟩ : ByteArray).data.toList at0 = (x, k, er) := hg
  rw [e3] at c3
  clear hb2 HB1 e3
  go_wp2_with fail
  refine c3.mono ?_
  clear c3
  rintro e w3 ⟨rfl, hb3⟩
  have HB3 : Hid (Below w.heap.size w w3) := HB2.out.trans (hb3.mono HB2.out.size)
  obtain ⟨base2, cap2, rfl, hrow2, -, -, -⟩ := own_row hown2
  have HR3 : Hid (rowAt w3 base2 x) := rowAt_below hrow2 hb3 (Nat.le_refl _)
  clear hb3 HB2 hcv2 hown2 hrow2
  go_wp2_with fail
  refine (own02_any _ bs w3 (bytesAt_below HB.out HB3.out (Nat.le_refl _)) (by omega)).mono ?_
  rintro e w4 ⟨v4, rfl, hown4, hb4⟩
  have HB4 : Hid (Below w.heap.size w w4) := HB3.out.trans (hb4.mono HB3.out.size)
  have HR4 : Hid (rowAt w4 base2 x) := rowAt_below HR3.out hb4 (Nat.le_refl _)
  clear hb4 HB3 HR3
  go_wp2_with fail
  refine (all_any v4 bs w4 (bytesAt_own hown4) (by omega)).mono ?_
  rintro e w5 ⟨r, a, ps, rfl, hfr, hal, hae, hown5, hps, hb5⟩
  have HB5 : Hid (Below w.heap.size w w5) := HB4.out.trans (hb5.mono HB4.out.size)
  have HR5 : Hid (rowAt w5 base2 x) := rowAt_below HR4.out hb5 (Nat.le_refl _)
  have hcv5 := HCV.out w5 HB5.out
  have HP5 : Hid (∀ p : Value × List UInt8, p ∈ ps → w5.ownsRow w4.heap.size 5 1 p.1 p.2.length (Lib.byteCells p.2)) := hps
  clear hb5 HB4 HR4 hown4 hps
  go_wp2_with fail
  refine (refAll_any ⟨bs.toArray⟩ w5 (by show bs.length ≤ _; omega)).mono ?_
  rintro e w6 ⟨r6, a6, xs, rfl, hfr6, -, hae6, hown6, hb6⟩
  obtain ⟨rfl, rfl⟩ := framesTo_det hae hae6 _ _ _ hfr hfr6
  have HB6 : Hid (Below w.heap.size w w6) := HB5.out.trans (hb6.mono HB5.out.size)
  have HR6 : Hid (rowAt w6 base2 x) := rowAt_below HR5.out hb6 (Nat.le_refl _)
  have HP6 : Hid (∀ p : Value × List UInt8, p ∈ ps → w6.ownsRow w4.heap.size 5 1 p.1 p.2.length (Lib.byteCells p.2)) := fun p hp => own_keptC (HP5.out p hp) hb6 (Nat.le_refl _)
  have hown5' := own_keptC hown5 hb6 (Nat.le_refl _)
  obtain ⟨baseL, capL, rfl, hcL⟩ := own_list hown5'
  obtain ⟨baseO, capO, rfl, hcO⟩ := own_list hown6
  have hpl := framesTo_len hfr (Nat.zero_le _)
  rw [List.length_map] at hpl
  have hpl2 : ps.length ≤ 1048576 := by omega
  have HCL : Hid (∀ i (hi : i < (ps.map (·.1)).length), ∃ g, baseL = some ⟨g, 0, none⟩ ∧ w6.cell? ⟨g, i, none⟩ = some (ps.map (·.1))[i]) := hcL
  have HCO : Hid (∀ i (hi : i < ((ps.map (·.2)).map strV).length), ∃ g, baseO = some ⟨g, 0, none⟩ ∧ w6.cell? ⟨g, i, none⟩ = some ((ps.map (·.2)).map strV)[i]) := hcO
  have hml : (ps.map (·.2)).length = ps.length := List.length_map ..
  rw [hml]
  clear hb6 HB5 HR5 HP5 hcv5 hown5 hown5' hown6 hcL hcO hpl hfr hfr6 hae hae6 hal hml
  go_wp2
  go_loopw [15] (fun vi wr => ∃ i : Nat, i ≤ ps.length ∧ vi = .int .i64 i ∧ Below w6.heap.size w6 wr) (fun i _ => ps.length - (intOf i).toNat)
  case atStart => exact ⟨0, Nat.zero_le _, rfl, Below.refl _ _⟩
  case round =>
    obtain ⟨i, hi, rfl, hbw⟩ := hrel
    have HBW : Hid (Below w6.heap.size w6 wr) := hbw
    by_cases hlt : i < ps.length
    · obtain ⟨gL, rfl, hcL⟩ := HCL.out i (by rw [List.length_map]; exact hlt)
      obtain ⟨gO, rfl, hcO⟩ := HCO.out i (by rw [List.length_map, List.length_map]; exact hlt)
      rw [List.getElem_map] at hcL
      rw [List.getElem_map, List.getElem_map] at hcO
      have kL := hbw.cell (World.block_lt_of_cell? w6 _ hcL)
      have kO := hbw.cell (World.block_lt_of_cell? w6 _ hcO)
      rw [hcL] at kL
      rw [hcO] at kO
      have hpi := HP6.out ps[i] (List.getElem_mem hlt)
      rcases hps : ps[i] with ⟨pv, px⟩
      rw [hps] at kL kO hpi
      simp only at kL kO hpi
      obtain ⟨baseP, capP, rfl, hrowP, -, -, -⟩ := own_row hpi
      have hconv : ∀ n, (convert 22 9 (.slice baseP px.length capP)).run Try.prog (wr.drewN n) = .ok (.string ⟨px.toArray⟩) (wr.drewN n) := fun n => conv_row _ _ _ _ (rowAt_drewN n (rowAt_below hrowP hbw (Nat.le_refl _)))
      unfold strV at kO
      clear hpi hrowP hcL hcO hps hbw HCL HCO
      go_wp2_with fail
      go_quiet (fail)
      go_wp2
      refine ⟨⟨i + 1, by omega, by go_num, HBW.out.trans ⟨rfl, rfl, rfl, Nat.le_refl _, fun _ _ => rfl⟩⟩, by simp [intOf]; omega⟩
    · have hx5 : (convert 22 9 (.slice base2 x.length cap2)).run Try.prog wr = .ok (.string ⟨x.toArray⟩) wr := conv_row wr base2 x cap2 (rowAt_below HR6.out hbw (Nat.le_refl _))
      have HBR : Hid (Below w.heap.size w wr) := HB6.out.trans (hbw.mono HB6.out.size)
      clear hbw HCL HCO HBW
      go_wp2_with fail
      refine (lives02_any wr).mono ?_
      rintro e w9 ⟨rfl, hb9⟩
      have HF : Hid (Below w.heap.size w w9) := HBR.out.trans (hb9.mono HBR.out.size)
      clear hb9
      go_wp2
      go_ret
      exact ⟨rfl, HF.out⟩
end Go.Proofs.Ytffedjgbhdaecaa
