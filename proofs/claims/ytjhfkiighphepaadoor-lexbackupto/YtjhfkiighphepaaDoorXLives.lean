/- the laws' lives, layer 3. -/
import Derived.Test.YtjhfkiighphepaaDoorXScanAny
import Derived.Test.YtjhfkiighphepaaDoorXConc
namespace Go.Proofs.YtjhfkiighphepaaDoor
open Go.RowKit Go.Shelf

theorem row_cells {w : World} {B e sz n : Nat} {v : Value} {xs : List Value} (h : w.ownsRow B e sz v n xs) (hn : 1 ≤ n) : ∃ g cap, v = .slice (some ⟨g, 0, none⟩) n cap ∧ B ≤ g ∧ g < w.heap.size ∧ n ≤ cap ∧ ∀ j u, xs[j]? = some u → w.cell? ⟨g, j, none⟩ = some u := by
  obtain ⟨-, ⟨-, h0⟩ | ⟨g, cap, cur, rfl, hg, hh, hc, -, -, hx⟩⟩ := h
  · omega
  · refine ⟨g, cap, rfl, hg, (Array.getElem?_eq_some_iff.1 hh).1, hc, fun j u hj => ?_⟩
    rw [cell_of_row _ _ _ _ _ _ hh]
    rw [← hx, List.getElem?_take] at hj
    split at hj
    · rw [Array.getElem?_toList] at hj; exact hj
    · cases hj

theorem below_cell {n : Nat} {w w' : World} (h : Below n w w') {g j : Nat} (hg : g < n) : w'.cell? ⟨g, j, none⟩ = w.cell? ⟨g, j, none⟩ := World.cell?_of_block (h.block g hg)

theorem ex_A (w : World) (ht : Tabs w) : Calls Tryd.prog 7 #[.string ⟨#[108, 101, 116, 32, 120, 49, 61, 97, 91, 48, 93, 59, 32, 47, 47, 32, 120]⟩] w fun e w' => ∃ g cap, e = .returned (.tuple #[.slice (some ⟨g, 0, none⟩) 9 cap, .int .i64 0, .int .i64 0]) ∧
    g < w'.heap.size ∧ (∀ j u, (tkCells (scanB exA).1)[j]? = some u → w'.cell? ⟨g, j, none⟩ = some u) ∧ Below w.heap.size w w' := by
  refine (scan_any exA w ht).mono ?_
  rintro e w' ⟨r, rfl, ho, hb⟩
  obtain ⟨g, cap, rfl, -, hg, -, hc⟩ := row_cells ho (by rw [scan_exA]; decide)
  rw [scan_exA]
  rw [scan_exA] at hc
  exact ⟨g, cap, rfl, hg, hc, hb⟩

theorem ex_B (w : World) (ht : Tabs w) : Calls Tryd.prog 7 #[.string ⟨#[34, 97, 92, 34, 98, 34]⟩] w fun e w' => ∃ g cap, e = .returned (.tuple #[.slice (some ⟨g, 0, none⟩) 2 cap, .int .i64 0, .int .i64 0]) ∧
    g < w'.heap.size ∧ (∀ j u, (tkCells (scanB exB).1)[j]? = some u → w'.cell? ⟨g, j, none⟩ = some u) ∧ Below w.heap.size w w' := by
  refine (scan_any exB w ht).mono ?_
  rintro e w' ⟨r, rfl, ho, hb⟩
  obtain ⟨g, cap, rfl, -, hg, -, hc⟩ := row_cells ho (by rw [scan_exB]; decide)
  rw [scan_exB]
  rw [scan_exB] at hc
  exact ⟨g, cap, rfl, hg, hc, hb⟩

theorem ex_C (w : World) (ht : Tabs w) : Calls Tryd.prog 7 #[.string ⟨#[97, 38, 98]⟩] w fun e w' => ∃ r, e = .returned (.tuple #[r, .int .i64 1, .int .i64 6]) ∧ Below w.heap.size w w' := by
  refine (scan_any exC w ht).mono ?_
  rintro e w' ⟨r, rfl, ho, hb⟩
  rw [scan_exC]
  exact ⟨r, rfl, hb⟩

theorem ex_D (w : World) (ht : Tabs w) : Calls Tryd.prog 7 #[.string ⟨#[57, 50, 50, 51, 51, 55, 50, 48, 51, 54, 56, 53, 52, 55, 55, 53, 56, 48, 56]⟩] w fun e w' => ∃ r, e = .returned (.tuple #[r, .int .i64 0, .int .i64 5]) ∧ Below w.heap.size w w' := by
  refine (scan_any exD w ht).mono ?_
  rintro e w' ⟨r, rfl, ho, hb⟩
  rw [scan_exD]
  exact ⟨r, rfl, hb⟩

set_option maxRecDepth 100000 in
set_option maxHeartbeats 4000000 in
theorem lives03_any (w : World) (ht : Tabs w) :
    Calls Tryd.prog 10 #[] w fun e w' => e = .returned (.bool true) ∧ Below w.heap.size w w' := by
  have HT : Hid (Tabs w) := ht
  clear ht
  go_enter Tryd.func10, Tryd.ntmps10
  go_wp2_with fail
  refine (ex_A w HT.out).mono ?_
  rintro e w1 ⟨g, cap, rfl, hg1, hc1, hb1⟩
  have HT1 : Hid (Tabs w1) := HT.out.below hb1 (Nat.le_refl _)
  have HC1 : Hid (∀ j u, (tkCells (scanB exA).1)[j]? = some u → w1.cell? ⟨g, j, none⟩ = some u) := hc1
  have HB1 : Hid (Below w.heap.size w w1) := hb1
  clear hc1 hb1
  go_wp2_with fail
  refine (ex_B w1 HT1.out).mono ?_
  rintro e w2 ⟨g2, cap2, rfl, hg2, hc2, hb2⟩
  have HT2 : Hid (Tabs w2) := HT1.out.below hb2 (Nat.le_refl _)
  have HC2 : Hid (∀ j u, (tkCells (scanB exB).1)[j]? = some u → w2.cell? ⟨g2, j, none⟩ = some u) := hc2
  have HB2 : Hid (Below w1.heap.size w1 w2) := hb2
  clear hc2 hb2
  go_wp2_with fail
  refine (ex_C w2 HT2.out).mono ?_
  rintro e w3 ⟨r3, rfl, hb3⟩
  have HT3 : Hid (Tabs w3) := HT2.out.below hb3 (Nat.le_refl _)
  have HB3 : Hid (Below w2.heap.size w2 w3) := hb3
  clear hb3
  go_wp2_with fail
  refine (ex_D w3 HT3.out).mono ?_
  rintro e w4 ⟨r4, rfl, hb4⟩
  have HT4 : Hid (Tabs w4) := HT3.out.below hb4 (Nat.le_refl _)
  have HB4 : Hid (Below w3.heap.size w3 w4) := hb4
  clear hb4
  have z1 : w1.heap.size ≤ w2.heap.size := HB2.out.size
  have z2 : w2.heap.size ≤ w3.heap.size := HB3.out.size
  have A : ∀ j u, (tkCells (scanB exA).1)[j]? = some u → w4.cell? ⟨g, j, none⟩ = some u := fun j u h => by
    rw [below_cell HB4.out (by omega), below_cell HB3.out (by omega), below_cell HB2.out hg1]; exact HC1.out j u h
  have B : ∀ j u, (tkCells (scanB exB).1)[j]? = some u → w4.cell? ⟨g2, j, none⟩ = some u := fun j u h => by
    rw [below_cell HB4.out (by omega), below_cell HB3.out hg2]; exact HC2.out j u h
  have c0 : w4.cell? ⟨g, 0, none⟩ = some (.int .i64 5) := A 0 _ (by rw [scan_exA]; rfl)
  have c1 : w4.cell? ⟨g, 1, none⟩ = some (.string ⟨#[108, 101, 116]⟩) := A 1 _ (by rw [scan_exA]; rfl)
  have c2 : w4.cell? ⟨g, 2, none⟩ = some (.int .i64 0) := A 2 _ (by rw [scan_exA]; rfl)
  have c3 : w4.cell? ⟨g, 3, none⟩ = some (.int .i64 1) := A 3 _ (by rw [scan_exA]; rfl)
  have c4 : w4.cell? ⟨g, 4, none⟩ = some (.int .i64 0) := A 4 _ (by rw [scan_exA]; rfl)
  have c25 : w4.cell? ⟨g, 25, none⟩ = some (.int .i64 2) := A 25 _ (by rw [scan_exA]; rfl)
  have c26 : w4.cell? ⟨g, 26, none⟩ = some (.string ⟨#[]⟩) := A 26 _ (by rw [scan_exA]; rfl)
  have c27 : w4.cell? ⟨g, 27, none⟩ = some (.int .i64 0) := A 27 _ (by rw [scan_exA]; rfl)
  have c28 : w4.cell? ⟨g, 28, none⟩ = some (.int .i64 1) := A 28 _ (by rw [scan_exA]; rfl)
  have c29 : w4.cell? ⟨g, 29, none⟩ = some (.int .i64 9) := A 29 _ (by rw [scan_exA]; rfl)
  have c40 : w4.cell? ⟨g, 40, none⟩ = some (.int .i64 0) := A 40 _ (by rw [scan_exA]; rfl)
  have c41 : w4.cell? ⟨g, 41, none⟩ = some (.string ⟨#[]⟩) := A 41 _ (by rw [scan_exA]; rfl)
  have c42 : w4.cell? ⟨g, 42, none⟩ = some (.int .i64 0) := A 42 _ (by rw [scan_exA]; rfl)
  have c43 : w4.cell? ⟨g, 43, none⟩ = some (.int .i64 1) := A 43 _ (by rw [scan_exA]; rfl)
  have c44 : w4.cell? ⟨g, 44, none⟩ = some (.int .i64 17) := A 44 _ (by rw [scan_exA]; rfl)
  have d1 : w4.cell? ⟨g2, 1, none⟩ = some (.string ⟨#[97, 34, 98]⟩) := B 1 _ (by rw [scan_exB]; rfl)
  have HBW : Hid (Below w.heap.size w w4) := ((HB1.out.trans (HB2.out.mono HB1.out.size)).trans (HB3.out.mono (Nat.le_trans HB1.out.size z1))).trans (HB4.out.mono (Nat.le_trans (Nat.le_trans HB1.out.size z1) z2))
  clear A B z1 z2 HC1 HC2 HB1 HB2 HB3 HB4 HT HT1 HT2 HT3 hg1 hg2
  have HW : Hid (Calls Tryd.prog 13 #[.string ⟨#[110, 101, 119]⟩] w4 fun e w' => e = .returned (.bool true) ∧ w4 = w') := word_any [110, 101, 119] w4 HT4.out
  go_wp2_with fail
  refine HW.out.mono ?_
  rintro e w5 ⟨rfl, rfl⟩
  go_wp2
  go_ret
  exact ⟨rfl, HBW.out⟩
end Go.Proofs.YtjhfkiighphepaaDoor
