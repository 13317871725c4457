/- LexScans. -/
import Derived.Test.YtjhfkiighphepaaDoorXRef7
import Derived.Test.YtjhfkiighphepaaDoorXLives
namespace Go.Proofs.YtjhfkiighphepaaDoor
open Go.RowKit Go.Shelf

/-- The slice value v reads in the world w as these tokens. -/
def toksAt (w : World) (v : Value) (ts : List Tk) : Prop :=
  (v = .slice none 0 0 ∧ ts = []) ∨ ∃ g cap, v = .slice (some ⟨g, 0, none⟩) ts.length cap ∧ g < w.heap.size ∧ ts.length ≤ cap ∧ ts.length ≤ maxLen ∧ ∀ j u, (tkCells ts)[j]? = some u → w.cell? ⟨g, j, none⟩ = some u

theorem toksAt_own {w : World} {B : Nat} {v : Value} {ts : List Tk} (h : w.ownsRow B 33 5 v ts.length (tkCells ts)) : toksAt w v ts := by
  have hm := row_max h
  obtain ⟨h0, ⟨rfl, h1⟩ | ⟨g, cap, cur, rfl, hg, hh, hc, -, -, hx⟩⟩ := h
  · exact .inl ⟨rfl, List.length_eq_zero_iff.1 h1⟩
  · refine .inr ⟨g, cap, rfl, (Array.getElem?_eq_some_iff.1 hh).1, hc, hm, fun j u hj => ?_⟩
    rw [cell_of_row _ _ _ _ _ _ hh]
    rw [← hx, List.getElem?_take] at hj
    split at hj
    · rw [Array.getElem?_toList] at hj; exact hj
    · cases hj

theorem toksAt_below {w w' : World} {B : Nat} {v : Value} {ts : List Tk} (h : toksAt w v ts) (hb : Below B w w') (hB : w.heap.size ≤ B) : toksAt w' v ts := by
  rcases h with h | ⟨g, cap, hv, hg, hc, hm, hx⟩
  · exact .inl h
  · exact .inr ⟨g, cap, hv, Nat.lt_of_lt_of_le hg hb.size, hc, hm, fun j u hj => by rw [below_cell hb (by omega)]; exact hx j u hj⟩

set_option maxRecDepth 100000 in
set_option maxHeartbeats 4000000 in
theorem refSame_eq (ts : List Tk) (a b : Value) (w : World) (ha : toksAt w a ts) (hb : toksAt w b ts) :
    Calls Tryd.prog 9 #[a, b] w fun e w' => e = .returned (.bool true) ∧ Below w.heap.size w w' := by
  rcases ha with ⟨rfl, hts⟩ | ⟨g1, c1, rfl, hg1, hc1, hm1, hx1⟩
  · subst hts
    rcases hb with ⟨rfl, -⟩ | ⟨g2, c2, rfl, hg2, hc2, hm2, hx2⟩
    · go_enter Tryd.func9, Tryd.ntmps9
      go_wp2
      go_loop [5] (fun v => v = .int .i64 0) (fun _ => 0)
      case atStart => rfl
      case round =>
        subst hrel
        go_wp2
        go_ret
        exact ⟨rfl, Below.refl _ _⟩
    · simp only [List.length_nil] at hc2 ⊢
      clear hx2
      go_enter Tryd.func9, Tryd.ntmps9
      go_wp2
      go_loop [5] (fun v => v = .int .i64 0) (fun _ => 0)
      case atStart => rfl
      case round =>
        subst hrel
        go_wp2
        go_ret
        exact ⟨rfl, Below.refl _ _⟩
  · rcases hb with ⟨rfl, hts⟩ | ⟨g2, c2, rfl, hg2, hc2, hm2, hx2⟩
    · subst hts
      simp only [List.length_nil] at hc1 ⊢
      clear hx1
      go_enter Tryd.func9, Tryd.ntmps9
      go_wp2
      go_loop [5] (fun v => v = .int .i64 0) (fun _ => 0)
      case atStart => rfl
      case round =>
        subst hrel
        go_wp2
        go_ret
        exact ⟨rfl, Below.refl _ _⟩
    · obtain ⟨N, hN⟩ : ∃ N, N = ts.length := ⟨_, rfl⟩
      have HN : Hid (N = ts.length) := hN
      have HX1 : Hid (∀ j u, (tkCells ts)[j]? = some u → w.cell? ⟨g1, j, none⟩ = some u) := hx1
      have HX2 : Hid (∀ j u, (tkCells ts)[j]? = some u → w.cell? ⟨g2, j, none⟩ = some u) := hx2
      rw [← hN] at hc1 hc2 hm1 ⊢
      unfold maxLen at hm1
      clear hx1 hx2 hm2 hN
      go_enter Tryd.func9, Tryd.ntmps9
      go_wp2
      go_loopw [5] (fun vi wr => ∃ i : Nat, i ≤ N ∧ vi = .int .i64 i ∧ Below w.heap.size w wr) (fun vi _ => N - (intOf vi).toNat)
      case atStart => exact ⟨0, Nat.zero_le _, rfl, Below.refl _ _⟩
      case round =>
        obtain ⟨i, hi, rfl, hbr⟩ := hrel
        have HBR : Hid (Below w.heap.size w wr) := hbr
        clear hbr
        by_cases hlt : i < N
        · have hlt' : i < ts.length := by rw [← HN.out]; exact hlt
          have t := tkCells_at ts i hlt'
          obtain ⟨T, hT⟩ : ∃ T, T = ts[i] := ⟨_, rfl⟩
          rw [← hT] at t
          have a0 := (below_cell HBR.out hg1).trans (HX1.out _ _ t.1)
          have a1 := (below_cell HBR.out hg1).trans (HX1.out _ _ t.2.1)
          have a2 := (below_cell HBR.out hg1).trans (HX1.out _ _ t.2.2.1)
          have a3 := (below_cell HBR.out hg1).trans (HX1.out _ _ t.2.2.2.1)
          have a4 := (below_cell HBR.out hg1).trans (HX1.out _ _ t.2.2.2.2)
          have b0 := (below_cell HBR.out hg2).trans (HX2.out _ _ t.1)
          have b1 := (below_cell HBR.out hg2).trans (HX2.out _ _ t.2.1)
          have b2 := (below_cell HBR.out hg2).trans (HX2.out _ _ t.2.2.1)
          have b3 := (below_cell HBR.out hg2).trans (HX2.out _ _ t.2.2.2.1)
          have b4 := (below_cell HBR.out hg2).trans (HX2.out _ _ t.2.2.2.2)
          clear t hT hlt'
          go_wp2
          go_quiet (fail)
          go_wp2
          refine ⟨⟨i + 1, by omega, by go_num, below_drewN HBR.out _⟩, ?_⟩
          simp [intOf]
          omega
        · obtain rfl : i = N := by omega
          go_wp2
          go_ret
          exact ⟨rfl, HBR.out⟩

set_option maxRecDepth 100000 in
set_option maxHeartbeats 4000000 in
theorem scans_all (s : List UInt8) (w : World) (ht : Tabs w) :
    Calls Tryd.prog 3 #[.string (strB s)] w fun e w' => e = .returned (.bool true) ∧ Below w.heap.size w w' := by
  have HT : Hid (Tabs w) := ht
  have c1 := scan_any s w ht
  have hbd := (scanB_bound s).1
  have c2 := refScan_any s
  obtain ⟨A, hA⟩ : ∃ A, A = scanB s := ⟨_, rfl⟩
  rw [← hA] at c1 c2
  clear ht hA hbd
  go_enter Tryd.func3, Tryd.ntmps3
  go_wp2_with fail
  refine c1.mono ?_
  clear c1
  rintro e w1 ⟨r1, rfl, ho1, hb1⟩
  have HT1 : Hid (Tabs w1) := HT.out.below hb1 (Nat.le_refl _)
  have HB1 : Hid (Below w.heap.size w w1) := hb1
  have h1 := toksAt_own ho1
  clear ho1 hb1
  go_wp2_with fail
  refine (c2 w1).mono ?_
  clear c2
  rintro e w2 ⟨r2, rfl, ho2, hb2⟩
  have HT2 : Hid (Tabs w2) := HT1.out.below hb2 (Nat.le_refl _)
  have HB2 : Hid (Below w.heap.size w w2) := HB1.out.trans (hb2.mono HB1.out.size)
  have c3 := refSame_eq A.1 r1 r2 w2 (toksAt_below h1 hb2 (Nat.le_refl _)) (toksAt_own ho2)
  have hs2 := HB2.out.size
  clear h1 ho2 hb2 HB1
  go_wp2_with fail
  refine c3.mono ?_
  clear c3
  rintro e w3 ⟨rfl, hb3⟩
  have c4 := lives03_any w3 (HT2.out.below hb3 (Nat.le_refl _))
  have HB3 : Hid (Below w.heap.size w w3) := HB2.out.trans (hb3.mono hs2)
  have hs3 := HB3.out.size
  clear hb3
  have f1 : ((A.2.1 : Int) == A.2.1) = true := by simp
  have f2 : ((A.2.2 : Int) == A.2.2) = true := by simp
  go_wp2_with fail
  refine c4.mono ?_
  clear c4
  rintro e w4 ⟨rfl, hb4⟩
  have HB4 : Hid (Below w.heap.size w w4) := HB3.out.trans (hb4.mono hs3)
  clear hb4
  go_wp2
  go_ret
  exact ⟨rfl, HB4.out⟩
end Go.Proofs.YtjhfkiighphepaaDoor
