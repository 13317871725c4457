/- store: the document's own New, All, Floor. -/
import Derived.Test.YtancnmbgncofiaaKLives2
namespace Go.Proofs.Ytancnmbgncofiaa
open Go.RowKit

/-- Items, as cells. -/
def itC (l : List PB) : List Value := l.flatMap fun k => [.int .i64 k.1, .string ⟨k.2.toArray⟩]
theorem itC_nil : itC [] = [] := rfl
theorem itC_cons (k : PB) (ks : List PB) : itC (k :: ks) = .int .i64 k.1 :: .string ⟨k.2.toArray⟩ :: itC ks := by unfold itC; rw [List.flatMap_cons]; rfl
theorem itC_app (a b : List PB) : itC (a ++ b) = itC a ++ itC b := by unfold itC; rw [List.flatMap_append]
theorem itC_len : ∀ ks : List PB, (itC ks).length = ks.length * 2
  | [] => rfl
  | k :: ks => by rw [itC_cons, List.length_cons, List.length_cons, itC_len, List.length_cons]; omega
theorem itC_at : ∀ (ks : List PB) (i : Nat) (h : i < ks.length), (itC ks)[i * 2]? = some (.int .i64 (ks[i]).1) ∧ (itC ks)[i * 2 + 1]? = some (.string ⟨(ks[i]).2.toArray⟩)
  | [], _, h => by cases h
  | k :: ks, 0, _ => by rw [itC_cons]; exact ⟨rfl, rfl⟩
  | k :: ks, i + 1, h => by
    have ih := itC_at ks i (by simpa using h)
    rw [itC_cons, show (i + 1) * 2 = (i * 2) + 1 + 1 by omega, show (i * 2) + 1 + 1 + 1 = (i * 2 + 1) + 1 + 1 by omega]
    simp only [List.getElem?_cons_succ, List.getElem_cons_succ]
    exact ih
/-- The document's store: its items lie in memory. -/
def RfIn (w : World) (v : Value) (l : List PB) : Prop := w.ownsRow 0 49 2 v l.length (itC l)
theorem RfIn.below {w w' : World} {v : Value} {l : List PB} (h : RfIn w v l) (hb : Below w.heap.size w w') : RfIn w' v l := kbelowRow h hb
theorem ritem_cells {w : World} {v : Value} {l : List PB} (h : RfIn w v l) {i : Nat} (hi : i < l.length) : ∃ g cap, v = .slice (some ⟨g, 0, none⟩) l.length cap ∧ l.length ≤ cap ∧ cap ≤ maxLen ∧ g < w.heap.size ∧
    ∀ j (hj : j < l.length), w.cell? ⟨g, j * 2, none⟩ = some (.int .i64 (l[j]).1) ∧ w.cell? ⟨g, j * 2 + 1, none⟩ = some (.string ⟨(l[j]).2.toArray⟩) := by
  rcases h.2 with ⟨-, h0⟩ | ⟨g, cap, cur, rfl, _, hg, h1, h2, _⟩
  · omega
  · refine ⟨g, cap, rfl, h1, h2, (Array.getElem?_eq_some_iff.1 hg).1, fun j hj => ?_⟩
    have hc := World.ownsRow.cells h (g := g) rfl
    have ⟨a0, a1⟩ := itC_at l j hj
    have b0 := hc _ _ a0
    have b1 := hc _ _ a1
    rw [add_zero'] at b0 b1
    exact ⟨b0, b1⟩
set_option maxRecDepth 100000 in
theorem info_item : (Try.prog.info? 49).map (fun i => (i.zero, i.size, i.bytes)) = some (some (.agg #[.int .i64 0, .string ⟨#[]⟩]), 2, 24) := by kernel_rfl

set_option maxRecDepth 100000 in
theorem rNew_any (m : Int) (w : World) :
    Calls Try.prog 5 #[.int .i64 m] w fun e w' => e = .returned (.agg #[.int .i64 ((kMost m : Nat) : Int), .slice none 0 0]) ∧ Below w.heap.size w w' := by
  have hM : max 1 (min m 64) = ((kMost m : Nat) : Int) := by rw [kMost_int]; omega
  go_enter Try.func5, Try.ntmps5
  go_wp2
  exact bodyPost_ret (v := .agg #[.int .i64 ((kMost m : Nat) : Int), .slice none 0 0]) (by simp [results, Try.results5, go_sem]) rfl ⟨rfl, (Below.refl _ w).alloc (Nat.le_refl _) _⟩

set_option maxHeartbeats 4000000 in
set_option maxRecDepth 100000 in
theorem rAll_any (mo : Int) (l : List PB) (v : Value) (w : World) (H : RfIn w v l) (hl : l.length ≤ 100) :
    Calls Try.prog 13 #[.agg #[.int .i64 mo, v]] w fun e w' => ∃ x, e = .returned x ∧ w'.ownsRow w.heap.size 3 1 x l.length (intC (l.map (·.1))) ∧ Below w.heap.size w w' := by
  obtain ⟨i0, hi0, hz0, hz1, hz2⟩ := info_parts info_kint
  obtain ⟨base, cap, hv, hc1, hc2⟩ := kown_val H
  obtain ⟨n, hn⟩ : ∃ n, n = l.length := ⟨_, rfl⟩
  have HN : Hid (n = l.length) := hn
  rw [← hn] at hv hc1 hl ⊢
  subst hv
  obtain ⟨w1, hw1⟩ : ∃ w1, w1 = w.alloc (.cells #[.int .i64 mo, .slice base n cap] 27) := ⟨_, rfl⟩
  have hb1 : Below w.heap.size w w1 := by rw [hw1]; exact (Below.refl _ w).alloc (Nat.le_refl _) _
  have hblk : w1.heap[w.heap.size]? = some (.cells #[.int .i64 mo, .slice base n cap] 27 (0, 0)) := by rw [hw1]; exact heap_alloc_new _ _
  have HW1 : Hid (w.heap.size < w1.heap.size) := (Array.getElem?_eq_some_iff.1 hblk).1
  obtain ⟨q0, q1, -⟩ := kcells2 hblk
  have Q1 : Hid (w1.cell? ⟨w.heap.size, 1, none⟩ = some (.slice base n cap)) := q1
  have HR : Hid (RfIn w1 (.slice base n cap) l) := H.below hb1
  have HB1 : Hid (Below w.heap.size w w1) := hb1
  have hw1' := hw1.symm
  clear hn H hw1 hblk hb1 q0 q1
  go_enter Try.func13, Try.ntmps13
  go_wp2
  go_loopw [3, 4] (fun va vi wr => ∃ i : Nat, i ≤ n ∧ vi = .int .i64 (i : Int) ∧ wr.ownsRow w1.heap.size 3 1 va i (intC ((l.map (·.1)).take i)) ∧ Below w1.heap.size w1 wr) (fun _ vi _ => n - (intOf vi).toNat)
  case atStart => exact ⟨0, Nat.zero_le _, rfl, World.ownsRow_nil _ _ _ _, Below.refl _ _⟩
  case round =>
    clear hw1'
    obtain ⟨i, hin, rfl, hown, hb⟩ := hrel
    have hbs := hb.size
    have HB : Hid (Below w1.heap.size w1 wr) := hb
    have e9 : wr.cell? ⟨w.heap.size, 1, none⟩ = some (.slice base n cap) := (kbelow_cell hb HW1.out).trans Q1.out
    clear hb
    by_cases hlt : i < n
    · have hik : i < l.length := by rw [← HN.out]; exact hlt
      obtain ⟨g, cap', hvk, -, -, hg, hcell⟩ := ritem_cells HR.out (i := i) hik
      simp only [Value.slice.injEq] at hvk
      obtain ⟨rfl, -, -⟩ := hvk
      obtain ⟨c0, c1⟩ := hcell i hik
      have e0 : wr.cell? ⟨g, i * 2, none⟩ = some (.int .i64 (l[i]).1) := (kbelow_cell HB.out hg).trans c0
      have HT : Hid (intC ((l.map (·.1)).take (i + 1)) = intC ((l.map (·.1)).take i) ++ [.int .i64 (l[i]).1]) := by
        show _ = _
        rw [List.take_succ_eq_append_getElem (by simpa using hik), intC_snoc]; simp
      obtain ⟨kp, hkp⟩ : ∃ kp, kp = (l[i]).1 := ⟨_, rfl⟩
      rw [← hkp] at e0 HT
      clear hcell c0 c1 hkp
      go_wp2_with (at_builtin; refine wpList_append_own _ rfl _ _ 42 rfl w1.heap.size 3 i0 (.int .i64 0) 1 8 Try.underlying42 hi0 hz0 hz1 hz2 rfl (by decide) _ _ _ rfl (hown.alloc _) ⟨wr.heap.size, 0, none⟩ 1 1 [.int .i64 kp] rfl rfl (cell_one_new _ _ _) (by intro u hu; simp at hu; subst hu; rfl) (by unfold maxLen; omega) (by omega) (by simp; omega) ?_)
      intro v' w2 hown' hgrow _
      have hnx1 : Below w1.heap.size w1 w2 := (HB.out.alloc (by omega) _).grown hgrow (by simp; omega) (fun k hk => (hown.lt k hk).1)
      go_wp2
      go_roundw
      case rel => exact ⟨i + 1, by omega, by go_num, by rw [HT.out]; exact hown', hnx1⟩
      case measure => simp [intOf]; omega
    · obtain rfl : i = n := by omega
      have hown2 : wr.ownsRow w.heap.size 3 1 u3 i (intC (l.map (·.1))) := by
        have := hown
        rw [List.take_of_length_le (by rw [List.length_map, ← HN.out]; exact Nat.le_refl _)] at this
        exact kown_base this (Nat.le_of_lt HW1.out)
      have hbw : Below w.heap.size w wr := HB1.out.trans (HB.out.mono (Nat.le_of_lt HW1.out))
      clear hown
      go_wp2
      go_ret
      exact ⟨_, rfl, hown2, hbw⟩
end Go.Proofs.Ytancnmbgncofiaa
