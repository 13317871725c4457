/- store: find. -/
import Derived.Test.YtancnmbgncofiaaKAsk
namespace Go.Proofs.Ytancnmbgncofiaa
open Go.RowKit

/-- The place of a position among those that are kept, and whether it is there. -/
structure AtIn (ks : List Kp) (pos : Int) (at0 : Nat) (is : Bool) : Prop where
  le : at0 ≤ ks.length
  lo : ∀ i (h : i < ks.length), i < at0 → (ks[i]).p < pos
  hi : ∀ i (h : i < ks.length), at0 ≤ i → pos ≤ (ks[i]).p
  is : is = true ↔ ∃ h : at0 < ks.length, (ks[at0]).p = pos

theorem kCmp_neg {a b : Int} : kCmp a b < 0 ↔ a < b := by unfold kCmp; split <;> (try split) <;> omega
theorem kCmp_zero {a b : Int} : kCmp a b = 0 ↔ a = b := by unfold kCmp; split <;> (try split) <;> omega

theorem krise {ks : List Kp} (hr : ks.Pairwise fun a b => a.p < b.p) {i j : Nat} (hi : i < ks.length) (hj : j < ks.length) (h : i < j) : (ks[i]).p < (ks[j]).p :=
  List.pairwise_iff_getElem.1 hr i j hi hj h

theorem krow_cells {w : World} {ks : List Kp} {vk : Value} (row : w.ownsRow 0 52 2 vk ks.length (kpC ks)) {i : Nat} (hi : i < ks.length) : ∃ g cap, vk = .slice (some ⟨g, 0, none⟩) ks.length cap ∧ ks.length ≤ cap ∧ cap ≤ maxLen ∧ g < w.heap.size ∧
    ∀ j (h : j < ks.length), w.cell? ⟨g, j * 2, none⟩ = some (.int .i64 (ks[j]).p) ∧ w.cell? ⟨g, j * 2 + 1, none⟩ = some (ks[j]).v := by
  rcases row.2 with ⟨-, h0⟩ | ⟨g, cap, cur, rfl, _, hg, h1, h2, _⟩
  · omega
  · refine ⟨g, cap, rfl, h1, h2, (Array.getElem?_eq_some_iff.1 hg).1, fun j hj => ?_⟩
    have hc := row.cells (g := g) rfl
    have ⟨a0, a1⟩ := kpC_at ks j hj
    have b0 := hc _ _ a0
    have b1 := hc _ _ a1
    rw [add_zero'] at b0 b1
    exact ⟨b0, b1⟩

set_option maxHeartbeats 2000000 in
set_option maxRecDepth 100000 in
theorem kSearch_any (ks : List Kp) (vk : Value) (pos : Int) (w : World) (row : w.ownsRow 0 52 2 vk ks.length (kpC ks)) (few : ks.length ≤ 65) (hr : ks.Pairwise fun a b => a.p < b.p) :
    Calls Try.prog 21 #[vk, .int .i64 pos, .func (.func 22) #[] #[]] w fun e w' => ∃ at0 is, e = .returned (.tuple #[.int .i64 (at0 : Nat), .bool is]) ∧ AtIn ks pos at0 is ∧ Below w.heap.size w w' := by
  obtain ⟨n, hn⟩ : ∃ n, n = ks.length := ⟨_, rfl⟩
  have HN : Hid (n = ks.length) := hn
  obtain ⟨base, cap, hv, hc1, hc2⟩ := kown_val row
  subst hv
  rw [← hn] at few hc1 ⊢
  clear hn
  go_enter Try.func21, Try.ntmps21
  go_wp2
  go_loopw [9, 10] (fun vi vj wr => ∃ i j : Nat, vi = .int .i64 (i : Int) ∧ vj = .int .i64 (j : Int) ∧ i ≤ j ∧ j ≤ n ∧ (∀ x (h : x < ks.length), x < i → (ks[x]).p < pos) ∧ (∀ x (h : x < ks.length), j ≤ x → pos ≤ (ks[x]).p) ∧ Below w.heap.size w wr) (fun vi vj _ => (intOf vj).toNat - (intOf vi).toNat)
  case atStart => exact ⟨0, n, rfl, rfl, Nat.zero_le _, Nat.le_refl _, fun x h hx => absurd hx (by omega), fun x h hx => absurd hx (by rw [HN.out]; omega), Below.refl _ _⟩
  case round =>
    obtain ⟨i, j, rfl, rfl, hij, hjn, hlo, hhi, hb⟩ := hrel
    have HLO : Hid (∀ x (h : x < ks.length), x < i → (ks[x]).p < pos) := hlo
    have HHI : Hid (∀ x (h : x < ks.length), j ≤ x → pos ≤ (ks[x]).p) := hhi
    have HR : Hid (ks.Pairwise fun a b => a.p < b.p) := hr
    clear hlo hhi hr
    by_cases hlt : i < j
    · obtain ⟨m, hm⟩ : ∃ m : Nat, m = (i + j) / 2 := ⟨_, rfl⟩
      have hm1 : i ≤ m := by omega
      have hm2 : m < j := by omega
      have hmk : m < ks.length := by rw [← HN.out]; omega
      obtain ⟨g, cap', hv, -, -, hg, hcell⟩ := krow_cells row (i := m) hmk
      cases hv
      obtain ⟨c0, c1⟩ := hcell m hmk
      have e0 : wr.cell? ⟨g, (i + j) / 2 * 2, none⟩ = some (.int .i64 (ks[m]).p) := by rw [← hm]; exact (kbelow_cell hb hg).trans c0
      have e1 : wr.cell? ⟨g, (i + j) / 2 * 2 + 1, none⟩ = some (ks[m]).v := by rw [← hm]; exact (kbelow_cell hb hg).trans c1
      have HM : Hid (m = (i + j) / 2) := hm
      obtain ⟨kp, hkp⟩ : ∃ kp, kp = (ks[m]).p := ⟨_, rfl⟩
      obtain ⟨kv, hkv⟩ : ∃ kv, kv = (ks[m]).v := ⟨_, rfl⟩
      rw [← hkp] at e0
      rw [← hkv] at e1
      have HKP : Hid (kp = (ks[m]).p) := hkp
      clear hcell c0 c1 row hkp hkv hm
      go_wp2_with fail
      refine (kCmpK_any kp kv pos wr).mono ?_
      rintro e w1 ⟨rfl, hb1⟩
      have HB : Hid (Below w.heap.size w w1) := hb.trans (hb1.mono hb.size)
      obtain ⟨q, hq⟩ : ∃ q, q = kCmp kp pos := ⟨_, rfl⟩
      rw [← hq]
      by_cases hc : kp < pos
      · have hq0 : q < 0 := by rw [hq]; exact kCmp_neg.2 hc
        clear hq hb hb1
        go_wp2
        go_roundw
        case rel =>
          refine ⟨m + 1, j, by rw [HM.out]; go_num, rfl, by omega, hjn, fun x h hx => ?_, HHI.out, HB.out⟩
          rcases Nat.lt_or_ge x m with h9 | h9
          · have := krise HR.out h hmk h9
            have := HKP.out
            omega
          · obtain rfl : x = m := by omega
            have := HKP.out
            omega
        case measure => simp [intOf]; omega
      · have hq0 : ¬ q < 0 := by rw [hq]; exact fun h => hc (kCmp_neg.1 h)
        clear hq hb hb1
        go_wp2
        go_roundw
        case rel =>
          refine ⟨i, m, rfl, by rw [HM.out]; go_num, hm1, by omega, HLO.out, fun x h hx => ?_, HB.out⟩
          rcases Nat.lt_or_ge m x with h9 | h9
          · have := krise HR.out hmk h h9
            have := HKP.out
            omega
          · obtain rfl : x = m := by omega
            have := HKP.out
            omega
        case measure => simp [intOf]; omega
    · obtain rfl : i = j := by omega
      by_cases hin : i < n
      · have hmk : i < ks.length := by rw [← HN.out]; exact hin
        obtain ⟨g, cap', hv, -, -, hg, hcell⟩ := krow_cells row (i := i) hmk
        cases hv
        obtain ⟨c0, c1⟩ := hcell i hmk
        have e0 : wr.cell? ⟨g, i * 2, none⟩ = some (.int .i64 (ks[i]).p) := (kbelow_cell hb hg).trans c0
        have e1 : wr.cell? ⟨g, i * 2 + 1, none⟩ = some (ks[i]).v := (kbelow_cell hb hg).trans c1
        obtain ⟨kp, hkp⟩ : ∃ kp, kp = (ks[i]).p := ⟨_, rfl⟩
        obtain ⟨kv, hkv⟩ : ∃ kv, kv = (ks[i]).v := ⟨_, rfl⟩
        rw [← hkp] at e0
        rw [← hkv] at e1
        have HKP : Hid (kp = (ks[i]).p) := hkp
        clear hcell c0 c1 row hkp hkv hlt
        go_wp2_with fail
        refine (kCmpK_any kp kv pos wr).mono ?_
        rintro e w1 ⟨rfl, hb1⟩
        have HB : Hid (Below w.heap.size w w1) := hb.trans (hb1.mono hb.size)
        have HA : Hid (AtIn ks pos i (kCmp kp pos == 0)) := ⟨by omega, HLO.out, HHI.out, by
          rw [beq_iff_eq, kCmp_zero]
          exact ⟨fun h => ⟨hmk, by rw [← HKP.out]; exact h⟩, fun ⟨_, h⟩ => by rw [HKP.out]; exact h⟩⟩
        clear hb hb1
        go_wp2
        go_ret2
        exact ⟨i, _, rfl, HA.out, HB.out⟩
      · have HA : Hid (AtIn ks pos i false) := ⟨by rw [← HN.out]; omega, HLO.out, HHI.out, ⟨(fun h => by cases h), (fun ⟨h, _⟩ => by rw [← HN.out] at h; omega)⟩⟩
        clear row
        go_wp2
        go_ret2
        exact ⟨i, _, rfl, HA.out, hb⟩
set_option maxHeartbeats 2000000 in
set_option maxRecDepth 100000 in
theorem kFind_any (most : Nat) (ks : List Kp) (h : Nat) (vk : Value) (pos : Int) (w : World) (H : StIn w most ks h vk) :
    Calls Try.prog 17 #[.pointer (some ⟨h, 0, none⟩), .int .i64 pos] w fun e w' => ∃ at0 is, e = .returned (.tuple #[.int .i64 (at0 : Nat), .bool is]) ∧ AtIn ks pos at0 is ∧ Below w.heap.size w w' := by
  obtain ⟨h0, h1, -⟩ := kcells2 H.blk
  obtain ⟨base, cap, hv, -⟩ := kown_val H.row
  have HC : Hid (∀ W, Below w.heap.size w W → Calls Try.prog 21 #[vk, .int .i64 pos, .func (.func 22) #[] #[]] W fun e w' => ∃ at0 is, e = .returned (.tuple #[.int .i64 (at0 : Nat), .bool is]) ∧ AtIn ks pos at0 is ∧ Below W.heap.size W w') := fun W hW =>
    kSearch_any ks vk pos W (H.below hW).row H.few H.rise
  subst hv
  clear H
  go_enter Try.func17, Try.ntmps17
  go_wp2_with fail
  refine (HC.out _ (Below.refl _ _)).mono ?_
  rintro e w1 ⟨at0, is, rfl, ha, hb⟩
  have HA : Hid (AtIn ks pos at0 is) := ha
  clear ha
  go_wp2
  go_ret2
  exact ⟨at0, is, rfl, HA.out, hb⟩
end Go.Proofs.Ytancnmbgncofiaa
