/- store: Floor, All. -/
import Derived.Test.YtancnmbgncofiaaKRem
import Derived.Deep.RegionLaw
namespace Go.Proofs.Ytancnmbgncofiaa
open Go.RowKit

/-- What Floor answers. -/
def FlRet (w : World) (ks : List Kp) (pos : Int) (e : Ending) (w' : World) : Prop :=
  Below w.heap.size w w' ∧ ((e = .returned (.tuple #[.int .i64 0, .slice none 0 0, .bool false]) ∧ ∀ k ∈ ks, pos < k.p) ∨
    ∃ (i : Nat) (hi : i < ks.length) (v : Value), e = .returned (.tuple #[.int .i64 (ks[i]).p, v, .bool true]) ∧ w'.ownsRow w.heap.size 5 1 v (ks[i]).b.length (Lib.byteCells (ks[i]).b) ∧ (ks[i]).p ≤ pos ∧ ∀ j (hj : j < ks.length), i < j → pos < (ks[j]).p)

set_option maxHeartbeats 8000000 in
set_option maxRecDepth 100000 in
theorem kFloor_any (most : Nat) (ks : List Kp) (h : Nat) (vk : Value) (pos : Int) (w : World) (H : StIn w most ks h vk) :
    Calls Try.prog 9 #[.pointer (some ⟨h, 0, none⟩), .int .i64 pos] w fun e w' => FlRet w ks pos e w' := by
  have HC := kThere_any most ks h vk w H
  have HF := kFind_any most ks h vk pos w H
  have HH : Hid (StIn w most ks h vk) := H
  clear H
  go_enter Try.func9, Try.ntmps9
  go_wp2_with fail
  refine HC.mono ?_
  rintro e w1 ⟨rfl, rfl⟩
  clear HC
  go_wp2_with fail
  refine HF.mono ?_
  rintro e w1 ⟨at0, is, rfl, ha, hb1⟩
  clear HF
  have HA : Hid (AtIn ks pos at0 is) := ha
  have few := HH.out.few
  have hle := ha.le
  have H1 : Hid (StIn w1 most ks h vk) := HH.out.below hb1
  have HB1 : Hid (Below w.heap.size w w1) := hb1
  clear ha hb1
  cases is with
  | true =>
    obtain ⟨hi, hpe⟩ := HA.out.is.1 rfl
    have hp1 : (ks[at0]).p ≤ pos := by omega
    have hp2 : ∀ j (hj : j < ks.length), at0 < j → pos < (ks[j]).p := fun j hj h9 => by have := krise H1.out.rise hi hj h9; omega

    obtain ⟨g, cap, hvk, hc1, hc2, hg, hcell⟩ := krow_cells H1.out.row (i := at0) hi
    subst hvk
    obtain ⟨d0, d1⟩ := hcell (at0) hi
    obtain ⟨-, e1, -⟩ := kcells2 H1.out.blk
    have HOK := H1.out.its (ks[at0]) (List.getElem_mem hi)
    obtain ⟨kb, kc, hkv, -, -⟩ := kown_val HOK.1
    have HCC : Hid (Calls Try.prog 16 #[.slice kb (ks[at0]).b.length kc] w1.drew fun e w' => ∃ v', e = .returned v' ∧ w'.ownsRow w1.drew.heap.size 5 1 v' (ks[at0]).b.length (Lib.byteCells (ks[at0]).b) ∧ Below w1.drew.heap.size w1.drew w') := by
      have := kClone_any (ks[at0]).v (ks[at0]).b w1.drew (bytesAt_below (bytesAt_own HOK.1) ((Below.refl _ w1).drew) (Nat.le_refl _)) HOK.2.1
      rw [hkv] at this
      exact this
    have HFL : Hid (∀ v w2, w2.ownsRow w1.drew.heap.size 5 1 v (ks[at0]).b.length (Lib.byteCells (ks[at0]).b) → Below w1.drew.heap.size w1.drew w2 → FlRet w ks pos (.returned (.tuple #[.int .i64 (ks[at0]).p, v, .bool true])) w2) := fun v w2 ho hb =>
      ⟨HB1.out.trans (((Below.refl _ w1).drew.trans hb).mono HB1.out.size), .inr ⟨at0, hi, v, rfl, kown_base ho HB1.out.size, hp1, hp2⟩⟩
    have hlg := hg
    have hlh := H1.out.lt
    have HLH : Hid (h < w1.heap.size ∧ g < w1.heap.size) := ⟨hlh, hlg⟩
    rw [hkv] at d1
    obtain ⟨n, hn⟩ : ∃ n, n = ks.length := ⟨_, rfl⟩
    rw [← hn] at e1 hc1 few
    have hin : at0 < n := by omega
    obtain ⟨bn, hbn⟩ : ∃ bn, bn = (ks[at0]).b.length := ⟨_, rfl⟩
    obtain ⟨bb, hbb⟩ : ∃ bb, bb = (ks[at0]).b := ⟨_, rfl⟩
    obtain ⟨kp, hkp⟩ : ∃ kp, kp = (ks[at0]).p := ⟨_, rfl⟩
    rw [← hbn] at d1 HCC HFL
    rw [← hbb] at HCC HFL
    rw [← hkp] at d0 HFL
    have D0 : Hid (w1.cell? ⟨g, (at0) * 2, none⟩ = some (.int .i64 kp)) := d0
    have E1 : Hid (w1.cell? ⟨h, 1, none⟩ = some (.slice (some ⟨g, 0, none⟩) n cap)) := e1
    clear hcell HOK hkv hp1 hp2 hpe hi hn hbn hbb hkp hlg hlh HA HB1 H1 hle HH hg hc2
    go_wp2_with fail
    go_region_with (first
      | (refine HCC.out.mono ?_
         rintro e w2 ⟨v, rfl, ho2, hb2⟩
         have HR := HFL.out v w2 ho2 hb2
         have d2 : w2.cell? ⟨g, (at0) * 2, none⟩ = some (.int .i64 kp) := (kbelow_cell hb2 HLH.out.2).trans D0.out
         have e2 : w2.cell? ⟨h, 1, none⟩ = some (.slice (some ⟨g, 0, none⟩) n cap) := (kbelow_cell hb2 HLH.out.1).trans E1.out
         obtain ⟨vb, vc, rfl, -, -⟩ := kown_val ho2
         clear ho2 hb2))
    all_goals (go_wp2; go_ret3; exact HR)
  | false =>
    have hni : ∀ j (hj : j < ks.length), at0 ≤ j → pos < (ks[j]).p := fun j hj h9 => by
      have h1 := HA.out.hi j hj h9
      have h2 : at0 < ks.length := by omega
      have h3 : ¬ (ks[at0]).p = pos := fun e => by
        have := HA.out.is.2 ⟨h2, e⟩
        cases this
      have h4 := HA.out.hi at0 h2 (Nat.le_refl _)
      rcases Nat.eq_or_lt_of_le h9 with rfl | h5
      · omega
      · have := krise H1.out.rise h2 hj h5; omega
    rcases Nat.eq_zero_or_pos at0 with rfl | h0
    · have HR : Hid (FlRet w ks pos (.returned (.tuple #[.int .i64 0, .slice none 0 0, .bool false])) w1) := ⟨HB1.out, .inl ⟨rfl, fun k hk => by
        obtain ⟨j, hj, rfl⟩ := List.getElem_of_mem hk
        exact hni j hj (Nat.zero_le _)⟩⟩
      clear HA hni
      go_wp2
      go_ret3
      exact HR.out
    · obtain ⟨a1, rfl⟩ : ∃ a1, at0 = a1 + 1 := ⟨at0 - 1, by omega⟩
      have hi : a1 < ks.length := by omega
      have hp1 : (ks[a1]).p ≤ pos := by have := HA.out.lo a1 hi (by omega); omega
      have hp2 : ∀ j (hj : j < ks.length), a1 < j → pos < (ks[j]).p := fun j hj h9 => hni j hj h9
      clear hni

      obtain ⟨g, cap, hvk, hc1, hc2, hg, hcell⟩ := krow_cells H1.out.row (i := a1) hi
      subst hvk
      obtain ⟨d0, d1⟩ := hcell (a1) hi
      obtain ⟨-, e1, -⟩ := kcells2 H1.out.blk
      have HOK := H1.out.its (ks[a1]) (List.getElem_mem hi)
      obtain ⟨kb, kc, hkv, -, -⟩ := kown_val HOK.1
      have HCC : Hid (Calls Try.prog 16 #[.slice kb (ks[a1]).b.length kc] w1.drew fun e w' => ∃ v', e = .returned v' ∧ w'.ownsRow w1.drew.heap.size 5 1 v' (ks[a1]).b.length (Lib.byteCells (ks[a1]).b) ∧ Below w1.drew.heap.size w1.drew w') := by
        have := kClone_any (ks[a1]).v (ks[a1]).b w1.drew (bytesAt_below (bytesAt_own HOK.1) ((Below.refl _ w1).drew) (Nat.le_refl _)) HOK.2.1
        rw [hkv] at this
        exact this
      have HFL : Hid (∀ v w2, w2.ownsRow w1.drew.heap.size 5 1 v (ks[a1]).b.length (Lib.byteCells (ks[a1]).b) → Below w1.drew.heap.size w1.drew w2 → FlRet w ks pos (.returned (.tuple #[.int .i64 (ks[a1]).p, v, .bool true])) w2) := fun v w2 ho hb =>
        ⟨HB1.out.trans (((Below.refl _ w1).drew.trans hb).mono HB1.out.size), .inr ⟨a1, hi, v, rfl, kown_base ho HB1.out.size, hp1, hp2⟩⟩
      have hlg := hg
      have hlh := H1.out.lt
      have HLH : Hid (h < w1.heap.size ∧ g < w1.heap.size) := ⟨hlh, hlg⟩
      rw [hkv] at d1
      obtain ⟨n, hn⟩ : ∃ n, n = ks.length := ⟨_, rfl⟩
      rw [← hn] at e1 hc1 few
      have hin : a1 < n := by omega
      obtain ⟨bn, hbn⟩ : ∃ bn, bn = (ks[a1]).b.length := ⟨_, rfl⟩
      obtain ⟨bb, hbb⟩ : ∃ bb, bb = (ks[a1]).b := ⟨_, rfl⟩
      obtain ⟨kp, hkp⟩ : ∃ kp, kp = (ks[a1]).p := ⟨_, rfl⟩
      rw [← hbn] at d1 HCC HFL
      rw [← hbb] at HCC HFL
      rw [← hkp] at d0 HFL
      have D0 : Hid (w1.cell? ⟨g, (a1) * 2, none⟩ = some (.int .i64 kp)) := d0
      have E1 : Hid (w1.cell? ⟨h, 1, none⟩ = some (.slice (some ⟨g, 0, none⟩) n cap)) := e1
      clear hcell HOK hkv hp1 hp2 hi hn hbn hbb hkp hlg hlh HA HB1 H1 hle HH hg hc2
      go_wp2_with fail
      go_region_with (first
        | (refine HCC.out.mono ?_
           rintro e w2 ⟨v, rfl, ho2, hb2⟩
           have HR := HFL.out v w2 ho2 hb2
           have d2 : w2.cell? ⟨g, (a1) * 2, none⟩ = some (.int .i64 kp) := (kbelow_cell hb2 HLH.out.2).trans D0.out
           have e2 : w2.cell? ⟨h, 1, none⟩ = some (.slice (some ⟨g, 0, none⟩) n cap) := (kbelow_cell hb2 HLH.out.1).trans E1.out
           obtain ⟨vb, vc, rfl, -, -⟩ := kown_val ho2
           clear ho2 hb2))
      all_goals (go_wp2; go_ret3; exact HR)

end Go.Proofs.Ytancnmbgncofiaa
