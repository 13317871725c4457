/- code: the document's own words: are texts names, and different. -/
import Derived.Test.YtechkkphbajmoaaGreatDoorMB
import Derived.Test.YtechkkphbajmoaaGreatDoorMY
import Derived.Deep.DeepCutAuto
import Derived.BigQuiet
namespace Go.Proofs.YtechkkphbajmoaaGreatDoor
open Go.RowKit Go.Shelf

theorem back1D (s : List UInt8) : decide (backB 1 0 s) = nameQ s := by
  have hb : backB 1 0 s ↔ nameQ s = true := by rw [back_plain (by omega) (by omega)]; simp
  cases h : nameQ s with
  | true => exact decide_eq_true (hb.2 h)
  | false => exact decide_eq_false fun h9 => by rw [hb.1 h9] at h; cases h
theorem back3D (s : List UInt8) : decide (backB 3 0 s) = plainQ s := by
  have hb : backB 3 0 s ↔ plainQ s = true := by rw [back_text]; simp
  cases h : plainQ s with
  | true => exact decide_eq_true (hb.2 h)
  | false => exact decide_eq_false fun h9 => by rw [hb.1 h9] at h; cases h
theorem namesOk_bad {l : List (List UInt8)} {i : Nat} (hi : i < l.length) (h : ¬ (backB 1 0 l[i] ∧ l[i] ∉ l.take i)) : decide (NamesOk l) = false := decide_eq_false fun hn => h (hn i hi)

set_option maxRecDepth 100000 in
set_option maxHeartbeats 4000000 in
theorem rfNames (S : Nat → Prop) (l : List (List UInt8)) (v : Value) (w : World) (hin : strsIn S w v l) (hl : ∀ s ∈ l, s.length ≤ 1048576) (hll : l.length ≤ 1048576) :
    Calls Tryz.prog 69 #[v] w fun e w' => e = .returned (.bool (decide (NamesOk l))) ∧ Below w.heap.size w w' := by
  obtain ⟨base, cap, rfl, hc1, hc2, hat⟩ := hin.at
  have HAT : Hid (∀ i (hi : i < l.length), ∃ b o, base = some ⟨b, o, none⟩ ∧ S b ∧ b < w.heap.size ∧ strE w b (o + i * 1) l[i]) := hat
  have HCELL : Hid (∀ W i (hi : i < l.length), Below w.heap.size w W → ∃ b o, base = some ⟨b, o, none⟩ ∧ W.cell? ⟨b, o + i, none⟩ = some (.string (strB l[i]))) := fun W i hi hW => by
    obtain ⟨b, o, e, -, hbl, hc⟩ := HAT.out i hi
    refine ⟨b, o, e, ?_⟩
    have := (below_cell (g := b) (j := o + i * 1) hW hbl).trans hc
    simpa only [Nat.mul_one] using this
  have HL : Hid (∀ s ∈ l, s.length ≤ 1048576) := hl
  have HB0 : Hid (Below w.heap.size w w) := Below.refl _ _
  obtain ⟨R, hR⟩ : ∃ R, R = decide (NamesOk l) := ⟨_, rfl⟩
  have HRE : Hid (R = decide (NamesOk l)) := hR
  rw [← hR]
  have hlI : (l.length : Int) ≤ 1048576 := by omega
  clear hat hin hl hR
  go_enter Tryz.func69, Tryz.ntmps69
  go_wp2
  go_loopw [3] (fun vi wr => ∃ i : Nat, i ≤ l.length ∧ vi = .int .i64 (i : Int) ∧ Hid (∀ j (hj : j < l.length), j < i → backB 1 0 l[j] ∧ l[j] ∉ l.take j) ∧ Below w.heap.size w wr) (fun vi _ => l.length - (intOf vi).toNat)
  case atStart => exact ⟨0, Nat.zero_le _, rfl, fun j _ h => by omega, HB0.out⟩
  case round =>
    obtain ⟨i, hi, rfl, HOK, hbr⟩ := hrel
    have HB : Hid (Below w.heap.size w wr) := hbr
    clear hbr
    by_cases hlt : i < l.length
    · have hi2 : (i : Int) < l.length := by omega
      obtain ⟨b, o, rfl, hcell⟩ := HCELL.out wr i hlt HB.out
      obtain ⟨s, hs⟩ : ∃ s, s = l[i] := ⟨_, rfl⟩
      rw [← hs] at hcell
      have HS : Hid (s = l[i]) := hs
      have cn := refName_any s wr (by have := HL.out _ (List.getElem_mem hlt); rw [hs]; omega)
      rw [← back1D] at cn
      clear hs
      by_cases hbk : backB 1 0 s
      · rw [decide_eq_true hbk] at cn
        have HBK : Hid (backB 1 0 s) := hbk
        clear hbk
        go_wp2_with fail
        refine cn.mono ?_
        clear cn
        rintro e w2 ⟨rfl, hb2⟩
        have HB2 : Hid (Below w.heap.size w w2) := HB.out.trans (hb2.mono HB.out.size)
        clear hb2 hcell
        go_wp2
        go_loopw [4] (fun vk wr => ∃ k : Nat, k ≤ i ∧ vk = .int .i64 (k : Int) ∧ Hid (∀ j (hj : j < l.length), j < k → l[j] ≠ s) ∧ Below w.heap.size w wr) (fun vk _ => i - (intOf vk).toNat)
        case atStart => exact ⟨0, Nat.zero_le _, rfl, fun j _ h => by omega, HB2.out⟩
        case round =>
          obtain ⟨k, hk, rfl, HNE, hbr⟩ := hrel
          have HBk : Hid (Below w.heap.size w wr) := hbr
          clear hbr
          by_cases hkl : k < i
          · have hk2 : (k : Int) < i := by omega
            have hkL : k < l.length := by omega
            have hk3 : (k : Int) < l.length := by omega
            obtain ⟨b1, o1, e1, d1⟩ := HCELL.out wr k hkL HBk.out
            obtain ⟨b2, o2, e2, d2⟩ := HCELL.out wr i hlt HBk.out
            cases e1
            cases e2
            rw [← HS.out] at d2
            obtain ⟨y, hy⟩ : ∃ y, y = l[k] := ⟨_, rfl⟩
            rw [← hy] at d1
            have HY : Hid (y = l[k]) := hy
            clear hy
            by_cases he : y = s
            · subst he
              have HF : Hid (R = false) := HRE.out.trans (namesOk_bad hlt fun h => h.2 (by
                rw [← HS.out, HY.out]
                exact List.mem_take_iff_getElem.2 ⟨k, by omega, rfl⟩))
              go_upto_region 9 with fail
              go_quiet (fail)
              go_wp2
              go_ret
              rw [HF.out]
              exact ⟨rfl, ⟨HBk.out.os, HBk.out.tape, HBk.out.output, HBk.out.size, HBk.out.block⟩⟩
            · have hb : (y == s) = false := by rw [beqL]; exact decide_eq_false he
              have HNX : Hid (∀ j (hj : j < l.length), j < k + 1 → l[j] ≠ s) := fun j hj hjk => by
                by_cases e : j = k
                · subst e
                  rw [← HY.out]; exact he
                · exact HNE.out j hj (by omega)
              clear he
              go_upto_region 9 with fail
              go_quiet (fail)
              go_wp2
              exact ⟨⟨k + 1, by omega, by go_num, HNX, ⟨HBk.out.os, HBk.out.tape, HBk.out.output, HBk.out.size, HBk.out.block⟩⟩, by simp [intOf]; omega⟩
          · obtain rfl : k = i := by omega
            have hk2 : ¬ (k : Int) < k := by omega
            have HNX : Hid (∀ j (hj : j < l.length), j < k + 1 → backB 1 0 l[j] ∧ l[j] ∉ l.take j) := fun j hj hjk => by
              by_cases e : j = k
              · subst e
                refine ⟨by rw [← HS.out]; exact HBK.out, fun hm => ?_⟩
                obtain ⟨q, hq, e2⟩ := List.mem_take_iff_getElem.1 hm
                exact HNE.out q (by omega) (by omega) (by rw [e2, HS.out])
              · exact HOK.out j hj (by omega)
            go_wp2
            exact ⟨⟨k + 1, by omega, by go_num, HNX, HBk.out⟩, by simp [intOf]; omega⟩
      · rw [decide_eq_false hbk] at cn
        have HF : Hid (R = false) := HRE.out.trans (namesOk_bad hlt fun h => hbk (by rw [HS.out]; exact h.1))
        clear hbk
        go_wp2_with fail
        refine cn.mono ?_
        clear cn
        rintro e w2 ⟨rfl, hb2⟩
        have HB2 : Hid (Below w.heap.size w w2) := HB.out.trans (hb2.mono HB.out.size)
        clear hb2 hcell
        go_wp2
        go_ret
        rw [HF.out]
        exact ⟨rfl, HB2.out⟩
    · obtain rfl : i = l.length := by omega
      have hi2 : ¬ (l.length : Int) < l.length := by omega
      have HT : Hid (R = true) := HRE.out.trans (decide_eq_true fun j hj => HOK.out j hj hj)
      go_wp2
      go_ret
      rw [HT.out]
      exact ⟨rfl, HB.out⟩
end Go.Proofs.YtechkkphbajmoaaGreatDoor
