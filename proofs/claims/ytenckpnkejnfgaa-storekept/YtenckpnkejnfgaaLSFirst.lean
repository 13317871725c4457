/- Once there is a position, there is always one that is not above it. -/
import Derived.Test.YtenckpnkejnfgaaKActs
import Derived.Test.YtenckpnkejnfgaaKFirstM
namespace Go.Proofs.Ytenckpnkejnfgaa
open Go.RowKit

theorem kMost_eq (m : Int) : (kMost m : Nat) = (max 1 (min m 64)).toNat := by unfold kMost; omega
theorem kgetD_rise {ps : List Int} (hr : ps.Pairwise (· < ·)) {k : Nat} (h0 : 0 < k) (hk : k < ps.length) : ps.getD (k - 1) 0 < ps.getD k 0 := by
  rw [List.getD_eq_getElem?_getD, List.getD_eq_getElem?_getD, List.getElem?_eq_getElem hk, List.getElem?_eq_getElem (show k - 1 < ps.length by omega)]
  exact List.pairwise_iff_getElem.1 hr (k - 1) k (by omega) hk (by omega)
theorem kints_at {w : World} {B : Nat} {ba : Option Addr} {n ca : Nat} {l : List PB} (h : w.ownsRow B 3 1 (.slice ba n ca) l.length (intC (l.map (·.1)))) : ∀ j (_ : j < l.length), ∃ g, ba = some ⟨g, 0, none⟩ ∧ g < w.heap.size ∧ w.cell? ⟨g, j, none⟩ = some (.int .i64 ((l.map (·.1)).getD j 0)) := fun j hj => by
  rcases h.2 with ⟨-, h0⟩ | ⟨g, cap, cur, hv, _, hg, _⟩
  · omega
  · cases hv
    have hj' : j < (l.map (·.1)).length := by simpa using hj
    have := h.cells (g := g) rfl j (.int .i64 ((l.map (·.1))[j])) (by unfold intC; rw [List.getElem?_map, List.getElem?_eq_getElem hj']; rfl)
    rw [add_zero'] at this
    rw [List.getD_eq_getElem?_getD, List.getElem?_eq_getElem hj']
    exact ⟨g, rfl, (Array.getElem?_eq_some_iff.1 hg).1, this⟩

/-- Between two rounds: the store, made behind w. -/
structure FiIn (w : World) (m : Int) (h : Nat) (l : List PB) (vk : Value) (wr : World) : Prop where
  s : StX w.heap.size wr (kMost m) l h vk
  b : Below w.heap.size w wr
theorem FiIn.below {w : World} {m : Int} {h : Nat} {l : List PB} {vk : Value} {wr w2 : World} (H : FiIn w m h l vk wr) (hb : Below wr.heap.size wr w2) : FiIn w m h l vk w2 := ⟨H.s.below hb, H.b.trans (hb.mono H.s.low)⟩
theorem FiIn.put {w : World} {m : Int} {h : Nat} {l l' : List PB} {vk vk' : Value} {wr w2 : World} (H : FiIn w m h l vk wr) (hs : StX w.heap.size w2 (kMost m) l' h vk') (hk : KpS (fun k => k = h ∨ vk.ownBlock = some k) wr w2) : FiIn w m h l' vk' w2 := ⟨hs, H.b.trans (H.s.stays hk)⟩

set_option maxHeartbeats 16000000 in
set_option maxRecDepth 100000 in
theorem sfirst_walk (m : Int) (base : Option Addr) (cap : Nat) (ls : List PB) (w : World) (hacts : kactsAt w base ls) (hlc : ls.length ≤ cap) :
    Calls Try.prog 4 #[.int .i64 m, .slice base ls.length cap] w fun e w' => e = .returned (.bool true) ∧ Below w.heap.size w w' := by
  obtain ⟨na, hna⟩ : ∃ na, na = ls.length := ⟨_, rfl⟩
  have HNA : Hid (na = ls.length) := hna
  rw [← hna] at hlc ⊢
  clear hna
  by_cases hbig : 300 < na
  · go_enter Try.func4, Try.ntmps4
    go_wp2_with fail
    refine (lives11_any w).mono ?_
    rintro e w1 ⟨rfl, hb⟩
    go_wp2
    go_ret
    exact ⟨rfl, hb⟩
  · have hacts' : Hid (kactsAt w base ls) := hacts
    clear hacts
    go_enter Try.func4, Try.ntmps4
    go_wp2_with fail
    refine (kNewX m w).mono ?_
    rintro e w1 ⟨h, rfl, hst, hb1⟩
    have HF1 : Hid (FiIn w m h [] (.slice none 0 0) w1) := ⟨hst, hb1⟩
    clear hst hb1
    go_wp2
    go_loopw [6, 7] (fun ve vi wr => ∃ i : Nat, i ≤ na ∧ vi = .int .i64 (i : Int) ∧ ∃ l vk, ve = .int .i64 (leastI l) ∧ FiIn w m h l vk wr) (fun _ vi _ => na - (intOf vi).toNat)
    case atStart => exact ⟨0, Nat.zero_le _, rfl, [], _, rfl, HF1.out⟩
    case round =>
      clear HF1
      obtain ⟨i, hin, rfl, l0, vk, rfl, hfi⟩ := hrel
      have HF : Hid (FiIn w m h l0 vk wr) := hfi
      clear hfi
      by_cases hlt : i < na
      · have hil : i < ls.length := by rw [← HNA.out]; exact hlt
        rcases hacts'.out with h0 | ⟨ab, ao, rfl, hcell⟩
        · rw [h0] at hil; simp at hil
        · obtain ⟨d0, -, hp1, hp2⟩ := hcell i hil
          obtain ⟨ap, hap⟩ : ∃ ap, ap = (ls[i]).1 := ⟨_, rfl⟩
          rw [← hap] at d0 hp1 hp2
          have halt : ab < w.heap.size := World.block_lt_of_cell? w _ d0
          have D0 : Hid (w.cell? ⟨ab, ao + i * 2, none⟩ = some (.int .i64 ap)) := d0
          have e0 : wr.cell? ⟨ab, ao + i * 2, none⟩ = some (.int .i64 ap) := (kbelow_cell HF.out.b halt).trans d0
          clear hap
          by_cases hneg : ap < 0
          · skip
            have HPC : Hid (Calls Try.prog 12 #[.pointer (some ⟨h, 0, none⟩), .int .i64 ap, .slice none 0 0] wr fun e w' => e = .returned (.int .i64 2) ∧ wr = w') := kPutX_neg _ _ l0 h vk ap (.slice none 0 0) wr HF.out.s hneg
            obtain ⟨LE0, hLE0⟩ : ∃ LE0, LE0 = leastI l0 := ⟨_, rfl⟩
            have HLE : Hid (leastI l0 = LE0) := hLE0.symm
            rw [← hLE0]
            obtain ⟨L, hLL⟩ : ∃ L, L = l0 := ⟨_, rfl⟩
            obtain ⟨vk2, hvk2⟩ : ∃ v, v = vk := ⟨_, rfl⟩
            rw [← hLL] at HLE HF
            rw [← hvk2] at HF
            have t0 : ¬ 0 ≤ ap := by omega
            have t00 : decide (0 ≤ ap) = false := by simp; omega
            clear hLE0 hLL hvk2
            have HF2 : Hid (FiIn w m h L vk2 wr) := HF.out
            clear HF
            go_wp2_with fail
            refine HPC.out.mono ?_
            rintro e w2 ⟨rfl, rfl⟩
            clear HPC
            have HAC : Hid (Calls Try.prog 16 #[.pointer (some ⟨h, 0, none⟩)] wr fun e w' => ∃ v, e = .returned v ∧ w'.ownsRow wr.heap.size 3 1 v L.length (intC (L.map (·.1))) ∧ Below wr.heap.size wr w') := kAllX _ _ L h vk2 wr HF2.out.s
            go_wp2_with fail
            refine HAC.out.mono ?_
            rintro e w3 ⟨va, rfl, hoa, hb3⟩
            obtain ⟨ba, ca, hva, hca1, hca⟩ := kown_val hoa
            have H3 : Hid (FiIn w m h L vk2 w3) := HF2.out.below hb3
            have HOA : Hid (w3.ownsRow 0 3 1 va L.length (intC (L.map (·.1)))) := kown_base hoa (Nat.zero_le _)
            subst hva
            clear hoa hb3 HAC
            obtain ⟨n, hn⟩ : ∃ n, n = L.length := ⟨_, rfl⟩
            have HNL : Hid (n = L.length) := hn
            have hnm : (n : Int) ≤ max 1 (min m 64) := by have := HF2.out.s.few; rw [kMost_eq] at this; omega
            have hn64 : n ≤ 64 := by have := HF2.out.s.few; have := HF2.out.s.most1; omega
            have hcells : Hid (∀ j (_ : j < n), ∃ g, ba = some ⟨g, 0, none⟩ ∧ g < w3.heap.size ∧ w3.cell? ⟨g, j, none⟩ = some (.int .i64 ((L.map (·.1)).getD j 0))) := by rw [hn]; exact kints_at HOA.out
            have tg : ¬ max 1 (min m 64) < (n : Int) := by omega
            have HRISE : Hid (∀ k, 0 < k → k < n → (L.map (·.1)).getD (k - 1) 0 < (L.map (·.1)).getD k 0) := fun k h0 hk => kgetD_rise HF2.out.s.rise h0 (by rw [List.length_map, ← HNL.out]; exact hk)
            have HPL : Hid (0 < n → (L.map (·.1)).getD 0 0 = leastI L ∧ 0 ≤ leastI L) := fun h9 => by
              cases L with
              | nil => have := HNL.out; simp at this; omega
              | cons x t => exact ⟨rfl, (HF2.out.s.pos x (by simp)).1⟩
            have HP0 : Hid (n = 0 → leastI L = -1) := fun h9 => by
              cases L with
              | nil => rfl
              | cons x t => have := HNL.out; simp at this; omega
            rw [← hn] at hca1 HOA ⊢
            clear hn HF2 HOA
            rcases Nat.eq_zero_or_pos n with hn0 | hn0
            · obtain rfl := hn0
              have hle : LE0 = -1 := by rw [← HLE.out]; exact HP0.out rfl
              clear hcells tg hnm HPL HRISE HP0
              have t1 : decide (LE0 < 0) = true := by simp; omega
              go_wp2
              go_loopw [9] (fun vk wr => vk = .int .i64 1 ∧ FiIn w m h L vk2 wr) (fun _ _ => 0)
              case atStart => exact ⟨rfl, H3.out⟩
              case round =>
                obtain ⟨rfl, hfi⟩ := hrel
                go_wp2
                go_roundw
                case rel => exact ⟨i + 1, by omega, by go_num, L, vk2, by rw [HLE.out, hle], hfi⟩
                case measure => simp [intOf]; omega
            · obtain ⟨g, rfl, hg, c0⟩ := hcells.out 0 hn0
              rw [(HPL.out hn0).1, HLE.out] at c0
              have hle0 : 0 ≤ LE0 := by rw [← HLE.out]; exact (HPL.out hn0).2
              have t1 : ((n : Int) == 0) = false := by simp; omega
              have t2 : decide (LE0 < 0) = false := by simp; omega
              have t3 : ¬ LE0 < 0 := by omega
              have t4 : (LE0 != LE0) = false := by simp
              have t5 : decide ((0 : Int) < (n : Int)) = true := by simp; omega
              clear HPL HP0
              go_wp2
              go_loopw [9] (fun vk wr => ∃ k : Nat, vk = .int .i64 (k : Int) ∧ 1 ≤ k ∧ k ≤ n ∧ FiIn w m h L vk2 wr ∧ ∀ j, j < n → wr.cell? ⟨g, j, none⟩ = some (.int .i64 ((L.map (·.1)).getD j 0))) (fun vk _ => n - (intOf vk).toNat)
              case atStart => exact ⟨1, rfl, Nat.le_refl _, hn0, H3.out, fun j hj => by obtain ⟨g', e, _, hc⟩ := hcells.out j hj; cases e; exact hc⟩
              case round =>
                obtain ⟨k, rfl, hk1, hkn, hfi, hall⟩ := hrel
                have HFI : Hid (FiIn w m h L vk2 wr) := hfi
                have HALL : Hid (∀ j, j < n → wr.cell? ⟨g, j, none⟩ = some (.int .i64 ((L.map (·.1)).getD j 0))) := hall
                clear hfi hall hcells c0
                by_cases hk : k < n
                · have c1 := HALL.out k hk
                  have c2 := HALL.out (k - 1) (by omega)
                  have hr := HRISE.out k (by omega) hk
                  obtain ⟨a, ha⟩ : ∃ a, a = (L.map (·.1)).getD k 0 := ⟨_, rfl⟩
                  obtain ⟨b, hb⟩ : ∃ b, b = (L.map (·.1)).getD (k - 1) 0 := ⟨_, rfl⟩
                  rw [← ha] at c1 hr
                  rw [← hb] at c2 hr
                  have hi1 : ((k : Int) - 1) = ((k - 1 : Nat) : Int) := by omega
                  have t6 : ¬ a ≤ b := by omega
                  have HFD : Hid (FiIn w m h L vk2 wr.drew) := HFI.out.below ((Below.refl _ _).drew)
                  clear ha hb
                  go_wp2_with fail
                  go_region
                  go_wp2
                  go_roundw
                  case rel => exact ⟨k + 1, by go_num, by omega, by omega, HFD.out, HALL.out⟩
                  case measure => simp [intOf]; omega
                · go_wp2
                  go_roundw
                  case rel => exact ⟨i + 1, by omega, by go_num, L, vk2, by rw [HLE.out], HFI.out⟩
                  case measure => simp [intOf]; omega
          · skip
            have HPC : Hid (Calls Try.prog 12 #[.pointer (some ⟨h, 0, none⟩), .int .i64 ap, .slice none 0 0] wr fun e w' => e = .returned (.int .i64 0) ∧ PutX w.heap.size wr (kMost m) (putF (kMost m) l0 (ap, [])) h vk w') := kPutX _ _ l0 h vk ap (.slice none 0 0) [] wr HF.out.s (by omega) hp2 (bytesAt_nil _) (by simp)
            obtain ⟨L, hL⟩ : ∃ L, L = putF (kMost m) l0 (ap, []) := ⟨_, rfl⟩
            have HLP : Hid (leastI L = if leastI l0 < 0 ∨ ap < leastI l0 then ap else leastI l0) := by show _ = _; rw [hL]; exact leastI_put HF.out.s.most1.1 HF.out.s.rise (fun x hx => (HF.out.s.pos x hx).1) (ap, [])
            rw [← hL] at HPC
            obtain ⟨LE0, hLE0⟩ : ∃ LE0, LE0 = leastI l0 := ⟨_, rfl⟩
            rw [← hLE0] at HLP ⊢
            have t0 : 0 ≤ ap := by omega
            have t00 : decide (0 ≤ ap) = true := by simp; omega
            clear hL hLE0
            go_wp2_with fail
            refine HPC.out.mono ?_
            rintro e w2 ⟨rfl, vk2, hst, hks, -⟩
            have HF2 : Hid (FiIn w m h L vk2 w2) := HF.out.put hst hks
            have d2 : w2.cell? ⟨ab, ao + i * 2, none⟩ = some (.int .i64 ap) := (kbelow_cell HF2.out.b halt).trans D0.out
            clear hst hks HPC e0 HF
            by_cases hA : LE0 < 0
            · skip
              have t01 : decide (LE0 < 0) = true := by simp; omega
              have HLE : Hid (leastI L = ap) := by show _ = _; rw [HLP.out, if_pos (.inl hA)]
              clear HLP
              have HAC : Hid (Calls Try.prog 16 #[.pointer (some ⟨h, 0, none⟩)] w2 fun e w' => ∃ v, e = .returned v ∧ w'.ownsRow w2.heap.size 3 1 v L.length (intC (L.map (·.1))) ∧ Below w2.heap.size w2 w') := kAllX _ _ L h vk2 w2 HF2.out.s
              go_wp2_with fail
              refine HAC.out.mono ?_
              rintro e w3 ⟨va, rfl, hoa, hb3⟩
              obtain ⟨ba, ca, hva, hca1, hca⟩ := kown_val hoa
              have H3 : Hid (FiIn w m h L vk2 w3) := HF2.out.below hb3
              have HOA : Hid (w3.ownsRow 0 3 1 va L.length (intC (L.map (·.1)))) := kown_base hoa (Nat.zero_le _)
              subst hva
              clear hoa hb3 HAC
              obtain ⟨n, hn⟩ : ∃ n, n = L.length := ⟨_, rfl⟩
              have HNL : Hid (n = L.length) := hn
              have hnm : (n : Int) ≤ max 1 (min m 64) := by have := HF2.out.s.few; rw [kMost_eq] at this; omega
              have hn64 : n ≤ 64 := by have := HF2.out.s.few; have := HF2.out.s.most1; omega
              have hcells : Hid (∀ j (_ : j < n), ∃ g, ba = some ⟨g, 0, none⟩ ∧ g < w3.heap.size ∧ w3.cell? ⟨g, j, none⟩ = some (.int .i64 ((L.map (·.1)).getD j 0))) := by rw [hn]; exact kints_at HOA.out
              have tg : ¬ max 1 (min m 64) < (n : Int) := by omega
              have HRISE : Hid (∀ k, 0 < k → k < n → (L.map (·.1)).getD (k - 1) 0 < (L.map (·.1)).getD k 0) := fun k h0 hk => kgetD_rise HF2.out.s.rise h0 (by rw [List.length_map, ← HNL.out]; exact hk)
              have HPL : Hid (0 < n → (L.map (·.1)).getD 0 0 = leastI L ∧ 0 ≤ leastI L) := fun h9 => by
                cases L with
                | nil => have := HNL.out; simp at this; omega
                | cons x t => exact ⟨rfl, (HF2.out.s.pos x (by simp)).1⟩
              have HP0 : Hid (n = 0 → leastI L = -1) := fun h9 => by
                cases L with
                | nil => rfl
                | cons x t => have := HNL.out; simp at this; omega
              rw [← hn] at hca1 HOA ⊢
              clear hn HF2 HOA
              rcases Nat.eq_zero_or_pos n with hn0 | hn0
              · obtain rfl := hn0
                have hle : ap = -1 := by rw [← HLE.out]; exact HP0.out rfl
                exact absurd hle (by omega)
              · obtain ⟨g, rfl, hg, c0⟩ := hcells.out 0 hn0
                rw [(HPL.out hn0).1, HLE.out] at c0
                have hle0 : 0 ≤ ap := by rw [← HLE.out]; exact (HPL.out hn0).2
                have t1 : ((n : Int) == 0) = false := by simp; omega
                have t2 : decide (ap < 0) = false := by simp; omega
                have t3 : ¬ ap < 0 := by omega
                have t4 : (ap != ap) = false := by simp
                have t5 : decide ((0 : Int) < (n : Int)) = true := by simp; omega
                clear HPL HP0
                go_wp2
                go_loopw [9] (fun vk wr => ∃ k : Nat, vk = .int .i64 (k : Int) ∧ 1 ≤ k ∧ k ≤ n ∧ FiIn w m h L vk2 wr ∧ ∀ j, j < n → wr.cell? ⟨g, j, none⟩ = some (.int .i64 ((L.map (·.1)).getD j 0))) (fun vk _ => n - (intOf vk).toNat)
                case atStart => exact ⟨1, rfl, Nat.le_refl _, hn0, H3.out, fun j hj => by obtain ⟨g', e, _, hc⟩ := hcells.out j hj; cases e; exact hc⟩
                case round =>
                  obtain ⟨k, rfl, hk1, hkn, hfi, hall⟩ := hrel
                  have HFI : Hid (FiIn w m h L vk2 wr) := hfi
                  have HALL : Hid (∀ j, j < n → wr.cell? ⟨g, j, none⟩ = some (.int .i64 ((L.map (·.1)).getD j 0))) := hall
                  clear hfi hall hcells c0
                  by_cases hk : k < n
                  · have c1 := HALL.out k hk
                    have c2 := HALL.out (k - 1) (by omega)
                    have hr := HRISE.out k (by omega) hk
                    obtain ⟨a, ha⟩ : ∃ a, a = (L.map (·.1)).getD k 0 := ⟨_, rfl⟩
                    obtain ⟨b, hb⟩ : ∃ b, b = (L.map (·.1)).getD (k - 1) 0 := ⟨_, rfl⟩
                    rw [← ha] at c1 hr
                    rw [← hb] at c2 hr
                    have hi1 : ((k : Int) - 1) = ((k - 1 : Nat) : Int) := by omega
                    have t6 : ¬ a ≤ b := by omega
                    have HFD : Hid (FiIn w m h L vk2 wr.drew) := HFI.out.below ((Below.refl _ _).drew)
                    clear ha hb
                    go_wp2_with fail
                    go_region
                    go_wp2
                    go_roundw
                    case rel => exact ⟨k + 1, by go_num, by omega, by omega, HFD.out, HALL.out⟩
                    case measure => simp [intOf]; omega
                  · go_wp2
                    go_roundw
                    case rel => exact ⟨i + 1, by omega, by go_num, L, vk2, by rw [HLE.out], HFI.out⟩
                    case measure => simp [intOf]; omega
            · by_cases hB : ap < LE0
              · skip
                have t01 : decide (LE0 < 0) = false := by simp; omega
                have t02 : decide (ap < LE0) = true := by simp; omega
                have HLE : Hid (leastI L = ap) := by show _ = _; rw [HLP.out, if_pos (.inr hB)]
                clear HLP
                have HAC : Hid (Calls Try.prog 16 #[.pointer (some ⟨h, 0, none⟩)] w2 fun e w' => ∃ v, e = .returned v ∧ w'.ownsRow w2.heap.size 3 1 v L.length (intC (L.map (·.1))) ∧ Below w2.heap.size w2 w') := kAllX _ _ L h vk2 w2 HF2.out.s
                go_wp2_with fail
                refine HAC.out.mono ?_
                rintro e w3 ⟨va, rfl, hoa, hb3⟩
                obtain ⟨ba, ca, hva, hca1, hca⟩ := kown_val hoa
                have H3 : Hid (FiIn w m h L vk2 w3) := HF2.out.below hb3
                have HOA : Hid (w3.ownsRow 0 3 1 va L.length (intC (L.map (·.1)))) := kown_base hoa (Nat.zero_le _)
                subst hva
                clear hoa hb3 HAC
                obtain ⟨n, hn⟩ : ∃ n, n = L.length := ⟨_, rfl⟩
                have HNL : Hid (n = L.length) := hn
                have hnm : (n : Int) ≤ max 1 (min m 64) := by have := HF2.out.s.few; rw [kMost_eq] at this; omega
                have hn64 : n ≤ 64 := by have := HF2.out.s.few; have := HF2.out.s.most1; omega
                have hcells : Hid (∀ j (_ : j < n), ∃ g, ba = some ⟨g, 0, none⟩ ∧ g < w3.heap.size ∧ w3.cell? ⟨g, j, none⟩ = some (.int .i64 ((L.map (·.1)).getD j 0))) := by rw [hn]; exact kints_at HOA.out
                have tg : ¬ max 1 (min m 64) < (n : Int) := by omega
                have HRISE : Hid (∀ k, 0 < k → k < n → (L.map (·.1)).getD (k - 1) 0 < (L.map (·.1)).getD k 0) := fun k h0 hk => kgetD_rise HF2.out.s.rise h0 (by rw [List.length_map, ← HNL.out]; exact hk)
                have HPL : Hid (0 < n → (L.map (·.1)).getD 0 0 = leastI L ∧ 0 ≤ leastI L) := fun h9 => by
                  cases L with
                  | nil => have := HNL.out; simp at this; omega
                  | cons x t => exact ⟨rfl, (HF2.out.s.pos x (by simp)).1⟩
                have HP0 : Hid (n = 0 → leastI L = -1) := fun h9 => by
                  cases L with
                  | nil => rfl
                  | cons x t => have := HNL.out; simp at this; omega
                rw [← hn] at hca1 HOA ⊢
                clear hn HF2 HOA
                rcases Nat.eq_zero_or_pos n with hn0 | hn0
                · obtain rfl := hn0
                  have hle : ap = -1 := by rw [← HLE.out]; exact HP0.out rfl
                  exact absurd hle (by omega)
                · obtain ⟨g, rfl, hg, c0⟩ := hcells.out 0 hn0
                  rw [(HPL.out hn0).1, HLE.out] at c0
                  have hle0 : 0 ≤ ap := by rw [← HLE.out]; exact (HPL.out hn0).2
                  have t1 : ((n : Int) == 0) = false := by simp; omega
                  have t2 : decide (ap < 0) = false := by simp; omega
                  have t3 : ¬ ap < 0 := by omega
                  have t4 : (ap != ap) = false := by simp
                  have t5 : decide ((0 : Int) < (n : Int)) = true := by simp; omega
                  clear HPL HP0
                  go_wp2
                  go_loopw [9] (fun vk wr => ∃ k : Nat, vk = .int .i64 (k : Int) ∧ 1 ≤ k ∧ k ≤ n ∧ FiIn w m h L vk2 wr ∧ ∀ j, j < n → wr.cell? ⟨g, j, none⟩ = some (.int .i64 ((L.map (·.1)).getD j 0))) (fun vk _ => n - (intOf vk).toNat)
                  case atStart => exact ⟨1, rfl, Nat.le_refl _, hn0, H3.out, fun j hj => by obtain ⟨g', e, _, hc⟩ := hcells.out j hj; cases e; exact hc⟩
                  case round =>
                    obtain ⟨k, rfl, hk1, hkn, hfi, hall⟩ := hrel
                    have HFI : Hid (FiIn w m h L vk2 wr) := hfi
                    have HALL : Hid (∀ j, j < n → wr.cell? ⟨g, j, none⟩ = some (.int .i64 ((L.map (·.1)).getD j 0))) := hall
                    clear hfi hall hcells c0
                    by_cases hk : k < n
                    · have c1 := HALL.out k hk
                      have c2 := HALL.out (k - 1) (by omega)
                      have hr := HRISE.out k (by omega) hk
                      obtain ⟨a, ha⟩ : ∃ a, a = (L.map (·.1)).getD k 0 := ⟨_, rfl⟩
                      obtain ⟨b, hb⟩ : ∃ b, b = (L.map (·.1)).getD (k - 1) 0 := ⟨_, rfl⟩
                      rw [← ha] at c1 hr
                      rw [← hb] at c2 hr
                      have hi1 : ((k : Int) - 1) = ((k - 1 : Nat) : Int) := by omega
                      have t6 : ¬ a ≤ b := by omega
                      have HFD : Hid (FiIn w m h L vk2 wr.drew) := HFI.out.below ((Below.refl _ _).drew)
                      clear ha hb
                      go_wp2_with fail
                      go_region
                      go_wp2
                      go_roundw
                      case rel => exact ⟨k + 1, by go_num, by omega, by omega, HFD.out, HALL.out⟩
                      case measure => simp [intOf]; omega
                    · go_wp2
                      go_roundw
                      case rel => exact ⟨i + 1, by omega, by go_num, L, vk2, by rw [HLE.out], HFI.out⟩
                      case measure => simp [intOf]; omega
              · skip
                have t01 : decide (LE0 < 0) = false := by simp; omega
                have t02 : decide (ap < LE0) = false := by simp; omega
                have HLE : Hid (leastI L = LE0) := by show _ = _; rw [HLP.out, if_neg (by omega)]
                clear HLP
                have HAC : Hid (Calls Try.prog 16 #[.pointer (some ⟨h, 0, none⟩)] w2 fun e w' => ∃ v, e = .returned v ∧ w'.ownsRow w2.heap.size 3 1 v L.length (intC (L.map (·.1))) ∧ Below w2.heap.size w2 w') := kAllX _ _ L h vk2 w2 HF2.out.s
                go_wp2_with fail
                refine HAC.out.mono ?_
                rintro e w3 ⟨va, rfl, hoa, hb3⟩
                obtain ⟨ba, ca, hva, hca1, hca⟩ := kown_val hoa
                have H3 : Hid (FiIn w m h L vk2 w3) := HF2.out.below hb3
                have HOA : Hid (w3.ownsRow 0 3 1 va L.length (intC (L.map (·.1)))) := kown_base hoa (Nat.zero_le _)
                subst hva
                clear hoa hb3 HAC
                obtain ⟨n, hn⟩ : ∃ n, n = L.length := ⟨_, rfl⟩
                have HNL : Hid (n = L.length) := hn
                have hnm : (n : Int) ≤ max 1 (min m 64) := by have := HF2.out.s.few; rw [kMost_eq] at this; omega
                have hn64 : n ≤ 64 := by have := HF2.out.s.few; have := HF2.out.s.most1; omega
                have hcells : Hid (∀ j (_ : j < n), ∃ g, ba = some ⟨g, 0, none⟩ ∧ g < w3.heap.size ∧ w3.cell? ⟨g, j, none⟩ = some (.int .i64 ((L.map (·.1)).getD j 0))) := by rw [hn]; exact kints_at HOA.out
                have tg : ¬ max 1 (min m 64) < (n : Int) := by omega
                have HRISE : Hid (∀ k, 0 < k → k < n → (L.map (·.1)).getD (k - 1) 0 < (L.map (·.1)).getD k 0) := fun k h0 hk => kgetD_rise HF2.out.s.rise h0 (by rw [List.length_map, ← HNL.out]; exact hk)
                have HPL : Hid (0 < n → (L.map (·.1)).getD 0 0 = leastI L ∧ 0 ≤ leastI L) := fun h9 => by
                  cases L with
                  | nil => have := HNL.out; simp at this; omega
                  | cons x t => exact ⟨rfl, (HF2.out.s.pos x (by simp)).1⟩
                have HP0 : Hid (n = 0 → leastI L = -1) := fun h9 => by
                  cases L with
                  | nil => rfl
                  | cons x t => have := HNL.out; simp at this; omega
                rw [← hn] at hca1 HOA ⊢
                clear hn HF2 HOA
                rcases Nat.eq_zero_or_pos n with hn0 | hn0
                · obtain rfl := hn0
                  have hle : LE0 = -1 := by rw [← HLE.out]; exact HP0.out rfl
                  exact absurd hle (by omega)
                · obtain ⟨g, rfl, hg, c0⟩ := hcells.out 0 hn0
                  rw [(HPL.out hn0).1, HLE.out] at c0
                  have hle0 : 0 ≤ LE0 := by rw [← HLE.out]; exact (HPL.out hn0).2
                  have t1 : ((n : Int) == 0) = false := by simp; omega
                  have t2 : decide (LE0 < 0) = false := by simp; omega
                  have t3 : ¬ LE0 < 0 := by omega
                  have t4 : (LE0 != LE0) = false := by simp
                  have t5 : decide ((0 : Int) < (n : Int)) = true := by simp; omega
                  clear HPL HP0
                  go_wp2
                  go_loopw [9] (fun vk wr => ∃ k : Nat, vk = .int .i64 (k : Int) ∧ 1 ≤ k ∧ k ≤ n ∧ FiIn w m h L vk2 wr ∧ ∀ j, j < n → wr.cell? ⟨g, j, none⟩ = some (.int .i64 ((L.map (·.1)).getD j 0))) (fun vk _ => n - (intOf vk).toNat)
                  case atStart => exact ⟨1, rfl, Nat.le_refl _, hn0, H3.out, fun j hj => by obtain ⟨g', e, _, hc⟩ := hcells.out j hj; cases e; exact hc⟩
                  case round =>
                    obtain ⟨k, rfl, hk1, hkn, hfi, hall⟩ := hrel
                    have HFI : Hid (FiIn w m h L vk2 wr) := hfi
                    have HALL : Hid (∀ j, j < n → wr.cell? ⟨g, j, none⟩ = some (.int .i64 ((L.map (·.1)).getD j 0))) := hall
                    clear hfi hall hcells c0
                    by_cases hk : k < n
                    · have c1 := HALL.out k hk
                      have c2 := HALL.out (k - 1) (by omega)
                      have hr := HRISE.out k (by omega) hk
                      obtain ⟨a, ha⟩ : ∃ a, a = (L.map (·.1)).getD k 0 := ⟨_, rfl⟩
                      obtain ⟨b, hb⟩ : ∃ b, b = (L.map (·.1)).getD (k - 1) 0 := ⟨_, rfl⟩
                      rw [← ha] at c1 hr
                      rw [← hb] at c2 hr
                      have hi1 : ((k : Int) - 1) = ((k - 1 : Nat) : Int) := by omega
                      have t6 : ¬ a ≤ b := by omega
                      have HFD : Hid (FiIn w m h L vk2 wr.drew) := HFI.out.below ((Below.refl _ _).drew)
                      clear ha hb
                      go_wp2_with fail
                      go_region
                      go_wp2
                      go_roundw
                      case rel => exact ⟨k + 1, by go_num, by omega, by omega, HFD.out, HALL.out⟩
                      case measure => simp [intOf]; omega
                    · go_wp2
                      go_roundw
                      case rel => exact ⟨i + 1, by omega, by go_num, L, vk2, by rw [HLE.out], HFI.out⟩
                      case measure => simp [intOf]; omega
      · obtain rfl : i = na := by omega
        go_wp2_with fail
        refine (lives11_any wr).mono ?_
        rintro e w1 ⟨rfl, hb⟩
        have HB : Hid (Below w.heap.size w w1) := HF.out.b.trans (hb.mono HF.out.s.low)
        go_wp2
        go_ret
        exact ⟨rfl, HB.out⟩
end Go.Proofs.Ytenckpnkejnfgaa
