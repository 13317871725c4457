/- Where positions come one after the other. -/
import Derived.Test.YtenckpnkejnfgaaLSFirst
import Derived.Test.YtenckpnkejnfgaaKSpreadM
namespace Go.Proofs.Ytenckpnkejnfgaa
open Go.RowKit

theorem kdiv_far {b x y : Int} (hx : b ∣ x) (hy : b ∣ y) (h : y < x) : b ≤ x - y := by
  have h1 : b ∣ x - y := Int.dvd_sub hx hy
  exact Int.le_of_dvd (by omega) h1

set_option maxHeartbeats 16000000 in
set_option maxRecDepth 100000 in
theorem sspread_walk (m nn b : Int) (w : World) (hn1 : nn ≤ 9223372036854775807) (hb1 : b ≤ 9223372036854775807) :
    Calls Try.prog 6 #[.int .i64 m, .int .i64 nn, .int .i64 b] w fun e w' => e = .returned (.bool true) ∧ Below w.heap.size w w' := by
  by_cases hok : 2 ≤ nn ∧ nn ≤ 400 ∧ 1 ≤ b ∧ b ≤ 1000000
  · obtain ⟨o1, o2, o3, o4⟩ := hok
    obtain ⟨n, rfl⟩ : ∃ n : Nat, nn = (n : Int) := ⟨nn.toNat, by omega⟩
    have q1 : ¬ (n : Int) < 2 := by omega
    have q2 : ¬ 400 < (n : Int) := by omega
    have q3 : ¬ b < 1 := by omega
    have q4 : ¬ 1000000 < b := by omega
    have q5 : ¬ n < 2 := by omega
    have q6 : ¬ 400 < n := by omega
    have q7 : decide ((n : Int) < 2) = false := by simp; omega
    have q8 : decide (400 < (n : Int)) = false := by simp; omega
    have q9 : decide (b < 1) = false := by simp; omega
    have q10 : decide (1000000 < b) = false := by simp; omega
    have hn400 : n ≤ 400 := by omega
    have hn2 : 2 ≤ n := by omega
    clear hn1 hb1 o1 o2
    go_enter Try.func6, Try.ntmps6
    go_wp2_with fail
    refine (kNewX m w).mono ?_
    rintro e w1 ⟨h, rfl, hst, hb1⟩
    have HF1 : Hid (FiIn w m h [] (.slice none 0 0) w1) := ⟨hst, hb1⟩
    clear hst hb1
    go_wp2
    go_loopw [8] (fun vi wr => ∃ i : Nat, i ≤ n ∧ vi = .int .i64 (i : Int) ∧ ∃ l vk, SpI b (kMost m) i l ∧ FiIn w m h l vk wr) (fun vi _ => n - (intOf vi).toNat)
    case atStart => exact ⟨0, Nat.zero_le _, rfl, [], _, SpI.start _ _, HF1.out⟩
    case round =>
      clear HF1
      obtain ⟨i, hin, rfl, l, vk, hsp, hfi⟩ := hrel
      have HF : Hid (FiIn w m h l vk wr) := hfi
      have HSP : Hid (SpI b (kMost m) i l) := hsp
      clear hfi hsp
      by_cases hlt : i < n
      · obtain ⟨P, hP⟩ : ∃ P, P = (i : Int) * b := ⟨_, rfl⟩
        have hP0 : 0 ≤ P := by rw [hP]; exact Int.mul_nonneg (by omega) (by omega)
        have hP1 : P ≤ 400000000 := by
          rw [hP]
          calc (i : Int) * b ≤ 400 * b := Int.mul_le_mul_of_nonneg_right (by omega) (by omega)
            _ ≤ 400 * 1000000 := Int.mul_le_mul_of_nonneg_left o4 (by omega)
        have HNX : Hid (SpI b (kMost m) (i + 1) (putF (kMost m) l (P, [(i % 256).toUInt8]))) := by rw [hP]; exact HSP.out.next (by omega) HF.out.s.most1.1 _
        have HPC : Hid (∀ W vb, Below wr.heap.size wr W → bytesAt W vb [(i % 256).toUInt8] → Calls Try.prog 12 #[.pointer (some ⟨h, 0, none⟩), .int .i64 P, vb] W fun e w' => e = .returned (.int .i64 0) ∧ PutX w.heap.size W (kMost m) (putF (kMost m) l (P, [(i % 256).toUInt8])) h vk w') := fun W vb hW hby =>
          kPutX _ _ l h vk P vb _ W (HF.out.s.below hW) hP0 (by omega) hby (by simp)
        obtain ⟨bq, hbq⟩ : ∃ bq, bq = i % 256 := ⟨_, rfl⟩
        have hbq1 : bq < 256 := by omega
        have hbq2 : ((i : Int) % 256) = (bq : Int) := by omega
        have hPm : (i : Int) * b = P := hP.symm
        rw [← hbq] at HPC HNX
        clear hP hbq
        go_wp2_with fail
        refine (HPC.out _ _ ((Below.refl _ wr).alloc (Nat.le_refl _) _) (bytesAt_new1p wr bq hbq1)).mono ?_
        rintro e w2 ⟨rfl, vk2, hst, hks, -⟩
        have HF2 : Hid (FiIn w m h (putF (kMost m) l (P, [bq.toUInt8])) vk2 w2) := (HF.out.below ((Below.refl _ wr).alloc (Nat.le_refl _) _)).put hst hks
        clear hst hks HPC
        go_wp2
        go_roundw
        case rel => exact ⟨i + 1, by omega, by go_num, _, vk2, HNX.out, HF2.out⟩
        case measure => simp [intOf]; omega
      · obtain rfl : i = n := by omega
        go_wp2_with fail
        refine (kAllX _ _ l h vk wr HF.out.s).mono ?_
        rintro e w3 ⟨va, rfl, hoa, hb3⟩
        obtain ⟨ba, ca, hva, hca1, hca⟩ := kown_val hoa
        have H3 : Hid (FiIn w m h l vk w3) := HF.out.below hb3
        have HOA : Hid (w3.ownsRow 0 3 1 va l.length (intC (l.map (·.1)))) := kown_base hoa (Nat.zero_le _)
        subst hva
        clear hoa hb3
        obtain ⟨k, hk⟩ : ∃ k, k = l.length := ⟨_, rfl⟩
        have HK : Hid (k = l.length) := hk
        have hkm : k = min i (kMost m) := by rw [hk]; exact HSP.out.len
        have hMe : max 1 (min m 64) = ((kMost m : Nat) : Int) := by rw [kMost_int]; omega
        have hM1 := HF.out.s.most1
        obtain ⟨M, hM⟩ : ∃ M, M = kMost m := ⟨_, rfl⟩
        rw [← hM] at hkm hMe hM1
        have hmin : min (i : Int) (M : Int) = (k : Int) := by omega
        have hk1 : 1 ≤ k := by omega
        have hk64 : k ≤ 64 := by omega
        have hcells : Hid (∀ j (_ : j < k), ∃ g, ba = some ⟨g, 0, none⟩ ∧ g < w3.heap.size ∧ w3.cell? ⟨g, j, none⟩ = some (.int .i64 ((l.map (·.1)).getD j 0))) := by rw [hk]; exact kints_at HOA.out
        have HL0 : Hid ((l.map (·.1)).getD 0 0 = 0) := by
          have := HSP.out.first (by omega)
          show _ = _
          cases l with
          | nil => rfl
          | cons x t => exact this
        have HLL : Hid (1 < M → (l.map (·.1)).getD (k - 1) 0 = ((i : Int) - 1) * b) := fun h1 => by
          have := HSP.out.last (by rw [← hM]; exact h1) (by omega)
          rw [List.getLast?_eq_getElem?] at this
          rw [hk, List.getD_eq_getElem?_getD, List.getElem?_map, this]; rfl
        have HMU : Hid (∀ j, j < k → b ∣ (l.map (·.1)).getD j 0) := fun j hj => by
          have hj' : j < l.length := by omega
          rw [List.getD_eq_getElem?_getD, List.getElem?_map, List.getElem?_eq_getElem hj']
          exact HSP.out.mul _ (List.getElem_mem hj')
        have HPO : Hid (∀ j, j < k → 0 ≤ (l.map (·.1)).getD j 0 ∧ (l.map (·.1)).getD j 0 ≤ 9223372036854775807) := fun j hj => by
          have hj' : j < l.length := by omega
          rw [List.getD_eq_getElem?_getD, List.getElem?_map, List.getElem?_eq_getElem hj']
          exact HF.out.s.pos _ (List.getElem_mem hj')
        have HRI : Hid (∀ j, 0 < j → j < k → (l.map (·.1)).getD (j - 1) 0 < (l.map (·.1)).getD j 0) := fun j h0 hj => kgetD_rise HF.out.s.rise h0 (by rw [List.length_map, ← hk]; exact hj)
        obtain ⟨f, hf⟩ : ∃ f : Nat → Int, f = fun j => (l.map (·.1)).getD j 0 := ⟨_, rfl⟩
        have hcells' : Hid (∀ j (_ : j < k), ∃ g, ba = some ⟨g, 0, none⟩ ∧ g < w3.heap.size ∧ w3.cell? ⟨g, j, none⟩ = some (.int .i64 (f j))) := by rw [hf]; exact hcells.out
        have HL0' : f 0 = 0 := by rw [hf]; exact HL0.out
        have HLL' : Hid (1 < M → f (k - 1) = ((i : Int) - 1) * b) := by rw [hf]; exact HLL.out
        have HMU' : Hid (∀ j, j < k → b ∣ f j) := by rw [hf]; exact HMU.out
        have HPO' : Hid (∀ j, j < k → 0 ≤ f j ∧ f j ≤ 9223372036854775807) := by rw [hf]; exact HPO.out
        have HRI' : Hid (∀ j, 0 < j → j < k → f (j - 1) < f j) := by rw [hf]; exact HRI.out
        rw [← hk]
        obtain ⟨g, rfl, hg, c0⟩ := hcells'.out 0 (by omega)
        obtain ⟨g', hg', -, c1⟩ := hcells'.out (k - 1) (by omega)
        cases hg'
        rw [HL0'] at c0
        clear hcells HL0 HLL HMU HPO HRI hf hk hM HSP HF HOA HL0' hkm
        have s1 : ((k : Int) != (k : Int)) = false := by simp
        have s2 : ((k : Int) - 1) = ((k - 1 : Nat) : Int) := by omega
        obtain ⟨Q, hQ⟩ : ∃ Q, Q = ((i : Int) - 1) * b := ⟨_, rfl⟩
        have hQ0 : 0 ≤ Q := by rw [hQ]; exact Int.mul_nonneg (by omega) (by omega)
        have hQ1 : Q ≤ 400000000 := by
          rw [hQ]
          calc ((i : Int) - 1) * b ≤ 400 * b := Int.mul_le_mul_of_nonneg_right (by omega) (by omega)
            _ ≤ 400 * 1000000 := Int.mul_le_mul_of_nonneg_left o4 (by omega)
        have hQm : ((i : Int) - 1) * b = Q := hQ.symm
        rw [← hQ] at HLL'
        have HLK : Hid (1 < M → f (k - 1) = Q) := HLL'.out
        clear hQ HLL'
        by_cases hM2 : 1 < M
        · have hQe : f (k - 1) = Q := HLK.out hM2
          rw [hQe] at c1
          have s3 : (Q != Q) = false := by simp
          have s4 : decide ((1 : Int) < (M : Int)) = true := by simp; omega
          clear hQe HLK
          go_wp2
          go_loopw [11] (fun vj wr => ∃ j : Nat, vj = .int .i64 (j : Int) ∧ j ≤ k ∧ FiIn w m h l vk wr ∧ ∀ j, j < k → wr.cell? ⟨g, j, none⟩ = some (.int .i64 (f j))) (fun vj _ => k - (intOf vj).toNat)
          case atStart => exact ⟨0, rfl, Nat.zero_le _, H3.out, fun j hj => by obtain ⟨g', e, _, hc⟩ := hcells'.out j hj; cases e; exact hc⟩
          case round =>
            obtain ⟨j, rfl, hjk, hfi, hall⟩ := hrel
            have HFI : Hid (FiIn w m h l vk wr) := hfi
            have HALL : Hid (∀ j, j < k → wr.cell? ⟨g, j, none⟩ = some (.int .i64 (f j))) := hall
            clear hfi hall hcells' c0 c1
            by_cases hj : j < k
            · have c2 := HALL.out j hj
              obtain ⟨x, hx⟩ : ∃ x, x = f j := ⟨_, rfl⟩
              have hx0 := HPO'.out j hj
              have hdx := HMU'.out j hj
              rw [← hx] at c2 hx0 hdx
              have hrem : x.tmod b = 0 := Int.tmod_eq_zero_of_dvd hdx
              have hb0 : ¬ b = 0 := by omega
              have hb00 : (b == 0) = false := by simp; omega
              have r0 : ((0 : Int) != 0) = false := rfl
              have HFD : Hid (∀ q, FiIn w m h l vk (wr.drewN q)) := fun q => HFI.out.below ⟨rfl, rfl, rfl, Nat.le_refl _, fun _ _ => rfl⟩
              rcases Nat.eq_zero_or_pos j with hj0 | hj0
              · subst hj0
                clear hx hdx
                go_wp2_with fail
                go_quiet (fail)
                go_wp2
                go_roundw
                case rel => exact ⟨1, by go_num, by omega, HFD.out _, HALL.out⟩
                case measure => simp [intOf]; omega
              · have c3 := HALL.out (j - 1) (by omega)
                have hy0 := HPO'.out (j - 1) (by omega)
                have hfar := kdiv_far (HMU'.out j hj) (HMU'.out (j - 1) (by omega)) (HRI'.out j hj0 hj)
                obtain ⟨y, hy⟩ : ∃ y, y = f (j - 1) := ⟨_, rfl⟩
                rw [← hx, ← hy] at hfar
                rw [← hy] at c3 hy0
                have hi1 : ((j : Int) - 1) = ((j - 1 : Nat) : Int) := by omega
                have hw1 : IntKind.i64.wrap (x - y) = x - y := by rw [IntKind.wrap_i64]; omega
                have r1 : decide ((0 : Int) < (j : Int)) = true := by simp; omega
                have r2 : ¬ x - y < b := by omega
                have r3 : decide (x - y < b) = false := by simp; omega
                clear hx hy hdx
                go_wp2_with fail
                go_quiet (fail)
                go_wp2
                go_roundw
                case rel => exact ⟨j + 1, by go_num, by omega, HFD.out _, HALL.out⟩
                case measure => simp [intOf]; omega
            · go_wp2_with fail
              refine (lives11_any wr).mono ?_
              rintro e w1 ⟨rfl, hb⟩
              have HB : Hid (Below w.heap.size w w1) := HFI.out.b.trans (hb.mono HFI.out.s.low)
              clear hb
              go_wp2
              go_ret
              exact ⟨rfl, HB.out⟩
        · have s4 : decide ((1 : Int) < (M : Int)) = false := by simp; omega
          have s5 : ¬ (1 : Int) < (M : Int) := by omega
          clear HLK
          go_wp2
          go_loopw [11] (fun vj wr => ∃ j : Nat, vj = .int .i64 (j : Int) ∧ j ≤ k ∧ FiIn w m h l vk wr ∧ ∀ j, j < k → wr.cell? ⟨g, j, none⟩ = some (.int .i64 (f j))) (fun vj _ => k - (intOf vj).toNat)
          case atStart => exact ⟨0, rfl, Nat.zero_le _, H3.out, fun j hj => by obtain ⟨g', e, _, hc⟩ := hcells'.out j hj; cases e; exact hc⟩
          case round =>
            obtain ⟨j, rfl, hjk, hfi, hall⟩ := hrel
            have HFI : Hid (FiIn w m h l vk wr) := hfi
            have HALL : Hid (∀ j, j < k → wr.cell? ⟨g, j, none⟩ = some (.int .i64 (f j))) := hall
            clear hfi hall hcells' c0 c1
            by_cases hj : j < k
            · have c2 := HALL.out j hj
              obtain ⟨x, hx⟩ : ∃ x, x = f j := ⟨_, rfl⟩
              have hx0 := HPO'.out j hj
              have hdx := HMU'.out j hj
              rw [← hx] at c2 hx0 hdx
              have hrem : x.tmod b = 0 := Int.tmod_eq_zero_of_dvd hdx
              have hb0 : ¬ b = 0 := by omega
              have hb00 : (b == 0) = false := by simp; omega
              have r0 : ((0 : Int) != 0) = false := rfl
              have HFD : Hid (∀ q, FiIn w m h l vk (wr.drewN q)) := fun q => HFI.out.below ⟨rfl, rfl, rfl, Nat.le_refl _, fun _ _ => rfl⟩
              rcases Nat.eq_zero_or_pos j with hj0 | hj0
              · subst hj0
                clear hx hdx
                go_wp2_with fail
                go_quiet (fail)
                go_wp2
                go_roundw
                case rel => exact ⟨1, by go_num, by omega, HFD.out _, HALL.out⟩
                case measure => simp [intOf]; omega
              · have c3 := HALL.out (j - 1) (by omega)
                have hy0 := HPO'.out (j - 1) (by omega)
                have hfar := kdiv_far (HMU'.out j hj) (HMU'.out (j - 1) (by omega)) (HRI'.out j hj0 hj)
                obtain ⟨y, hy⟩ : ∃ y, y = f (j - 1) := ⟨_, rfl⟩
                rw [← hx, ← hy] at hfar
                rw [← hy] at c3 hy0
                have hi1 : ((j : Int) - 1) = ((j - 1 : Nat) : Int) := by omega
                have hw1 : IntKind.i64.wrap (x - y) = x - y := by rw [IntKind.wrap_i64]; omega
                have r1 : decide ((0 : Int) < (j : Int)) = true := by simp; omega
                have r2 : ¬ x - y < b := by omega
                have r3 : decide (x - y < b) = false := by simp; omega
                clear hx hy hdx
                go_wp2_with fail
                go_quiet (fail)
                go_wp2
                go_roundw
                case rel => exact ⟨j + 1, by go_num, by omega, HFD.out _, HALL.out⟩
                case measure => simp [intOf]; omega
            · go_wp2_with fail
              refine (lives11_any wr).mono ?_
              rintro e w1 ⟨rfl, hb⟩
              have HB : Hid (Below w.heap.size w w1) := HFI.out.b.trans (hb.mono HFI.out.s.low)
              clear hb
              go_wp2
              go_ret
              exact ⟨rfl, HB.out⟩
  · have hl : Hid (∀ W, Below w.heap.size w W → Calls Try.prog 10 #[] W fun e w' => e = .returned (.bool true) ∧ Below w.heap.size w w') := fun W hW => (lives11_any W).mono fun e w' ⟨he, hb⟩ => ⟨he, hW.trans (hb.mono hW.size)⟩
    by_cases h1 : nn < 2
    · have q7 : decide (nn < 2) = true := by simp; omega
      clear hok
      go_enter Try.func6, Try.ntmps6
      go_wp2_with fail
      refine (hl.out _ (Below.refl _ _)).mono ?_
      rintro e w1 ⟨rfl, hb⟩
      go_wp2
      go_ret
      exact ⟨rfl, hb⟩
    · have q7 : decide (nn < 2) = false := by simp; omega
      by_cases h2 : 400 < nn
      · have q8 : decide (400 < nn) = true := by simp; omega
        clear hok
        go_enter Try.func6, Try.ntmps6
        go_wp2_with fail
        refine (hl.out _ (Below.refl _ _)).mono ?_
        rintro e w1 ⟨rfl, hb⟩
        go_wp2
        go_ret
        exact ⟨rfl, hb⟩
      · have q8 : decide (400 < nn) = false := by simp; omega
        by_cases h3 : b < 1
        · have q9 : decide (b < 1) = true := by simp; omega
          clear hok
          go_enter Try.func6, Try.ntmps6
          go_wp2_with fail
          refine (hl.out _ (Below.refl _ _)).mono ?_
          rintro e w1 ⟨rfl, hb⟩
          go_wp2
          go_ret
          exact ⟨rfl, hb⟩
        · have q9 : decide (b < 1) = false := by simp; omega
          have h4 : 1000000 < b := by omega
          have q10 : decide (1000000 < b) = true := by simp; omega
          clear hok
          go_enter Try.func6, Try.ntmps6
          go_wp2_with fail
          refine (hl.out _ (Below.refl _ _)).mono ?_
          rintro e w1 ⟨rfl, hb⟩
          go_wp2
          go_ret
          exact ⟨rfl, hb⟩
end Go.Proofs.Ytenckpnkejnfgaa
