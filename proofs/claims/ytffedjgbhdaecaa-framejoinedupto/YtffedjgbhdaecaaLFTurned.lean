/- A frame of which 1 to 32 bits in a row behind its length are turned is refused: the walk of FrameTurned. -/
import Derived.Test.YtffedjgbhdaecaaFTurnMath
import Derived.Test.YtffedjgbhdaecaaFLives
namespace Go.Proofs.Ytffedjgbhdaecaa
open Go.RowKit

set_option maxHeartbeats 4000000 in
set_option maxRecDepth 100000 in
theorem fturned_big (vx : Value) (xs : List UInt8) (at0 : Int) (pat : Nat) (w : World) (hx : bytesAt w vx xs) (hbig : 100000 < xs.length) :
    Calls Try.prog 6 #[vx, .int .i64 at0, .int .u32 pat] w fun e w' => e = .returned (.bool true) ∧ Below w.heap.size w w' := by
  have hxm := bytesAt_len hx
  unfold maxLen at hxm
  obtain ⟨baseX, capX, rfl, -⟩ := hx
  go_enter Try.func6, Try.ntmps6
  go_wp2_with fail
  refine (lives02_any w).mono ?_
  rintro e w3 ⟨rfl, hb3⟩
  have HF : Hid (Below w.heap.size w w3) := hb3
  clear hb3
  go_wp2
  go_ret
  exact ⟨rfl, HF.out⟩

set_option maxHeartbeats 4000000 in
set_option maxRecDepth 100000 in
theorem fturned_none (vx : Value) (xs : List UInt8) (at0 : Int) (w : World) (hx : bytesAt w vx xs) (hsm : xs.length ≤ 100000) :
    Calls Try.prog 6 #[vx, .int .i64 at0, .int .u32 0] w fun e w' => e = .returned (.bool true) ∧ Below w.heap.size w w' := by
  obtain ⟨baseX, capX, rfl, -⟩ := hx
  go_enter Try.func6, Try.ntmps6
  go_wp2_with fail
  refine (lives02_any w).mono ?_
  rintro e w3 ⟨rfl, hb3⟩
  have HF : Hid (Below w.heap.size w w3) := hb3
  clear hb3
  go_wp2
  go_ret
  exact ⟨rfl, HF.out⟩

theorem own_some {w : World} {B e n : Nat} {v : Value} {bs : List UInt8} (h : w.ownsRow B e 1 v n (Lib.byteCells bs)) (hn : 0 < n) :
    ∃ g cap, v = .slice (some ⟨g, 0, none⟩) n cap ∧ n = bs.length ∧ n ≤ cap ∧ cap ≤ maxLen ∧ B ≤ g ∧ g < w.heap.size ∧ (∀ j, w.frozen? ⟨g, j, none⟩ = false) ∧ ∀ i (hi : i < bs.length), w.cell? ⟨g, i, none⟩ = some (.int .u8 (bs[i].toNat : Int)) := by
  have hl := h.1
  rw [Lib.byteCells_length, Nat.mul_one] at hl
  have h0 := h
  obtain ⟨_, h2⟩ := h
  rcases h2 with ⟨rfl, rfl⟩ | ⟨g, cap, cur, rfl, hg, hh, hnc, hm, hs, ht⟩
  · omega
  · refine ⟨g, cap, rfl, hl.symm, hnc, hm, hg, (h0.lt g rfl).2, fun j => h0.frozenAt j, fun i hi => ?_⟩
    have hc := h0.cells rfl i (.int .u8 (bs[i].toNat : Int)) (by unfold Lib.byteCells; rw [List.getElem?_map, List.getElem?_eq_getElem hi]; rfl)
    rw [add_plain, Nat.zero_add] at hc
    exact hc

theorem row_set {w : World} {g : Nat} {bs : List UInt8} {j : Nat} {c : UInt8} (h : ∀ i (hi : i < bs.length), w.cell? ⟨g, i, none⟩ = some (.int .u8 (bs[i].toNat : Int))) (hj : j < bs.length) :
    ∀ i (hi : i < (bs.set j c).length), (w.setCell ⟨g, j, none⟩ (.int .u8 (c.toNat : Int))).cell? ⟨g, i, none⟩ = some (.int .u8 (((bs.set j c)[i]).toNat : Int)) := by
  intro i hi
  have hi' : i < bs.length := by simpa using hi
  by_cases he : i = j
  · subst he
    rw [World.cell?_setCell_same (h := h i hi')]
    simp
  · rw [World.cell?_setCell_other (h := by intro h; cases h; exact he rfl), h i hi', List.getElem_set_ne (by omega)]

theorem bits_xor_u8 (a b : Nat) (ha : a < 256) (hb : b < 256) : bits .xor .u8 (a : Int) (b : Int) = ((a ^^^ b : Nat) : Int) := by
  show IntKind.u8.wrap ((BitVec.ofInt 8 (a : Int) ^^^ BitVec.ofInt 8 (b : Int)).toNat : Int) = _
  have h1 : ∀ x : Nat, x < 256 → (BitVec.ofInt 8 (x : Int)).toNat = x := fun x hx => by
    rw [BitVec.ofInt_natCast, BitVec.toNat_ofNat]; exact Nat.mod_eq_of_lt (by omega)
  rw [BitVec.toNat_xor, h1 a ha, h1 b hb]
  have := Nat.xor_lt_two_pow (n := 8) ha hb
  show (((a ^^^ b : Nat) : Int) % 256) = _
  omega

set_option maxHeartbeats 4000000 in
set_option maxRecDepth 100000 in
theorem fturned_walk (vx : Value) (xs : List UInt8) (at0 : Int) (pat : Nat) (w : World) (hx : bytesAt w vx xs) (hsm : xs.length ≤ 100000) (hp : pat < 4294967296) (hp0 : pat ≠ 0) :
    Calls Try.prog 6 #[vx, .int .i64 at0, .int .u32 pat] w fun e w' => e = .returned (.bool true) ∧ Below w.heap.size w w' := by
  have HX : Hid (bytesAt w vx xs) := hx
  obtain ⟨baseX, capX, rfl, -⟩ := hx
  have hfl := frameB_len xs
  have hnl := numB_len (n := (xs.length : Int)) (by omega) (by omega)
  obtain ⟨L, hL⟩ : ∃ L, L = (frameB xs).length := ⟨_, rfl⟩
  obtain ⟨nn, hnn⟩ : ∃ nn, nn = (numB xs.length).length := ⟨_, rfl⟩
  rw [← hL, ← hnn] at hfl
  rw [← hnn] at hnl
  have hnn1 : 1 ≤ nn := by rw [hnn]; exact Lib.uvarint_pos _
  have HL : Hid (L = (frameB xs).length) := hL
  have HN : Hid (nn = (numB xs.length).length) := hnn
  have HLX : Hid (L = nn + xs.length + 4) := hfl
  have hL2 : L ≤ 100020 := by omega
  have hL5 : xs.length + 5 ≤ L := by omega
  clear hnn hfl
  obtain ⟨U, hU⟩ : ∃ U : Nat, IntKind.u64.wrap at0 = (U : Int) := ⟨(at0 % 18446744073709551616).toNat, by show at0 % 18446744073709551616 = _; omega⟩
  have hpb : ((pat : Int) == 0) = false := by rw [beq_eq_false_iff_ne]; omega
  go_enter Try.func6, Try.ntmps6
  go_wp2_with fail
  have c1 := put_any (.slice none 0 0) _ [] xs w (bytesAt_nil w) HX.out (by omega) (by simp; omega)
  rw [List.nil_append, ← hL] at c1
  refine c1.mono ?_
  clear c1 hL
  rintro e w1 ⟨v1, rfl, hown1, hb1⟩
  obtain ⟨g, cap1, rfl, -, hlc, hcm, hg1, hg2, hfz, hcell⟩ := own_some hown1 (by omega)
  clear hown1
  have HC : Hid (∀ i (hi : i < (frameB xs).length), w1.cell? ⟨g, i, none⟩ = some (.int .u8 ((frameB xs)[i].toNat : Int))) := hcell
  have HFZ : Hid (∀ j, w1.frozen? ⟨g, j, none⟩ = false) := hfz
  have HB1 : Hid (Below w.heap.size w w1) := hb1
  have hsz1 := hb1.size
  clear hcell hfz hb1
  go_wp2_with fail
  obtain ⟨r0, hr0⟩ : ∃ r0, r0 = U % (8 * L - 8 * nn) := ⟨_, rfl⟩
  have hr0l : r0 < 8 * L - 8 * nn := by rw [hr0]; exact Nat.mod_lt _ (by have := HLX.out; omega)
  obtain ⟨k, hk⟩ : ∃ k, k = 8 * nn + r0 := ⟨_, rfl⟩
  have hke : wrap64 (8 * ((L : Int) - xs.length - 4) + wrap64 ((U : Int) % (8 * (L : Int) - 8 * ((L : Int) - xs.length - 4)))) = (k : Int) := by
    have h1 : 8 * (L : Int) - 8 * ((L : Int) - xs.length - 4) = ((8 * L - 8 * nn : Nat) : Int) := by have := HLX.out; omega
    rw [h1, ← Int.natCast_emod, ← hr0]
    have := HLX.out
    unfold wrap64
    omega
  rw [hke]
  have hkL : k < 8 * L := by have := HLX.out; omega
  have HK : Hid (8 * nn ≤ k) := show 8 * nn ≤ k by omega
  clear hke hr0 hr0l hk hU
  go_loopw [11, 12] (fun vt vi wr => ∃ (bs : List UInt8) (i : Nat), i ≤ 32 ∧ k + i ≤ 8 * L ∧ bs.length = L ∧ leV bs = leV (frameB xs) ^^^ (pat % 2 ^ i) * 2 ^ k ∧ vi = .int .i64 i ∧ vt = .bool (decide (pat % 2 ^ i ≠ 0)) ∧
      (∀ i (hi : i < bs.length), wr.cell? ⟨g, i, none⟩ = some (.int .u8 (bs[i].toNat : Int))) ∧ (∀ j, wr.frozen? ⟨g, j, none⟩ = false) ∧ Below w.heap.size w wr) (fun _ i _ => 32 - (intOf i).toNat)
  case atStart => exact ⟨frameB xs, 0, by omega, by omega, HL.out.symm, by rw [Nat.pow_zero, Nat.mod_one, Nat.zero_mul, Nat.xor_zero], rfl, by simp [Nat.mod_one], HC.out, HFZ.out, HB1.out⟩
  case round =>
    obtain ⟨bs, i, hi, hki, hbl, hbv, rfl, rfl, hcell, hfz, hbw⟩ := hrel
    have HBV : Hid (leV bs = leV (frameB xs) ^^^ (pat % 2 ^ i) * 2 ^ k) := hbv
    have HBW : Hid (Below w.heap.size w wr) := hbw
    have HCE : Hid (∀ i (hi : i < bs.length), wr.cell? ⟨g, i, none⟩ = some (.int .u8 (bs[i].toNat : Int))) := hcell
    have HBL : Hid (bs.length = L) := hbl
    clear hbv hbw hcell hbl
    obtain ⟨tb, htb⟩ : ∃ tb, tb = decide (pat % 2 ^ i ≠ 0) := ⟨_, rfl⟩
    rw [← htb]
    have HTB : Hid (tb = decide (pat % 2 ^ i ≠ 0)) := htb
    clear htb
    by_cases hlt : i < 32 ∧ k + i < 8 * L
    · obtain ⟨hlt1, hlt2⟩ := hlt
      obtain ⟨q, hq⟩ : ∃ q, q = pat / 2 ^ i := ⟨_, rfl⟩
      have hqi : (pat : Int) / 2 ^ i = (q : Int) := by rw [hq, Int.natCast_ediv, Int.natCast_pow]; rfl
      have hq32 : q < 4294967296 := by rw [hq]; exact Nat.lt_of_le_of_lt (Nat.div_le_self _ _) hp
      have HQ : Hid (q = pat / 2 ^ i) := hq
      have hand := and1_u32 q hq32
      obtain ⟨m, hm⟩ : ∃ m, m = k + i := ⟨_, rfl⟩
      have HM : Hid (m = k + i) := hm
      have hmi : (k : Int) + (i : Int) = (m : Int) := by omega
      have hmL : m < 8 * L := by omega
      obtain ⟨j, hj⟩ : ∃ j, j = m / 8 := ⟨_, rfl⟩
      obtain ⟨r, hr⟩ : ∃ r, r = m % 8 := ⟨_, rfl⟩
      have hji : (m : Int) / 8 = (j : Int) := by omega
      have hri : (m : Int) % 8 = (r : Int) := by omega
      have hjL : j < L := by omega
      have hr8 : r < 8 := by omega
      have HJ : Hid (m = 8 * j + r) := show m = 8 * j + r by omega
      have hjb : j < bs.length := by rw [HBL.out]; exact hjL
      have hcj := HCE.out j hjb
      obtain ⟨x, hx⟩ : ∃ x, x = bs[j].toNat := ⟨_, rfl⟩
      rw [← hx] at hcj
      have hx256 : x < 256 := by rw [hx]; exact UInt8.toNat_lt _
      have HXX : Hid (x = bs[j].toNat) := hx
      obtain ⟨c, hc⟩ : ∃ c, c = 2 ^ r := ⟨_, rfl⟩
      have hc256 : c < 256 := by rw [hc]; exact Nat.pow_lt_pow_right (by decide) hr8
      have hshl : IntKind.u8.wrap (2 ^ r) = (c : Int) := by
        show (2 ^ r : Int) % 256 = _
        have : (2 ^ r : Int) = (c : Int) := by rw [hc, Int.natCast_pow]; rfl
        omega
      have hxor := bits_xor_u8 x c hx256 hc256
      have HCC : Hid (c = 2 ^ r) := hc
      clear hq hm hj hr hx hc
      have HPS : Hid ((pat % 2 ^ (i + 1)) * 2 ^ k = (pat % 2 ^ i) * 2 ^ k ^^^ (q % 2) * 2 ^ (8 * j + r)) := by
        rw [← HJ.out, HM.out, HQ.out]; exact pat_step pat i k
      have HPN : Hid (pat % 2 ^ (i + 1) = pat % 2 ^ i + 2 ^ i * (q % 2)) := show pat % 2 ^ (i + 1) = pat % 2 ^ i + 2 ^ i * (q % 2) by
        rw [HQ.out, Nat.pow_succ, Nat.mod_mul]
      by_cases hbit : q % 2 = 1
      · have hb1 : (((q % 2 : Nat) : Int) == 1) = true := by rw [beq_iff_eq]; omega
        go_wp2
        have hcn : (c.toUInt8).toNat = c := Lib.toUInt8_toNat hc256
        have hnew : (bs[j] ^^^ c.toUInt8).toNat = x ^^^ c := by rw [UInt8.toNat_xor, hcn, HXX.out]
        refine ⟨⟨bs.set j (bs[j] ^^^ c.toUInt8), i + 1, by omega, by omega, by rw [List.length_set, HBL.out], ?_, by go_num, ?_, ?_, ?_, ?_⟩, by simp [intOf]; omega⟩
        · rw [leV_set _ _ _ hjb, hcn, HBV.out, HPS.out, hbit, Nat.xor_assoc, HCC.out, Nat.one_mul, ← Nat.pow_add, Nat.add_comm r]
        · rw [HPN.out, hbit]
          have := Nat.two_pow_pos i
          rw [decide_eq_true (by omega)]
        · rw [← hnew]; exact row_set HCE.out hjb
        · intro j'; rw [World.frozen?_setCell]; exact hfz j'
        · exact HBW.out.setCell (p := ⟨g, j, none⟩) hg1 _
      · have hb1 : (((q % 2 : Nat) : Int) == 1) = false := by rw [beq_eq_false_iff_ne]; omega
        have hbit0 : q % 2 = 0 := by omega
        have HB0 : Hid (q % 2 = 0) := hbit0
        clear hbit0
        go_wp2
        refine ⟨⟨bs, i + 1, by omega, by omega, HBL.out, ?_, by go_num, ?_, HCE.out, hfz, HBW.out⟩, by simp [intOf]; omega⟩
        · rw [HBV.out, HPS.out, HB0.out, Nat.zero_mul, Nat.xor_zero]
        · rw [HTB.out, HPN.out, HB0.out, Nat.mul_zero, Nat.add_zero]
    · have HY : Hid (bytesAt wr (.slice (some ⟨g, 0, none⟩) L cap1) bs) :=
        show bytesAt wr (.slice (some ⟨g, 0, none⟩) L cap1) bs from ⟨some ⟨g, 0, none⟩, cap1, by rw [HBL.out], (fun h => by cases h), by rw [HBL.out]; exact hlc, hcm, fun a ha j u hj => by
          cases ha
          unfold Lib.byteCells at hj
          have hlj : j < bs.length := by
            rcases Nat.lt_or_ge j bs.length with h | h
            · exact h
            · rw [List.getElem?_eq_none (by rw [List.length_map]; exact h)] at hj; cases hj
          rw [List.getElem?_map, List.getElem?_eq_getElem hlj] at hj
          simp only [Option.map_some, Option.some.injEq] at hj
          rw [← hj, add_plain, Nat.zero_add]
          exact HCE.out j hlj⟩
      have hbsz := HBW.out.size
      clear HC HFZ hfz
      by_cases hP : pat % 2 ^ i = 0
      · have htb : tb = false := by rw [HTB.out]; simp [hP]
        have hG : getF bs 0 = (xs, L, 0) := by rw [HL.out]; exact same_math (by omega) (by rw [HBL.out, HL.out]) (by rw [HBV.out, hP, Nat.zero_mul, Nat.xor_zero])
        subst htb
        have c4 := get_any _ bs 0 wr HY.out
        rw [hG] at c4
        clear hP hG
        by_cases h32 : i < 32
        all_goals
          have hge : i < 32 → 8 * L ≤ k + i := by omega
          first | have hge2 := hge h32 | skip
          go_wp2_with fail
          refine c4.mono ?_
          clear c4
          rintro e w5 ⟨v5, rfl, hown5, hb5⟩
          have HB5 : Hid (Below w.heap.size w w5) := HBW.out.trans (hb5.mono hbsz)
          have hx5 : (convert 22 9 (.slice baseX xs.length capX)).run Try.prog w5 = .ok (.string ⟨xs.toArray⟩) w5 := conv_row w5 baseX xs capX (bytesAt_row (bytesAt_below HX.out HB5.out (Nat.le_refl _))).2.1
          obtain ⟨base5, cap5, rfl, hrow5, -, -, -⟩ := own_row hown5
          have hy5 : (convert 22 9 (.slice base5 xs.length cap5)).run Try.prog w5 = .ok (.string ⟨xs.toArray⟩) w5 := conv_row w5 base5 xs cap5 hrow5
          clear hown5 hb5 hrow5
          go_wp2_with fail
          refine (lives02_any w5).mono ?_
          rintro e w6 ⟨rfl, hb6⟩
          have HF : Hid (Below w.heap.size w w6) := HB5.out.trans (hb6.mono HB5.out.size)
          clear hb6 HB5
          go_wp2
          go_ret
          exact ⟨rfl, HF.out⟩
      · have htb : tb = true := by rw [HTB.out]; simp [hP]
        have hG : getF bs 0 = ([], 0, 4) := turned_math (by omega) (by rw [HBL.out, HL.out]) HBV.out (by rw [← HN.out]; exact HK.out) (by rw [← HL.out]; omega) (Nat.lt_of_le_of_lt (Nat.mod_le _ _) hp) hP
        subst htb
        have c4 := get_any _ bs 0 wr HY.out
        rw [hG] at c4
        clear hP hG
        by_cases h32 : i < 32
        all_goals
          have hge : i < 32 → 8 * L ≤ k + i := by omega
          first | have hge2 := hge h32 | skip
          go_wp2_with fail
          refine c4.mono ?_
          clear c4
          rintro e w5 ⟨v5, rfl, hown5, hb5⟩
          have HB5 : Hid (Below w.heap.size w w5) := HBW.out.trans (hb5.mono hbsz)
          obtain ⟨base5, cap5, rfl, hrow5, -, -, -⟩ := own_row hown5
          clear hown5 hb5 hrow5
          go_wp2_with fail
          refine (lives02_any w5).mono ?_
          rintro e w6 ⟨rfl, hb6⟩
          have HF : Hid (Below w.heap.size w w6) := HB5.out.trans (hb6.mono HB5.out.size)
          clear hb6 HB5
          go_wp2
          go_ret
          exact ⟨rfl, HF.out⟩

theorem fturned_all (vx : Value) (xs : List UInt8) (at0 : Int) (pat : Nat) (w : World) (hx : bytesAt w vx xs) (hp : pat < 4294967296) :
    Calls Try.prog 6 #[vx, .int .i64 at0, .int .u32 pat] w fun e w' => e = .returned (.bool true) ∧ Below w.heap.size w w' := by
  by_cases h1 : 100000 < xs.length
  · exact fturned_big vx xs at0 pat w hx h1
  · by_cases h2 : pat = 0
    · subst h2; exact fturned_none vx xs at0 w hx (by omega)
    · exact fturned_walk vx xs at0 pat w hx (by omega) hp h2
end Go.Proofs.Ytffedjgbhdaecaa
