/- Numbers that are put one behind the other are read so; cut off anywhere, the first of them are: the walk of WireRow. -/
import Derived.Test.YtaakkbimlhlihaaLRowsMath
import Derived.Test.YtaakkbimlhlihaaWLives
namespace Go.Proofs.Ytaakkbimlhlihaa
open Go.RowKit

/-- The slice that begins at base reads in w as the numbers ls. -/
def intsAt (w : World) (base : Option Addr) (ls : List Int) : Prop :=
  ls = [] ∨ ∃ b o, base = some ⟨b, o, none⟩ ∧ ∀ j (h : j < ls.length), w.cell? ⟨b, o + j, none⟩ = some (.int .i64 ls[j])

theorem info_int : (Try.prog.info? 3).map (fun i => (i.zero, i.size, i.bytes)) = some (some (.int .i64 0), 1, 8) := by kernel_rfl

theorem bytesAt_take {w : World} {base : Option Addr} {bs : List UInt8} {cap c : Nat} (h : bytesAt w (.slice base bs.length cap) bs) (hc : c ≤ bs.length) : bytesAt w (.slice base c cap) (bs.take c) := by
  obtain ⟨base', cap', hv, hn, h1, h2, hcell⟩ := h
  cases hv
  have hl : (bs.take c).length = c := by rw [List.length_take]; omega
  refine ⟨base, cap, by rw [hl], fun hb => ?_, by omega, h2, fun a ha j u hj => ?_⟩
  · obtain ⟨rfl, rfl⟩ := hn hb; exact ⟨by simp, rfl⟩
  · refine hcell a ha j u ?_
    have hjc : j < c := by
      rcases Nat.lt_or_ge j c with h | h
      · exact h
      · rw [List.getElem?_eq_none (by rw [Lib.byteCells_length, hl]; exact h)] at hj; cases hj
    unfold Lib.byteCells at hj ⊢
    rw [List.getElem?_map, List.getElem?_take_of_lt hjc] at hj
    rw [List.getElem?_map]; exact hj

theorem run_upto (w : World) (base : Option Addr) (len cap c : Nat) (h : c ≤ cap) :
    (Instr.slice 22 (.slice base len cap) none (some (.int .i64 c)) none).run Try.prog w = .ok (.slice base c cap) w := by
  have h1 := run_slice_h (P := Try.prog) w 22 base len cap Try.underlying22 .i64 (c : Int) (by omega) (by omega)
  have hs : (sizeOf (Try.prog.elem 22)).run Try.prog w = .ok 1 w := by kernel_rfl
  rw [h1, hs]
  have e : (fun a : Addr => a.add (0 * 1)) = id := by funext a; simp [Addr.add]
  simp [sliced, Addr.add]

theorem own_other {w w' : World} {B C e n p : Nat} {v : Value} {xs : List Value} (h : w.ownsRow B e 1 v n xs) (hg : w.grownBy w' (some p)) (hp : ∀ k, v.ownBlock = some k → k < C) (hC : C ≤ p) : w'.ownsRow B e 1 v n xs := by
  refine h.kept hg ?_
  by_cases hv : v.ownBlock = none
  · exact .inl hv
  · right
    intro he
    have := hp p he
    omega

theorem own_keptB {w w' : World} {B C e n : Nat} {v : Value} {xs : List Value} (h : w.ownsRow B e 1 v n xs) (hb : Below C w w') (hC : w.heap.size ≤ C) : w'.ownsRow B e 1 v n xs :=
  h.kept (row := none) ⟨hb.os, hb.tape, hb.output, hb.size, fun k hk _ => hb.block k (by omega)⟩ (by cases h' : v.ownBlock <;> simp)

theorem bytesAt_grown {w w' : World} {base : Option Addr} {len cap : Nat} {bs : List UInt8} {row : Option Nat} (h : bytesAt w (.slice base len cap) bs) (hg : w.grownBy w' row) (hne : ∀ a, base = some a → some a.block ≠ row) : bytesAt w' (.slice base len cap) bs := by
  obtain ⟨base', cap', hv, hn, h1, h2, hcell⟩ := h
  cases hv
  refine ⟨base, cap, rfl, hn, h1, h2, fun a ha j u hj => hg.cell (hcell a ha j u hj) ?_⟩
  have e : (a.add j).block = a.block := by unfold Addr.add; split <;> rfl
  rw [e]
  exact hne a ha

theorem cut_ok (n : Int) (L : Nat) (hL : L ≤ 100000) : ∃ c : Nat, c ≤ L ∧ wrap64 ((IntKind.u64.wrap n).tmod ((L : Int) + 1)) = (c : Int) := by
  have hw : 0 ≤ IntKind.u64.wrap n := by rw [IntKind.wrap_u64]; omega
  obtain ⟨m, hm⟩ := Int.eq_ofNat_of_zero_le hw
  rw [hm]
  have e : ((m : Int)).tmod ((L : Int) + 1) = ((m % (L + 1) : Nat) : Int) := by
    rw [Int.tmod_eq_emod_of_nonneg (by omega)]; norm_cast
  have hlt : m % (L + 1) < L + 1 := Nat.mod_lt _ (by omega)
  refine ⟨m % (L + 1), by omega, ?_⟩
  rw [e]
  unfold wrap64; omega

set_option maxHeartbeats 4000000 in
set_option maxRecDepth 100000 in
theorem rows_long (base : Option Addr) (len cap : Nat) (n : Int) (w : World) (hl : 500 < len) (hm : len ≤ maxLen) :
    Calls Try.prog 7 #[.slice base len cap, .int .i64 n] w fun e w' => e = .returned (.bool true) ∧ Below w.heap.size w w' := by
  unfold maxLen at hm
  go_enter Try.func7, Try.ntmps7
  go_wp2_with fail
  refine (lives_any _).mono ?_
  rintro e w9 ⟨rfl, hb9⟩
  go_wp2
  go_ret
  exact ⟨rfl, hb9⟩

set_option maxHeartbeats 4000000 in
set_option maxRecDepth 100000 in
theorem rows_walk (base : Option Addr) (cap : Nat) (ls : List Int) (n : Int) (w : World) (hlen : ls.length ≤ 500) (hz : ∀ z ∈ ls, -9223372036854775808 ≤ z ∧ z ≤ 9223372036854775807)
    (hr : intsAt w base ls) :
    Calls Try.prog 7 #[.slice base ls.length cap, .int .i64 n] w fun e w' => e = .returned (.bool true) ∧ Below w.heap.size w w' := by
  obtain ⟨i0, hi, hz0, hz1, hz2⟩ := info_parts info_int
  have HZ : Hid (∀ z ∈ ls, -9223372036854775808 ≤ z ∧ z ≤ 9223372036854775807) := hz
  have HR : Hid (intsAt w base ls) := hr
  have HRL : Hid (∀ k, k ≤ ls.length → (rowB ls k).length ≤ 10 * k) := rowB_len ls hz
  clear hz hr
  obtain ⟨len, hlen'⟩ : ∃ len, len = ls.length := ⟨_, rfl⟩
  have HL : Hid (len = ls.length) := hlen'
  rw [← hlen'] at hlen ⊢
  clear hlen'
  go_enter Try.func7, Try.ntmps7
  go_wp2
  go_loopw [5, 6, 7] (fun vb ve i wr => ∃ k : Nat, k ≤ len ∧ i = .int .i64 k ∧ bytesAt wr vb (rowB ls k) ∧ wr.ownsRow w.heap.size 3 1 ve k (endCells ls k) ∧ Below w.heap.size w wr)
    (fun _ _ i _ => len - (intOf i).toNat)
  case atStart => exact ⟨0, Nat.zero_le _, rfl, by rw [rowB_zero]; exact bytesAt_nil w, World.ownsRow_nil _ _ _ _, Below.refl _ _⟩
  case round =>
    obtain ⟨k, hk, rfl, hby, hown, hnx⟩ := hrel
    have hnz := hnx.size
    have hkl := HRL.out k (by rw [← HL.out]; exact hk)
    by_cases hlt : k < len
    · have hkb : k < ls.length := by rw [← HL.out]; exact hlt
      obtain ⟨b, o, hbase, hcell⟩ : ∃ b o, base = some ⟨b, o, none⟩ ∧ w.cell? ⟨b, o + k, none⟩ = some (.int .i64 ls[k]) := by
        rcases HR.out with h | ⟨b, o, h1, h2⟩
        · rw [h] at hkb; simp at hkb
        · exact ⟨b, o, h1, h2 k hkb⟩
      have hbl := World.block_lt_of_cell? w _ hcell
      have hc2 : wr.cell? ⟨b, o + k, none⟩ = some (.int .i64 ls[k]) := (hnx.cell hbl).trans hcell
      have hzk := HZ.out ls[k] (List.getElem_mem hkb)
      obtain ⟨z, hzz⟩ : ∃ z, z = ls[k] := ⟨_, rfl⟩
      have HZZ : Hid (z = ls[k]) := hzz
      rw [← hzz] at hc2 hzk
      clear hzz hcell
      subst hbase
      go_wp2_with fail
      refine (putInt_any _ (rowB ls k) z hzk.1 hzk.2 wr hby (by omega)).mono ?_
      rintro e w1 ⟨v1, rfl, hown1, hb1⟩
      have hb1z := hb1.size
      have e1 : rowB ls k ++ numB z = rowB ls (k + 1) := by rw [rowB_succ ls k hkb, HZZ.out]
      rw [e1] at hown1
      have hl1 := HRL.out (k + 1) (by omega)
      have hownE : w1.ownsRow w.heap.size 3 1 u6 k (endCells ls k) := own_keptB hown hb1 (Nat.le_refl _)
      have hEb := fun q hq => (hown.lt q hq).2
      obtain ⟨base1, cap1, hv1, -, -, -, hblk⟩ := own_row hown1
      have HB1 : Hid (bytesAt w1 v1 (rowB ls (k + 1))) := bytesAt_own hown1
      have hnx1 : Below w.heap.size w w1 := hnx.trans (hb1.mono hnz)
      clear hown1 hown hby hb1
      rw [hv1]
      rw [hv1] at HB1
      clear hv1
      go_wp2_with (at_builtin; refine wpList_append_own _ rfl _ _ 46 rfl w.heap.size 3 i0 (.int .i64 0) 1 8 Try.underlying46 hi hz0 hz1 hz2 rfl (by decide) _ _ _ rfl (hownE.alloc _) ⟨w1.heap.size, 0, none⟩ 1 1 [Value.int .i64 ((rowB ls (k + 1)).length : Int)] rfl rfl ?c1 ?c2 ?c3 ?c4 ?c5 ?_)
      case c1 =>
        intro j u hj
        match j, hj with
        | 0, hj => simp at hj; subst hj; simp [Addr.add]
      case c2 => intro u hu; simp at hu; subst hu; rfl
      case c3 => unfold maxLen; omega
      case c4 => omega
      case c5 => simp; omega
      intro v2 w2 hown2 hgrow _
      have hnx2 : Below w.heap.size w w2 := (hnx1.alloc (by omega) _).grown hgrow (by simp; omega) (fun q hq => (hownE.lt q hq).1)
      have HB2 : Hid (bytesAt w2 (.slice base1 (rowB ls (k + 1)).length cap1) (rowB ls (k + 1))) := bytesAt_grown (bytesAt_alloc HB1.out _) hgrow (fun a ha hq => by have := hEb a.block hq.symm; have := (hblk a ha).1; omega)
      rw [← endCells_succ] at hown2
      clear hgrow hnx1 HB1 hownE hblk hEb
      go_wp2
      go_roundw
      case rel => exact ⟨k + 1, by omega, by go_num, HB2.out, hown2, hnx2⟩
      case measure => simp [intOf]; omega
    · obtain rfl : k = len := by omega
      have HBY : Hid (bytesAt wr u5 (rowB ls k)) := hby
      obtain ⟨baseb, capb, rfl, hbn, hbc, hbm, -⟩ := hby
      clear hlt hk
      obtain ⟨c, hc, hcut⟩ := cut_ok n (rowB ls k).length (by omega)
      have hsl := fun wx => run_upto wx baseb (rowB ls k).length capb c (by omega)
      have hEb := fun q hq => (hown.lt q hq).2
      have HOW : Hid (wr.ownsRow w.heap.size 3 1 u6 k (endCells ls k)) := hown
      clear hown
      go_wp2_with fail
      refine (newReader_any _ ((rowB ls k).take c) wr (bytesAt_take HBY.out hc) (by rw [List.length_take]; omega)).mono ?_
      rintro e w3 ⟨p, base3, cap3, rfl, hR, hp, hp', ha, hb3⟩
      have hz3 := hb3.size
      have H3 : Hid (ReaderAt w3 p base3 cap3 ((rowB ls k).take c) 0 0 ∧ w3.ownsRow w.heap.size 3 1 u6 k (endCells ls k) ∧ Below w.heap.size w w3) :=
        ⟨hR, own_keptB HOW.out hb3 (Nat.le_refl _), hnx.trans (hb3.mono hnz)⟩
      rw [hcut]
      clear hR ha hb3 HOW HBY hnx hbn hsl hcut
      have hue : ∃ ge cape, 0 < k → u6 = .slice (some ⟨ge, 0, none⟩) k cape := by
        rcases H3.out.2.1.2 with ⟨_, h⟩ | ⟨g, cp, cur, h, _⟩
        · exact ⟨0, 0, fun hk => by omega⟩
        · exact ⟨g, cp, fun _ => h⟩
      obtain ⟨ge, cape, hue⟩ := hue
      have HUE : Hid (0 < k → u6 = .slice (some ⟨ge, 0, none⟩) k cape) := hue
      clear hue
      have hck : c ≤ 100000 := by omega
      go_wp2
      go_loopw [10] (fun i wq => ∃ j : Nat, j ≤ k ∧ i = .int .i64 j ∧ (rowB ls j).length ≤ c ∧ ReaderAt wq p base3 cap3 ((rowB ls k).take c) (rowB ls j).length 0 ∧ wq.ownsRow w.heap.size 3 1 u6 k (endCells ls k) ∧ Below w.heap.size w wq ∧ p < wq.heap.size)
        (fun i _ => k - (intOf i).toNat)
      case atStart => exact ⟨0, Nat.zero_le _, rfl, by rw [rowB_zero]; exact Nat.zero_le _, by rw [rowB_zero]; exact H3.out.1, H3.out.2.1, H3.out.2.2, hp'⟩
      case round =>
        obtain ⟨j, hj, rfl, hjc, hRj, hownj, hnxj, hpj⟩ := hrel
        have hnzj := hnxj.size
        by_cases hlt : j < k
        · have hjl : j < ls.length := by rw [← HL.out]; exact hlt
          have hu := HUE.out (by omega)
          obtain ⟨b, o, hbase, hcell⟩ : ∃ b o, base = some ⟨b, o, none⟩ ∧ w.cell? ⟨b, o + j, none⟩ = some (.int .i64 ls[j]) := by
            rcases HR.out with h | ⟨b, o, h1, h2⟩
            · rw [h] at hjl; simp at hjl
            · exact ⟨b, o, h1, h2 j hjl⟩
          have hbl := World.block_lt_of_cell? w _ hcell
          have hgot := fun hc => row_got (c := c) hjl HZ.out hc
          have hsho := fun hc => row_short (c := c) hjl HZ.out hjc hc
          rw [← HL.out] at hgot hsho
          have hEc : wr.cell? ⟨ge, j, none⟩ = some (Value.int .i64 ((rowB ls (j + 1)).length : Int)) := by
            have h := hownj
            rw [hu] at h
            rw [h.cellAt j (by omega)]
            exact endCells_at ls k j hlt
          have hEl := World.block_lt_of_cell? wr _ hEc
          have hge : ge < p := by
            have h := hEb ge (by rw [hu]; rfl)
            omega
          have hle := HRL.out (j + 1) (by omega)
          subst hbase
          by_cases hcc : (rowB ls (j + 1)).length ≤ c
          · have c4 := int_any hRj
            rw [hgot hcc] at c4
            have HC4 : Hid (Calls Try.prog 22 #[.pointer (some ⟨p, 0, none⟩)] wr fun e w' => e = .returned (.int .i64 ls[j]) ∧ ReaderAt w' p base3 cap3 ((rowB ls k).take c) (rowB ls (j + 1)).length 0 ∧ wr.grownBy w' (some p)) := c4
            clear c4 hgot hsho hRj
            have HOW : Hid (wr.ownsRow w.heap.size 3 1 u6 k (endCells ls k)) := hownj
            clear hownj
            subst hu
            go_wp2_with fail
            refine HC4.out.mono ?_
            clear HC4
            rintro e w4 ⟨rfl, hr, hg⟩
            have hz4 := hg.size
            have hb4 : Below w.heap.size w w4 := below_of_grown hnxj hg hnzj (by omega)
            have hc4 : w4.cell? ⟨b, o + j, none⟩ = some (.int .i64 ls[j]) := (hb4.cell hbl).trans hcell
            have hE4 : w4.cell? ⟨ge, j, none⟩ = some (Value.int .i64 ((rowB ls (j + 1)).length : Int)) := hg.cell hEc (fun h => absurd (Option.some.inj h) (by show ge ≠ p; omega))
            have H4 : Hid (ReaderAt w4 p base3 cap3 ((rowB ls k).take c) (rowB ls (j + 1)).length 0 ∧ w4.ownsRow w.heap.size 3 1 (.slice (some ⟨ge, 0, none⟩) k cape) k (endCells ls k) ∧ Below w.heap.size w w4) :=
              ⟨hr, own_other HOW.out hg hEb hp, hb4⟩
            have HErr : Hid (∀ n, Calls Try.prog 19 #[.pointer (some ⟨p, 0, none⟩)] (w4.drewN n) fun e w' => e = .returned (.int .i64 0) ∧ w4.drewN n = w') :=
              fun n => err_any (hr.below (⟨rfl, rfl, rfl, Nat.le_refl _, fun _ _ => rfl⟩ : Below w4.heap.size w4 (w4.drewN n)) (Nat.le_refl _))
            have HAt : Hid (∀ n, Calls Try.prog 18 #[.pointer (some ⟨p, 0, none⟩)] (w4.drewN n) fun e w' => e = .returned (.int .i64 ((rowB ls (j + 1)).length : Int)) ∧ w4.drewN n = w') :=
              fun n => at_any (hr.below (⟨rfl, rfl, rfl, Nat.le_refl _, fun _ _ => rfl⟩ : Below w4.heap.size w4 (w4.drewN n)) (Nat.le_refl _))
            have HEND : Hid (j + 1 ≤ k ∧ (rowB ls (j + 1)).length ≤ c) := ⟨by omega, hcc⟩
            clear hr hg hb4 HOW hcell hEc hnxj hEb HUE
            generalize hE : (rowB ls (j + 1)).length = E at *
            have HEQ : Hid ((rowB ls (j + 1)).length = E) := hE
            clear hE
            generalize ls[j] = z at *
            have t5 : decide ((E : Int) ≤ (c : Int)) = true := decide_eq_true (by omega)
            go_wp2_with fail
            go_quiet (first | (go_at_call 19; exact quiet_mine (HErr.out _)) | (go_at_call 18; exact quiet_mine (HAt.out _)))
            go_wp2
            go_roundw
            case rel =>
              exact ⟨j + 1, HEND.out.1, by go_num, by rw [HEQ.out]; exact HEND.out.2, by rw [HEQ.out]; exact H4.out.1.below (⟨rfl, rfl, rfl, Nat.le_refl _, fun _ _ => rfl⟩ : Below w4.heap.size w4 (w4.drewN nq)) (Nat.le_refl _),
                own_keptB H4.out.2.1 (⟨rfl, rfl, rfl, Nat.le_refl _, fun _ _ => rfl⟩ : Below w4.heap.size w4 (w4.drewN nq)) (Nat.le_refl _), H4.out.2.2.trans ⟨rfl, rfl, rfl, Nat.le_refl _, fun _ _ => rfl⟩, Nat.lt_of_lt_of_le hpj hz4⟩
            case measure => simp [intOf]; omega
          · have c4 := int_any hRj
            rw [hsho (by omega)] at c4
            have HC4 : Hid (Calls Try.prog 22 #[.pointer (some ⟨p, 0, none⟩)] wr fun e w' => e = .returned (.int .i64 0) ∧ ReaderAt w' p base3 cap3 ((rowB ls k).take c) (rowB ls j).length 3 ∧ wr.grownBy w' (some p)) := c4
            clear c4 hgot hsho hRj hownj
            subst hu
            go_wp2_with fail
            refine HC4.out.mono ?_
            clear HC4
            rintro e w4 ⟨rfl, hr, hg⟩
            have hz4 := hg.size
            have hb4 : Below w.heap.size w w4 := below_of_grown hnxj hg hnzj (by omega)
            have hE4 : w4.cell? ⟨ge, j, none⟩ = some (Value.int .i64 ((rowB ls (j + 1)).length : Int)) := hg.cell hEc (fun h => absurd (Option.some.inj h) (by show ge ≠ p; omega))
            have H4 : Hid (ReaderAt w4 p base3 cap3 ((rowB ls k).take c) (rowB ls j).length 3 ∧ Below w.heap.size w w4) := ⟨hr, hb4⟩
            clear hr hg hb4 hcell hEc hnxj hEb HUE
            generalize (rowB ls (j + 1)).length = E at *
            have t5 : decide ((E : Int) ≤ (c : Int)) = false := decide_eq_false (by omega)
            go_wp2_with fail
            refine (err_any H4.out.1).mono ?_
            rintro e wx ⟨rfl, rfl⟩
            go_wp2_with fail
            have c5 := int_any H4.out.1
            have e5 : stepR (0 : Int) (rowB ls j).length 3 (getI (((rowB ls k).take c).drop (rowB ls j).length)) = (0, (rowB ls j).length, 3) := if_pos (by decide)
            rw [e5] at c5
            refine c5.mono ?_
            clear c5 e5
            rintro e w5 ⟨rfl, hr, hg⟩
            have hz5 := hg.size
            have H5 : Hid (Below w.heap.size w w5) := below_of_grown H4.out.2 hg (by omega) (by omega)
            clear hr hg H4
            go_wp2_with fail
            refine (lives_any _).mono ?_
            rintro e w6 ⟨rfl, hb6⟩
            have HF : Hid (Below w.heap.size w w6) := H5.out.trans (hb6.mono (by omega))
            clear hb6
            go_wp2
            go_ret
            exact ⟨rfl, HF.out⟩
        · obtain rfl : j = k := by omega
          have hle : c = (rowB ls j).length := by omega
          have he : endR ((rowB ls j).take c).length (rowB ls j).length 0 = 0 := by
            unfold endR; rw [if_neg (by decide), if_neg (by rw [List.length_take]; omega)]
          have c4 := end_any hRj
          rw [he] at c4
          have HC4 : Hid (Calls Try.prog 20 #[.pointer (some ⟨p, 0, none⟩)] wr fun e w' => e = .returned (.int .i64 ((0 : Nat) : Int)) ∧ ∃ n, w' = wr.drewN n) := c4
          have H4 : Hid (Below w.heap.size w wr) := hnxj
          clear c4 he hRj hnxj hownj hEb HUE hle
          go_wp2_with fail
          refine HC4.out.mono ?_
          rintro e wx ⟨rfl, nq, rfl⟩
          go_wp2_with fail
          refine (lives_any _).mono ?_
          rintro e w6 ⟨rfl, hb6⟩
          have HF : Hid (Below w.heap.size w w6) := H4.out.trans ((⟨rfl, rfl, rfl, Nat.le_refl _, fun _ _ => rfl⟩ : Below w.heap.size wr (wr.drewN nq)).trans (hb6.mono hnzj))
          clear hb6
          go_wp2
          go_ret
          exact ⟨rfl, HF.out⟩
end Go.Proofs.Ytaakkbimlhlihaa
