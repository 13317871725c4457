/- store: Put. -/
import Derived.Test.YtancnmbgncofiaaKPutM
namespace Go.Proofs.Ytancnmbgncofiaa
open Go.RowKit

set_option maxRecDepth 100000 in
theorem kPut_neg (most : Nat) (ks : List Kp) (h : Nat) (vk : Value) (pos : Int) (vb : Value) (w : World) (H : StIn w most ks h vk) (hp : pos < 0) :
    Calls Try.prog 8 #[.pointer (some ⟨h, 0, none⟩), .int .i64 pos, vb] w fun e w' => e = .returned (.int .i64 2) ∧ w = w' := by
  have HC := kThere_any most ks h vk w H
  clear H
  go_enter Try.func8, Try.ntmps8
  go_wp2_with fail
  refine HC.mono ?_
  rintro e w1 ⟨rfl, rfl⟩
  clear HC
  go_wp2
  go_ret
  exact ⟨rfl, rfl⟩

set_option maxHeartbeats 8000000 in
set_option maxRecDepth 100000 in
theorem kPut_own (most : Nat) (ks : List Kp) (h : Nat) (vk : Value) (pos : Int) (vb : Value) (bs : List UInt8) (w : World) (H : StIn w most ks h vk) (hm : ks.length ≤ most) (hp : 0 ≤ pos) (hp2 : pos ≤ 9223372036854775807) (hv : bytesAt w vb bs) (hl : bs.length ≤ 140737488355328) :
    Calls Try.prog 8 #[.pointer (some ⟨h, 0, none⟩), .int .i64 pos, vb] w fun e w' => e = .returned (.int .i64 0) ∧ ∃ ks' vk', StTo w most h vk ks' vk' w' ∧ PutTo most (prK ks) (pos, bs) (prK ks') ∧ ∀ k ∈ ks', k ∈ ks ∨ ∀ q, k.v.ownBlock = some q → w.heap.size ≤ q := by
  have HC := kThere_any most ks h vk w H
  have HCL := kClone_any vb bs w hv hl
  have HH : Hid (StIn w most ks h vk) := H
  have HM : Hid (ks.length ≤ most) := hm
  have m64 := H.m64
  have hp0 : ¬ pos < 0 := by omega
  obtain ⟨vbase, vcap, hvb, -⟩ := hv
  clear H hm
  subst hvb
  go_enter Try.func8, Try.ntmps8
  go_wp2_with fail
  refine HC.mono ?_
  rintro e w1 ⟨rfl, rfl⟩
  clear HC
  go_wp2_with fail
  refine HCL.mono ?_
  rintro e w1 ⟨vc, rfl, hown1, hb1⟩
  clear HCL
  obtain ⟨cb, cc, hvc, -, -⟩ := kown_val hown1
  obtain ⟨w2, hw2⟩ : ∃ w2, w2 = w1.alloc (.cells #[.int .i64 pos, vc] 52) := ⟨_, rfl⟩
  have hblk2 : w2.heap[w1.heap.size]? = some (.cells #[.int .i64 pos, vc] 52 (0, 0)) := by rw [hw2]; exact heap_alloc_new _ _
  have hb12 : Below w1.heap.size w1 w2 := by rw [hw2]; exact (Below.refl _ w1).alloc (Nat.le_refl _) _
  have hb2 : Below w.heap.size w w2 := hb1.trans (hb12.mono hb1.size)
  have HOK2 : Hid (KpOk w2 ⟨pos, bs, vc⟩) := ⟨kown_blocks (kown_base hown1 (Nat.zero_le _)) fun k _ hk => hb12.block k hk, hl, hp, hp2⟩
  have H2 : Hid (StIn w2 most ks h vk) := HH.out.below hb2
  have HF : Hid (Calls Try.prog 17 #[.pointer (some ⟨h, 0, none⟩), .int .i64 pos] w2 fun e w' => ∃ at0 is, e = .returned (.tuple #[.int .i64 (at0 : Nat), .bool is]) ∧ AtIn ks pos at0 is ∧ Below w2.heap.size w2 w') := kFind_any most ks h vk pos w2 H2.out
  have HB2 : Hid (Below w.heap.size w w2) := hb2
  have HNV : Hid (∀ q, vc.ownBlock = some q → w.heap.size ≤ q) := fun q e => (hown1.lt q e).1
  have hN2 : w1.heap.size < w2.heap.size := (Array.getElem?_eq_some_iff.1 hblk2).1
  have HN2 : Hid (w1.heap.size < w2.heap.size) := hN2
  have HS1 : Hid (w.heap.size ≤ w1.heap.size) := hb1.size
  have hw2' := hw2.symm
  subst hvc
  clear hown1 hb1 hb12 hb2 hw2 hN2
  go_wp2_with fail
  refine HF.out.mono ?_
  rintro e w3 ⟨at0, is, rfl, ha, hb3⟩
  clear HF hw2'
  have HA : Hid (AtIn ks pos at0 is) := ha
  have H3 : Hid (StIn w3 most ks h vk) := H2.out.below hb3
  have HB3 : Hid (Below w.heap.size w w3) := HB2.out.trans (hb3.mono HB2.out.size)
  have HOK3 : Hid (KpOk w3 ⟨pos, bs, .slice cb bs.length cc⟩) := ⟨kown_blocks HOK2.out.1 fun k _ hk => hb3.block k hk, HOK2.out.2⟩
  have hblk3 : w3.heap[w1.heap.size]? = some (.cells #[.int .i64 pos, .slice cb bs.length cc] 52 (0, 0)) := (hb3.block _ HN2.out).trans hblk2
  obtain ⟨q0, q1, -⟩ := kcells2 hblk3
  have hat : at0 ≤ ks.length := ha.le
  have few := H3.out.few
  clear hblk2 hblk3 hb3 ha
  cases is with
  | true =>
    obtain ⟨hlt, hpe⟩ := HA.out.is.1 rfl
    obtain ⟨g, cap, hvk, hc1, hc2, hg, hcell⟩ := krow_cells H3.out.row (i := at0) hlt
    subst hvk
    obtain ⟨d0, d1⟩ := hcell at0 hlt
    obtain ⟨-, e1, -⟩ := kcells2 H3.out.blk
    have hfr := fun j hj => (krow_room H3.out.row).2.2 j hj
    have f0 := (hfr (at0 * 2) (by omega)).2
    have f1 := (hfr (at0 * 2 + 1) (by omega)).2
    have HE := kset_end (x := ⟨pos, bs, .slice cb bs.length cc⟩) H3.out hlt hpe HOK3.out
    have HEE : Hid (StTo w most h (.slice (some ⟨g, 0, none⟩) ks.length cap) (ks.set at0 ⟨pos, bs, .slice cb bs.length cc⟩) (.slice (some ⟨g, 0, none⟩) ks.length cap) ((w3.setCell ⟨g, at0 * 2, none⟩ (.int .i64 pos)).setCell ⟨g, at0 * 2 + 1, none⟩ (.slice cb bs.length cc))) := StTo.behind HB3.out HE
    have HP : Hid (PutTo most (prK ks) (pos, bs) (prK (ks.set at0 ⟨pos, bs, .slice cb bs.length cc⟩))) := by
      refine ⟨at0, true, by rw [prK_fst]; exact HA.out.toL, ?_⟩
      unfold putL
      rw [prK_set, if_pos (by unfold withL; simpa using HM.out)]
    obtain ⟨n, hn⟩ : ∃ n, n = ks.length := ⟨_, rfl⟩
    have hgn : g ≠ w1.heap.size := by have := (HH.out.row.lt g rfl).2; have := HS1.out; omega
    rw [← hn] at hlt e1 hc1 few
    clear hn hcell hfr HE H3 hpe hat hc2 hg
    go_wp2_with fail
    go_region
    all_goals go_wp2
    all_goals go_ret
    all_goals exact ⟨rfl, _, _, HEE.out.drew, HP.out, fun k hk => (List.mem_or_eq_of_mem_set hk).imp id fun e => by rw [e]; exact HNV.out⟩
  | false =>
    have HIC : Hid (Calls Try.prog 18 #[.pointer (some ⟨h, 0, none⟩), .int .i64 (at0 : Int), .agg #[.int .i64 pos, .slice cb bs.length cc]] w3 fun e w' => e = .returned (.tuple #[]) ∧ ∃ v3, InsRet w3 most (insK ks at0 ⟨pos, bs, .slice cb bs.length cc⟩) h v3 w') :=
      kInsert_any most ks h vk at0 ⟨pos, bs, .slice cb bs.length cc⟩ w3 H3.out hat HOK3.out (by have := HM.out; omega) (kins_rise HA.out H3.out.rise _ rfl)
    obtain ⟨L, hL⟩ : ∃ L, L = insK ks at0 ⟨pos, bs, .slice cb bs.length cc⟩ := ⟨_, rfl⟩
    have HPR : Hid (prK L = withL (prK ks) at0 false (pos, bs)) := by show _ = _; rw [hL, prK_ins]
    have HLL : Hid (L.length = ks.length + 1) := by show _ = _; rw [hL]; exact insK_len _ _ _ hat
    rw [← hL] at HIC
    have HLM : Hid (∀ k ∈ L, k ∈ ks ∨ ∀ q, k.v.ownBlock = some q → w.heap.size ≤ q) := fun k hk => by
      rw [hL] at hk
      unfold insK at hk
      rcases List.mem_append.1 hk with h9 | h9
      · exact .inl (List.mem_of_mem_take h9)
      · rcases List.mem_cons.1 h9 with h9 | h9
        · right; rw [h9]; exact HNV.out
        · exact .inl (List.mem_of_mem_drop h9)
    have HAT : Hid (at0 < L.length) := (show at0 < L.length by rw [HLL.out]; omega)
    clear hL H3 HOK3
    go_wp2_with fail
    refine HIC.out.mono ?_
    rintro e w4 ⟨rfl, v3, hir⟩
    have HS4 : Hid (StTo w most h vk L v3 w4) := StTo.of_ins HB3.out hir
    have H4 : Hid (StIn w4 most L h v3) := hir.2.1
    obtain ⟨k0, k1, -⟩ := kcells2 H4.out.blk
    obtain ⟨b3, c3, hv3, -, -⟩ := kown_val H4.out.row
    obtain ⟨n, hn⟩ : ∃ n, n = L.length := ⟨_, rfl⟩
    have hnf : n ≤ 65 := by rw [hn]; exact H4.out.few
    have HN : Hid (n = L.length) := hn
    rw [← hn] at hv3
    subst hv3
    clear hir HIC hn q0 q1
    by_cases hbig : most < n
    · have HCS : Hid (∀ W, Below w4.heap.size w4 W → Calls Try.prog 20 #[.pointer (some ⟨h, 0, none⟩), .int .i64 (at0 : Int)] W fun e w' => e = .returned (.int .i64 ((spareP (posK L) at0 : Nat) : Int)) ∧ Below W.heap.size W w') := fun W hW => kSpare_any most L h _ at0 W (H4.out.below hW) HAT.out
      have hsl : Hid (spareP (posK L) at0 < L.length) := by
        show _ < _
        unfold spareP
        cases hs : spareTo (posK L) at0 (posK L).length with
        | none => exact HAT.out
        | some g => have := (spareTo_lt hs).1; simpa using this
      have HPT : Hid (PutTo most (prK ks) (pos, bs) (prK (L.eraseIdx (spareP (posK L) at0)))) := by
        refine ⟨at0, false, by rw [prK_fst]; exact HA.out.toL, ?_⟩
        unfold putL
        rw [← HPR.out, if_neg (by have := HN.out; simp; omega), prK_erase, prK_fst]
      obtain ⟨sp, hsp⟩ : ∃ sp, sp = spareP (posK L) at0 := ⟨_, rfl⟩
      rw [← hsp] at HCS hsl HPT
      have hsp65 : sp < 65 := by have := hsl.out; have := HN.out; omega
      clear hsp
      go_wp2_with fail
      go_region
      go_wp2_with fail
      refine (HCS.out _ ((Below.refl _ _).drew)).mono ?_
      rintro e w5 ⟨rfl, hb5⟩
      have HB5 : Hid (Below w4.heap.size w4 w5) := ((Below.refl _ w4).drew).trans hb5
      have HCR : Hid (Calls Try.prog 19 #[.pointer (some ⟨h, 0, none⟩), .int .i64 (sp : Int)] w5 fun e w' => e = .returned (.tuple #[]) ∧ ∃ vk', StTo w5 most h (.slice b3 n c3) (L.eraseIdx sp) vk' w') := kRemove_any most L h _ sp w5 (H4.out.below HB5.out) hsl.out
      clear hb5 k0 k1 HCS
      go_wp2_with fail
      refine HCR.out.mono ?_
      rintro e w6 ⟨rfl, vk', hst⟩
      have HST : Hid (StTo w most h vk (L.eraseIdx sp) vk' w6) := HS4.out.then HB5.out hst
      clear hst HCR
      go_wp2
      go_ret
      exact ⟨rfl, _, _, HST.out, HPT.out, fun k hk => HLM.out k (List.mem_of_mem_eraseIdx hk)⟩
    · have HPT : Hid (PutTo most (prK ks) (pos, bs) (prK L)) := by
        refine ⟨at0, false, by rw [prK_fst]; exact HA.out.toL, ?_⟩
        unfold putL
        rw [← HPR.out, if_pos (by have := HN.out; simp; omega)]
      have HS5 : Hid (StTo w most h vk L (.slice b3 n c3) w4.drew) := HS4.out.drew
      go_wp2_with fail
      go_region
      go_wp2
      go_ret
      exact ⟨rfl, _, _, HS5.out, HPT.out, HLM.out⟩
theorem kPut_any (most : Nat) (ks : List Kp) (h : Nat) (vk : Value) (pos : Int) (vb : Value) (bs : List UInt8) (w : World) (H : StIn w most ks h vk) (hm : ks.length ≤ most) (hp : 0 ≤ pos) (hp2 : pos ≤ 9223372036854775807) (hv : bytesAt w vb bs) (hl : bs.length ≤ 140737488355328) :
    Calls Try.prog 8 #[.pointer (some ⟨h, 0, none⟩), .int .i64 pos, vb] w fun e w' => e = .returned (.int .i64 0) ∧ ∃ ks' vk', StTo w most h vk ks' vk' w' ∧ PutTo most (prK ks) (pos, bs) (prK ks') :=
  (kPut_own most ks h vk pos vb bs w H hm hp hp2 hv hl).mono fun _ _ ⟨h1, ks', vk', h2, h3, _⟩ => ⟨h1, ks', vk', h2, h3⟩
end Go.Proofs.Ytancnmbgncofiaa
