/- store: which one goes. -/
import Derived.Test.YtancnmbgncofiaaKFind
namespace Go.Proofs.Ytancnmbgncofiaa
open Go.RowKit

/-- How far one lies above the next one below it. -/
def gapP (ps : List Int) (i : Nat) : Int := ps.getD i 0 - ps.getD (i - 1) 0
/-- Of those below m, but the least and the one that came: the one that is nearest to the next one below it, of several the least. -/
def spareTo (ps : List Int) (came : Nat) : Nat → Option Nat
  | 0 => none
  | m + 1 => if m ≠ 0 ∧ m ≠ came ∧ (∀ g, spareTo ps came m = some g → gapP ps m < gapP ps g) then some m else spareTo ps came m
/-- The place of the one that goes. -/
def spareP (ps : List Int) (came : Nat) : Nat := (spareTo ps came ps.length).getD came

theorem spareTo_lt {ps : List Int} {came : Nat} : ∀ {m g : Nat}, spareTo ps came m = some g → g < m ∧ g ≠ 0 ∧ g ≠ came
  | 0, g, h => by cases h
  | m + 1, g, h => by
    unfold spareTo at h
    split at h
    · rename_i hc
      cases h
      exact ⟨by omega, hc.1, hc.2.1⟩
    · have := spareTo_lt h
      exact ⟨by omega, this.2⟩
theorem spareTo_yes {ps : List Int} {came m : Nat} (h0 : m ≠ 0) (h1 : m ≠ came) (h2 : ∀ g, spareTo ps came m = some g → gapP ps m < gapP ps g) : spareTo ps came (m + 1) = some m := by
  conv => lhs; unfold spareTo
  rw [if_pos ⟨h0, h1, h2⟩]
theorem spareTo_no {ps : List Int} {came m : Nat} (h : m = 0 ∨ m = came ∨ ∃ g, spareTo ps came m = some g ∧ ¬ gapP ps m < gapP ps g) : spareTo ps came (m + 1) = spareTo ps came m := by
  conv => lhs; unfold spareTo
  rw [if_neg]
  rintro ⟨a, b, c⟩
  rcases h with h | h | ⟨g, h1, h2⟩
  · exact a h
  · exact b h
  · exact h2 (c g h1)

/-- The positions. -/
abbrev posK (ks : List Kp) : List Int := ks.map (·.p)
theorem posK_at (ks : List Kp) (i : Nat) (h : i < ks.length) : (posK ks).getD i 0 = (ks[i]).p := by
  rw [List.getD_eq_getElem?_getD, List.getElem?_eq_getElem (by simpa using h)]; simp

set_option maxHeartbeats 2000000 in
set_option maxRecDepth 100000 in
theorem kGap_any (most : Nat) (ks : List Kp) (h : Nat) (vk : Value) (i : Nat) (w : World) (H : StIn w most ks h vk) (h0 : 0 < i) (hi : i < ks.length) :
    Calls Try.prog 26 #[.pointer (some ⟨h, 0, none⟩), .int .i64 (i : Int)] w fun e w' => e = .returned (.int .i64 (gapP (posK ks) i)) ∧ Below w.heap.size w w' := by
  obtain ⟨g, cap, hv, hc1, hc2, hg, hcell⟩ := krow_cells H.row (i := i) hi
  obtain ⟨c0, -⟩ := hcell i hi
  obtain ⟨d0, -⟩ := hcell (i - 1) (by omega)
  obtain ⟨-, h1, -⟩ := kcells2 H.blk
  have hk1 := (H.its (ks[i]) (List.getElem_mem hi)).2.2
  have hk2 := (H.its (ks[i - 1]'(by omega)) (List.getElem_mem (by omega))).2.2
  have HG : Hid (gapP (posK ks) i = (ks[i]).p - (ks[i - 1]'(by omega)).p) := by
    show _ = _
    unfold gapP; rw [posK_at ks i hi, posK_at ks (i - 1) (by omega)]
  have few := H.few
  obtain ⟨n, hn⟩ : ∃ n, n = ks.length := ⟨_, rfl⟩
  rw [← hn] at hv hc1 few
  have hin : i < n := by omega
  obtain ⟨a, ha⟩ : ∃ a, a = (ks[i]).p := ⟨_, rfl⟩
  obtain ⟨b, hb⟩ : ∃ b, b = (ks[i - 1]'(by omega)).p := ⟨_, rfl⟩
  rw [← ha] at c0 hk1 HG
  rw [← hb] at d0 hk2 HG
  rw [hv] at h1
  have hs : IntKind.i64.wrap (a - b) = a - b := by rw [IntKind.wrap_i64]; omega
  have hi1 : ((i : Int) - 1) = ((i - 1 : Nat) : Int) := by omega
  clear H hv hcell hn ha hb
  go_enter Try.func26, Try.ntmps26
  go_wp2_with fail
  go_region
  go_wp2
  go_ret
  exact ⟨by rw [HG.out]; rfl, (Below.refl _ _).drew⟩

/-- Is this one better than the one that would go? -/
def betterB (ps : List Int) (came goes at0 : Nat) : Bool := at0 != came && (goes == came || decide (gapP ps at0 < gapP ps goes))

set_option maxHeartbeats 4000000 in
set_option maxRecDepth 100000 in
theorem kBetter_any (most : Nat) (ks : List Kp) (h : Nat) (vk : Value) (at0 came goes : Nat) (pc pg ps : Nat) (w : World) (H : StIn w most ks h vk) (h0 : 0 < at0) (hi : at0 < ks.length) (hg : goes < ks.length) (hg0 : goes = came ∨ 0 < goes)
    (cc : w.cell? ⟨pc, 0, none⟩ = some (.int .i64 (came : Int))) (cg : w.cell? ⟨pg, 0, none⟩ = some (.int .i64 (goes : Int))) (cs : w.cell? ⟨ps, 0, none⟩ = some (.pointer (some ⟨h, 0, none⟩))) :
    Calls Try.prog 25 #[.int .i64 (at0 : Int), .pointer (some ⟨pc, 0, none⟩), .pointer (some ⟨pg, 0, none⟩), .pointer (some ⟨ps, 0, none⟩)] w fun e w' => e = .returned (.bool (betterB (posK ks) came goes at0)) ∧ Below w.heap.size w w' := by
  have few := H.few
  have lc := World.block_lt_of_cell? w _ cc
  have lg := World.block_lt_of_cell? w _ cg
  have ls := World.block_lt_of_cell? w _ cs
  have x0 := cls_cell (n := w.heap.size) cc lc
  have x1 := cls_cell (n := w.heap.size) cg lg
  have x2 := cls_cell (n := w.heap.size) cs ls
  by_cases hA : at0 = came
  · have HB : Hid (betterB (posK ks) came goes at0 = false) := by show _ = _; unfold betterB; rw [hA]; simp
    have t0 : ((at0 : Int) != (came : Int)) = false := by simp; omega
    clear H hA cc cg cs lc lg ls
    go_enter Try.func25, Try.ntmps25
    go_wp2_with fail
    refine wp_region_cls (n := w.heap.size) (w0 := w) (Below.refl _ _) (by kernel_rfl) (by kernel_rfl) ?_
    iterate 18 (go_big_quiet_step (fail))
    refine wpQuiet_nil ?_
    rintro _ ⟨c, rfl⟩
    have hb := c.2
    clear x0 x1 x2
    go_wp2
    go_ret
    exact ⟨by rw [HB.out]; rfl, hb⟩
  · have t0 : ((at0 : Int) != (came : Int)) = true := by simp; omega
    by_cases hB : goes = came
    · have HB : Hid (betterB (posK ks) came goes at0 = true) := by show _ = _; unfold betterB; simp [hB, hA]
      have t1 : ((goes : Int) == (came : Int)) = true := by simp; omega
      clear H hA hB cc cg cs lc lg ls
      go_enter Try.func25, Try.ntmps25
      go_wp2_with fail
      refine wp_region_cls (n := w.heap.size) (w0 := w) (Below.refl _ _) (by kernel_rfl) (by kernel_rfl) ?_
      iterate 18 (go_big_quiet_step (fail))
      refine wpQuiet_nil ?_
      rintro _ ⟨c, rfl⟩
      have hb := c.2
      clear x0 x1 x2
      go_wp2
      go_ret
      exact ⟨by rw [HB.out]; rfl, hb⟩
    · have HB : Hid (betterB (posK ks) came goes at0 = decide (gapP (posK ks) at0 < gapP (posK ks) goes)) := by
        show _ = _
        have e1 : (at0 != came) = true := by rw [bne_iff_ne]; exact hA
        have e2 : (goes == came) = false := by rw [beq_eq_false_iff_ne]; exact hB
        unfold betterB
        rw [e1, e2]; rfl
      have t1 : ((goes : Int) == (came : Int)) = false := by simp; omega
      have HC1 : Hid (∀ wx, Below w.heap.size w wx → Calls Try.prog 26 #[.pointer (some ⟨h, 0, none⟩), .int .i64 (at0 : Int)] wx fun e w'' => e = .returned (.int .i64 (gapP (posK ks) at0)) ∧ Below w.heap.size w w'') := fun wx hx =>
        (kGap_any most ks h vk at0 wx (H.below hx) h0 hi).mono fun e w'' ⟨he, hb⟩ => ⟨he, hx.trans (hb.mono hx.size)⟩
      have HC2 : Hid (∀ wx, Below w.heap.size w wx → Calls Try.prog 26 #[.pointer (some ⟨h, 0, none⟩), .int .i64 (goes : Int)] wx fun e w'' => e = .returned (.int .i64 (gapP (posK ks) goes)) ∧ Below w.heap.size w w'') := fun wx hx =>
        (kGap_any most ks h vk goes wx (H.below hx) (by omega) hg).mono fun e w'' ⟨he, hb⟩ => ⟨he, hx.trans (hb.mono hx.size)⟩
      obtain ⟨ga, hga⟩ : ∃ ga, ga = gapP (posK ks) at0 := ⟨_, rfl⟩
      obtain ⟨gb, hgb⟩ : ∃ gb, gb = gapP (posK ks) goes := ⟨_, rfl⟩
      rw [← hga] at HB HC1
      rw [← hgb] at HB HC2
      clear H hA hB cc cg cs lc lg ls hga hgb
      go_enter Try.func25, Try.ntmps25
      go_wp2_with fail
      refine wp_region_cls (n := w.heap.size) (w0 := w) (Below.refl _ _) (by kernel_rfl) (by kernel_rfl) ?_
      iterate 10 (go_big_quiet_step (fail))
      go_big_quiet_step (exact cls_calls HC1.out _)
      iterate 2 (go_big_quiet_step (fail))
      go_big_quiet_step (exact cls_calls HC2.out _)
      iterate 4 (go_big_quiet_step (fail))
      refine wpQuiet_nil ?_
      rintro _ ⟨c, rfl⟩
      have hb := c.2
      clear x0 x1 x2
      go_wp2
      go_ret
      exact ⟨by rw [HB.out]; rfl, hb⟩

theorem better_yes {ps : List Int} {came k : Nat} (h0 : k ≠ 0) (h : betterB ps came ((spareTo ps came k).getD came) k = true) : spareTo ps came (k + 1) = some k := by
  unfold betterB at h
  rw [Bool.and_eq_true, bne_iff_ne] at h
  refine spareTo_yes h0 h.1 fun g hg => ?_
  have h2 := h.2
  rw [hg] at h2
  have := (spareTo_lt hg).2.2
  simp [this] at h2
  exact h2
theorem better_no {ps : List Int} {came k : Nat} (h : betterB ps came ((spareTo ps came k).getD came) k = false) : spareTo ps came (k + 1) = spareTo ps came k := by
  by_cases hk : k = came
  · exact spareTo_no (.inr (.inl hk))
  · unfold betterB at h
    have e1 : (k != came) = true := by rw [bne_iff_ne]; exact hk
    rw [e1, Bool.true_and] at h
    cases hs : spareTo ps came k with
    | none => rw [hs] at h; simp at h
    | some g =>
      rw [hs] at h
      simp at h
      rw [← hs]
      exact spareTo_no (.inr (.inr ⟨g, hs, by omega⟩))

/-- The boxes of spare. -/
structure SpIn (w : World) (h came goes : Nat) (wr : World) : Prop where
  b0 : wr.heap[w.heap.size]? = some (.cells #[.pointer (some ⟨h, 0, none⟩)] 23 (0, 0))
  b1 : wr.heap[w.heap.size + 1]? = some (.cells #[.int .i64 (came : Int)] 3 (0, 0))
  b2 : wr.heap[w.heap.size + 1 + 1]? = some (.cells #[.int .i64 (goes : Int)] 3 (0, 0))
  low : Below w.heap.size w wr
theorem SpIn.below {w : World} {h came goes : Nat} {wr w1 : World} (H : SpIn w h came goes wr) (hb : Below wr.heap.size wr w1) : SpIn w h came goes w1 :=
  ⟨(hb.block _ (Array.getElem?_eq_some_iff.1 H.b0).1).trans H.b0, (hb.block _ (Array.getElem?_eq_some_iff.1 H.b1).1).trans H.b1, (hb.block _ (Array.getElem?_eq_some_iff.1 H.b2).1).trans H.b2, H.low.trans (hb.mono H.low.size)⟩
theorem SpIn.set {w : World} {h came goes : Nat} {wr : World} (H : SpIn w h came goes wr) (g : Nat) : SpIn w h came g (wr.setCell ⟨w.heap.size + 1 + 1, 0, none⟩ (.int .i64 (g : Int))) :=
  ⟨(Below.heap_setCell _ _ _ _ (by simp; omega)).trans H.b0, (Below.heap_setCell _ _ _ _ (by simp)).trans H.b1, ksetCell_block _ H.b2, H.low.setCell (by simp; omega) _⟩
theorem kcells1 {w : World} {N : Nat} {x0 : Value} {ty : TypeId} (h : w.heap[N]? = some (.cells #[x0] ty (0, 0))) : w.cell? ⟨N, 0, none⟩ = some x0 ∧ w.frozen? ⟨N, 0, none⟩ = false := by
  refine ⟨?_, ?_⟩
  · simp only [World.cell?, h]; rfl
  · simp only [World.frozen?, h]; simp

set_option maxHeartbeats 4000000 in
set_option maxRecDepth 100000 in
theorem kSpare_any (most : Nat) (ks : List Kp) (h : Nat) (vk : Value) (came : Nat) (w : World) (H : StIn w most ks h vk) (hc : came < ks.length) :
    Calls Try.prog 20 #[.pointer (some ⟨h, 0, none⟩), .int .i64 (came : Int)] w fun e w' => e = .returned (.int .i64 ((spareP (posK ks) came : Nat) : Int)) ∧ Below w.heap.size w w' := by
  have few := H.few
  obtain ⟨n, hn⟩ : ∃ n, n = ks.length := ⟨_, rfl⟩
  have HN : Hid (n = ks.length) := hn
  have HSP : Hid (spareP (posK ks) came = (spareTo (posK ks) came n).getD came) := by show _ = _; unfold spareP; rw [List.length_map, hn]
  have hc' : came < n := by omega
  rw [← hn] at few
  obtain ⟨base, cap, hv, -⟩ := kown_val H.row
  rw [← hn] at hv
  subst hv
  have HH : Hid (StIn w most ks h (.slice base n cap)) := H
  obtain ⟨-, h1, -⟩ := kcells2 H.blk
  have hlt := H.lt
  obtain ⟨w3, hw3⟩ : ∃ w3, w3 = ((w.alloc (.cells #[.pointer (some ⟨h, 0, none⟩)] 23)).alloc (.cells #[.int .i64 (came : Int)] 3)).alloc (.cells #[.int .i64 (came : Int)] 3) := ⟨_, rfl⟩
  have HS3 : Hid (SpIn w h came came w3) := by
    show SpIn _ _ _ _ _
    rw [hw3]
    refine ⟨?_, ?_, ?_, ?_⟩
    · rw [Below.heap_alloc _ _ _ (by simp; omega), Below.heap_alloc _ _ _ (by simp)]; exact heap_alloc_new _ _
    · rw [Below.heap_alloc _ _ _ (by simp)]
      have := heap_alloc_new (w.alloc (.cells #[.pointer (some ⟨h, 0, none⟩)] 23)) (.cells #[.int .i64 (came : Int)] 3)
      simpa using this
    · have := heap_alloc_new ((w.alloc (.cells #[.pointer (some ⟨h, 0, none⟩)] 23)).alloc (.cells #[.int .i64 (came : Int)] 3)) (.cells #[.int .i64 (came : Int)] 3)
      simpa using this
    · exact (((Below.refl _ w).alloc (Nat.le_refl _) _).alloc (by simp) _).alloc (by simp; omega) _
  have hw3' := hw3.symm
  clear hn H hw3 hc
  go_enter Try.func20, Try.ntmps20
  go_wp2
  go_loopw [7] (fun vi wr => ∃ k : Nat, vi = .int .i64 (k : Int) ∧ 1 ≤ k ∧ k ≤ max n 1 ∧ SpIn w h came ((spareTo (posK ks) came k).getD came) wr) (fun vi _ => n - (intOf vi).toNat)
  case atStart => exact ⟨1, rfl, Nat.le_refl _, by omega, HS3.out⟩
  case round =>
    obtain ⟨k, rfl, hk1, hkn, hsp⟩ := hrel
    have HSI : Hid (SpIn w h came ((spareTo (posK ks) came k).getD came) wr) := hsp
    have c1 : wr.cell? ⟨h, 1, none⟩ = some (.slice base n cap) := (kbelow_cell hsp.low hlt).trans h1
    obtain ⟨d0, -⟩ := kcells1 hsp.b0
    obtain ⟨d1, -⟩ := kcells1 hsp.b1
    obtain ⟨d2, -⟩ := kcells1 hsp.b2
    have HD0 : Hid (wr.cell? ⟨w.heap.size, 0, none⟩ = some (.pointer (some ⟨h, 0, none⟩))) := d0
    have HD1 : Hid (wr.cell? ⟨w.heap.size + 1, 0, none⟩ = some (.int .i64 (came : Int))) := d1
    have HD2 : Hid (wr.cell? ⟨w.heap.size + 1 + 1, 0, none⟩ = some (.int .i64 ((spareTo (posK ks) came k).getD came : Int))) := d2
    have hgo : Hid (((spareTo (posK ks) came k).getD came < ks.length) ∧ ((spareTo (posK ks) came k).getD came = came ∨ 0 < (spareTo (posK ks) came k).getD came)) := by
      show _ ∧ _
      rw [← HN.out]
      cases hs : spareTo (posK ks) came k with
      | none => exact ⟨hc', .inl rfl⟩
      | some g => have := spareTo_lt hs; exact ⟨by simp only [Option.getD_some]; omega, .inr (by simp only [Option.getD_some]; omega)⟩
    obtain ⟨goes, hgoes⟩ : ∃ goes, goes = (spareTo (posK ks) came k).getD came := ⟨_, rfl⟩
    rw [← hgoes] at HSI HD2 hgo d2
    have HGO : Hid (goes = (spareTo (posK ks) came k).getD came) := hgoes
    clear hgoes hsp
    by_cases hlt2 : k < n
    · have hcall : Hid (Calls Try.prog 25 #[.int .i64 (k : Int), .pointer (some ⟨w.heap.size + 1, 0, none⟩), .pointer (some ⟨w.heap.size + 1 + 1, 0, none⟩), .pointer (some ⟨w.heap.size, 0, none⟩)] wr fun e w' => e = .returned (.bool (betterB (posK ks) came goes k)) ∧ Below wr.heap.size wr w') :=
        kBetter_any most ks h (.slice base n cap) k came goes (w.heap.size + 1) (w.heap.size + 1 + 1) w.heap.size wr (HH.out.below HSI.out.low) (by omega) (by rw [← HN.out]; exact hlt2) hgo.out.1 hgo.out.2 HD1.out HD2.out HD0.out
      clear d1
      go_wp2_with fail
      refine hcall.out.mono ?_
      rintro e w1 ⟨rfl, hb1⟩
      have HS1 : Hid (SpIn w h came goes w1) := HSI.out.below hb1
      have hf1 : w1.frozen? ⟨w.heap.size + 1 + 1, 0, none⟩ = false := (kcells1 HS1.out.b2).2
      have hc1 : w1.cell? ⟨w.heap.size + 1 + 1, 0, none⟩ = some (.int .i64 (goes : Int)) := (kcells1 HS1.out.b2).1
      clear hcall c1 d0 d2 hb1
      cases hbt : betterB (posK ks) came goes k with
      | true =>
        have HST : Hid (spareTo (posK ks) came (k + 1) = some k) := better_yes (by omega) (by rw [← HGO.out]; exact hbt)
        have HS2 : Hid (SpIn w h came k (w1.setCell ⟨w.heap.size + 1 + 1, 0, none⟩ (.int .i64 (k : Int)))) := HS1.out.set k
        clear hbt
        go_wp2
        go_roundw
        case rel => exact ⟨k + 1, by go_num, by omega, by omega, by rw [HST.out]; exact HS2.out⟩
        case measure => simp [intOf]; omega
      | false =>
        have HST : Hid (spareTo (posK ks) came (k + 1) = spareTo (posK ks) came k) := better_no (by rw [← HGO.out]; exact hbt)
        clear hbt
        go_wp2
        go_roundw
        case rel => exact ⟨k + 1, by go_num, by omega, by omega, by rw [HST.out, ← HGO.out]; exact HS1.out⟩
        case measure => simp [intOf]; omega
    · obtain rfl : k = n := by omega
      clear d1
      go_wp2
      go_ret
      exact ⟨by rw [HSP.out, ← HGO.out]; rfl, HSI.out.low⟩
end Go.Proofs.Ytancnmbgncofiaa
