/- store: insert. -/
import Derived.Test.YtancnmbgncofiaaKInsert
namespace Go.Proofs.Ytancnmbgncofiaa
open Go.RowKit

theorem kcells_new (W : World) (cs : List Value) (t : TypeId) : ∀ j u, cs[j]? = some u → (W.alloc (.cells cs.toArray t)).cell? ((⟨W.heap.size, 0, none⟩ : Addr).add j) = some u := fun j u h => by
  have hb : (W.alloc (.cells cs.toArray t)).heap[W.heap.size]? = some (.cells cs.toArray t (0, 0)) := heap_alloc_new _ _
  rw [add_zero', cell_of_row _ _ j _ t (0, 0) hb]
  simpa using h

/-- What is kept with one put in at a place. -/
def insK (ks : List Kp) (at0 : Nat) (x : Kp) : List Kp := ks.take at0 ++ x :: ks.drop at0
theorem insK_len (ks : List Kp) (at0 : Nat) (x : Kp) (h : at0 ≤ ks.length) : (insK ks at0 x).length = ks.length + 1 := by
  unfold insK; simp; omega
theorem insK_cells (ks : List Kp) (at0 : Nat) (x : Kp) : kpC (insK ks at0 x) = (kpC (ks.take at0) ++ [.int .i64 x.p, x.v]) ++ kpC (ks.drop at0) := by
  unfold insK; rw [kpC_app, kpC_cons]; simp

/-- What insert leaves. -/
def InsRet (w : World) (most : Nat) (L : List Kp) (h : Nat) (v3 : Value) (w' : World) : Prop :=
  KpS (fun k => k = h) w w' ∧ StIn w' most L h v3 ∧ ∀ q, v3.ownBlock = some q → w.heap.size ≤ q

theorem kins_end {w w1 w2 w3 : World} {o : Obj} {most h : Nat} {ks L : List Kp} {vk v2 v3 : Value} {n3 : Nat} {cs : List Value} (H : StIn w most ks h vk) (hb1 : Below w.heap.size w w1) (hb2 : Below (w1.alloc o).heap.size (w1.alloc o) w2) (hg3 : w2.grownBy w3 v2.ownBlock) (h2 : ∀ k, v2.ownBlock = some k → w.heap.size ≤ k)
    (hown3 : w3.ownsRow w.heap.size 52 2 v3 n3 cs) (hn : n3 = L.length) (hc : cs = kpC L) (rise : L.Pairwise fun a b => a.p < b.p) (few : L.length ≤ 65) (hits : ∀ k ∈ L, KpOk w k) : InsRet w most L h v3 (w3.setCell ⟨h, 1, none⟩ v3) := by
  subst hn hc
  have s1 := hb1.size
  have s2 := hb2.size
  have s3 := hg3.size
  have hlt := H.lt
  have hal : (w1.alloc o).heap.size = w1.heap.size + 1 := by simp
  have hkeep : ∀ k, k < w.heap.size → w3.heap[k]? = w.heap[k]? := fun k hk => by
    rw [hg3.block k (by omega) (fun e => by have := h2 k e.symm; omega), hb2.block k (by omega), Below.heap_alloc _ _ _ (by omega), hb1.block k hk]
  have k3 : KpS (fun k => k = h) w w3 := ((KpS.of hb1).alloc o |>.trans (KpS.of (S := fun _ => False) hb2) (fun _ _ h => h.elim)).grown hg3 (fun k e hk => by have := h2 k e; omega)
  refine ⟨k3.set _ (fun _ => rfl), ⟨?_, ?_, fun k hk => ?_, H.m1, H.m64, few, rise⟩, fun q e => (hown3.lt q e).1⟩
  · exact ksetCell_block _ ((hkeep h hlt).trans H.blk)
  · refine kown_blocks (kown_base hown3 (Nat.zero_le _)) fun k e _ => Below.heap_setCell _ _ _ _ (fun e' => ?_)
    simp only at e'
    have := (hown3.lt k e).1
    omega
  · refine ⟨kown_blocks (hits k hk).1 fun q e hq => ?_, (hits k hk).2⟩
    rw [Below.heap_setCell _ _ _ _ (fun e' => ?_), hkeep q hq]
    simp only at e'
    obtain ⟨cur, hc⟩ := kown_type (hits k hk).1 e
    rw [e', H.blk] at hc
    simp at hc

set_option maxHeartbeats 8000000 in
set_option maxRecDepth 100000 in
theorem kInsert_some (most : Nat) (ks : List Kp) (h g cap : Nat) (at0 : Nat) (x : Kp) (w : World) (H : StIn w most ks h (.slice (some ⟨g, 0, none⟩) ks.length cap)) (hat : at0 ≤ ks.length) (hx : KpOk w x) (hf : ks.length < 65) (hrise : (insK ks at0 x).Pairwise fun a b => a.p < b.p) :
    Calls Try.prog 18 #[.pointer (some ⟨h, 0, none⟩), .int .i64 (at0 : Int), .agg #[.int .i64 x.p, x.v]] w fun e w' => e = .returned (.tuple #[]) ∧ ∃ v3, InsRet w most (insK ks at0 x) h v3 w' := by
  obtain ⟨i0, hi0, hz0, hz1, hz2⟩ := info_parts info_kp
  have HH : Hid (StIn w most ks h (.slice (some ⟨g, 0, none⟩) ks.length cap)) := H
  have HRI : Hid ((insK ks at0 x).Pairwise fun a b => a.p < b.p) := hrise
  have HLEN : Hid ((insK ks at0 x).length = ks.length + 1) := insK_len ks at0 x hat
  have HCL : Hid (kpC (insK ks at0 x) = (kpC (ks.take at0) ++ [.int .i64 x.p, x.v]) ++ kpC (ks.drop at0)) := insK_cells ks at0 x
  have HITS : Hid (∀ k ∈ insK ks at0 x, KpOk w k) := fun k hk => by
    unfold insK at hk
    rcases List.mem_append.1 hk with h9 | h9
    · exact H.its k (List.mem_of_mem_take h9)
    · rcases List.mem_cons.1 h9 with h9 | h9
      · rw [h9]; exact hx
      · exact H.its k (List.mem_of_mem_drop h9)
  have HX1 : Hid (x.v.oneCell' = true) := kown_one hx.1
  have hone : Hid (∀ u ∈ kpC (ks.drop at0), u.oneCell' = true) := fun u hu => by
    unfold kpC at hu
    rw [List.mem_flatMap] at hu
    obtain ⟨k, hk, hu⟩ := hu
    simp only [List.mem_cons, List.not_mem_nil, or_false] at hu
    rcases hu with rfl | rfl
    · rfl
    · exact kown_one (H.its k (List.mem_of_mem_drop hk)).1
  have hd1 : Hid (∀ j u, (kpC (ks.take at0))[j]? = some u → w.cell? ((⟨g, 0, none⟩ : Addr).add j) = some u) := fun j u hj => by
    refine H.row.cells rfl j u ?_
    rw [← kpC_take, List.getElem?_take] at hj
    split at hj
    · exact hj
    · cases hj
  have hd2 : Hid (∀ j u, (kpC (ks.drop at0))[j]? = some u → w.cell? ((⟨g, at0 * 2, none⟩ : Addr).add j) = some u) := fun j u hj => by
    rw [← kpC_drop, List.getElem?_drop] at hj
    have := H.row.cells (g := g) rfl _ u hj
    rw [add_zero'] at this
    have e : (⟨g, at0 * 2, none⟩ : Addr).add j = ⟨g, at0 * 2 + j, none⟩ := by unfold Addr.add; split <;> simp_all
    rw [e]; exact this
  have hlt1 : (kpC (ks.take at0)).length = at0 * 2 := by rw [kpC_len, List.length_take, Nat.min_eq_left hat]
  have hlt2 : (kpC (ks.drop at0)).length = (ks.length - at0) * 2 := by rw [kpC_len, List.length_drop]
  obtain ⟨cs1, hcs1⟩ : ∃ cs, cs = kpC (ks.take at0) := ⟨_, rfl⟩
  obtain ⟨cs2, hcs2⟩ : ∃ cs, cs = kpC (ks.drop at0) := ⟨_, rfl⟩
  rw [← hcs1] at hlt1 hd1 HCL
  rw [← hcs2] at hlt2 hd2 hone HCL
  obtain ⟨L, hL⟩ : ∃ L, L = insK ks at0 x := ⟨_, rfl⟩
  rw [← hL] at HRI HLEN HCL HITS ⊢
  have HX : Hid (KpOk w x) := hx
  obtain ⟨xp, hxp⟩ : ∃ xp, xp = x.p := ⟨_, rfl⟩
  obtain ⟨xv, hxv⟩ : ∃ xv, xv = x.v := ⟨_, rfl⟩
  rw [← hxp, ← hxv] at HCL ⊢
  rw [← hxv] at HX1
  clear hcs1 hcs2 hL hrise hxp hxv hx
  obtain ⟨n, hn⟩ : ∃ n, n = ks.length := ⟨_, rfl⟩
  have HN : Hid (n = ks.length) := hn
  rw [← hn] at hat hf H hlt2 HLEN HH
  obtain ⟨h0, h1, hfr⟩ := kcells2 H.blk
  obtain ⟨w1, hw1⟩ : ∃ w1, w1 = w.alloc (.cells #[.int .i64 xp, xv] 52) := ⟨_, rfl⟩
  have hb1 : Below w.heap.size w w1 := by rw [hw1]; exact (Below.refl _ w).alloc (Nat.le_refl _) _
  have hblk1 : w1.heap[w.heap.size]? = some (.cells #[.int .i64 xp, xv] 52 (0, 0)) := by rw [hw1]; exact heap_alloc_new _ _
  obtain ⟨q0, q1, -⟩ := kcells2 hblk1
  have hlth := H.lt
  have c1 : w1.cell? ⟨h, 1, none⟩ = some (.slice (some ⟨g, 0, none⟩) n cap) := (kbelow_cell hb1 hlth).trans h1
  have c1a : ∀ o, (w1.alloc o).cell? ⟨h, 1, none⟩ = some (.slice (some ⟨g, 0, none⟩) n cap) := fun o => Lib.cell?_alloc_some o c1
  have hgl : g < w.heap.size := (H.row.lt g rfl).2
  have hcap : n ≤ cap ∧ cap ≤ maxLen := by
    rcases H.row.2 with ⟨hh, -⟩ | ⟨g', cap', cur, hh, -, -, h1, h2, -⟩
    · cases hh
    · cases hh; exact ⟨by rw [hn]; exact h1, h2⟩
  obtain ⟨hc1, hc2⟩ := hcap
  unfold maxLen at hc2
  have hac : at0 ≤ cap := by omega
  have HB1 : Hid (Below w.heap.size w w1) := hb1
  have HD1 : Hid (∀ W, Below w1.heap.size w1 W → ∀ j u, cs1[j]? = some u → W.cell? ((⟨g, 0, none⟩ : Addr).add j) = some u) := fun W hW j u hj => by
    have := hd1.out j u hj
    rw [add_zero'] at this ⊢
    have s1 := hb1.size
    exact (kbelow_cell hW (by omega)).trans ((kbelow_cell hb1 hgl).trans this)
  have HD2 : Hid (∀ W, Below w1.heap.size w1 W → ∀ j u, cs2[j]? = some u → W.cell? ((⟨g, at0 * 2, none⟩ : Addr).add j) = some u) := fun W hW j u hj => by
    have := hd2.out j u hj
    have e : (⟨g, at0 * 2, none⟩ : Addr).add j = ⟨g, at0 * 2 + j, none⟩ := by unfold Addr.add; split <;> simp_all
    rw [e] at this ⊢
    have s1 := hb1.size
    exact (kbelow_cell hW (by omega)).trans ((kbelow_cell hb1 hgl).trans this)
  have hs1 : w.heap.size ≤ w1.heap.size := hb1.size
  have HS1 : Hid (w.heap.size ≤ w1.heap.size) := hs1
  have HC1 : Hid (w1.cell? ⟨h, 1, none⟩ = some (.slice (some ⟨g, 0, none⟩) n cap)) := c1
  have HF1 : Hid (w1.frozen? ⟨h, 1, none⟩ = false) := (World.frozen?_of_block (hb1.block h hlth)).trans (hfr 1)
  have HLH : Hid (h < w1.heap.size) := (show h < w1.heap.size by omega)
  have HLH0 : Hid (h < w.heap.size) := hlth
  have hw1' := hw1.symm
  clear hn H hw1 h0 h1 hfr hd1 hd2 hb1 hblk1 hlth hs1
  by_cases hce : cap = at0
  · obtain rfl : n = at0 := by omega
    obtain rfl := hce
    obtain rfl : cs2 = [] := List.eq_nil_of_length_eq_zero (by omega)
    clear hlt2 hc1 hat hac
    go_enter Try.func18, Try.ntmps18
    go_wp2_with fail
    go_region_law (first
      | (refine kstep_append_at (.tmp 16) (.tmp 22) 45 rfl (by rfl) w.heap.size 52 i0 _ 2 32 Try.underlying45 hi0 hz0 hz1 hz2 rfl (by decide) _ (cap + 1) _ rfl HO2.out (some ⟨g, 0, none⟩) 0 0 [] rfl rfl (fun e => by cases e) (fun b e => by simp) (by simp) (by unfold maxLen; omega) (by omega) HSS.out ?_
         intro v3 w3 hown3 hg3 hat3
         have hkk : w3.heap[h]? = w2.heap[h]? := hg3.block h (by have := HSS.out; have := HLH0.out; omega) (fun e => by have := (HO2.out.lt h e.symm).1; have := HLH0.out; omega)
         have f3 : w3.frozen? ⟨h, 1, none⟩ = false := (World.frozen?_of_block hkk).trans HF2.out
         have d3 : w3.cell? ⟨h, 1, none⟩ = some (.slice (some ⟨g, 0, none⟩) cap cap) := (World.cell?_of_block hkk).trans e2
         have HE := kins_end HH.out HB1.out.drew HB2.out hg3 (fun k e => (HO2.out.lt k e).1) hown3 (by rw [HLEN.out]) (by rw [HCL.out]) HRI.out (by rw [HLEN.out]; omega) HITS.out
         obtain ⟨cb5, cc5, rfl, -, -⟩ := kown_val hown3
         clear hown3 hg3 hat3 hkk)
      | (refine kstep_append_cut (.tmp 13) (.tmp 15) 45 rfl (by rfl) 52 i0 _ 2 32 Try.underlying45 hi0 hz0 hz1 hz2 rfl (some ⟨g, 0, none⟩) cap cs1 rfl hlt1 (fun e => by cases e) (fun ad e => by cases e; exact HD1.out _ ((Below.refl _ _).drew.alloc (Nat.le_refl _) _)) ⟨w1.heap.size, 0, none⟩ 1 1 [.int .i64 xp, xv] rfl rfl (kcells_new _ _ _) (by decide) (by unfold maxLen; omega) (by omega) ?_
         intro v2 w2 hown2 hb2 hs2
         have HBB : Hid (Below w1.heap.size w1 w2) := ((Below.refl _ _).drew.alloc (Nat.le_refl _) _).trans (hb2.mono (by simp))
         have e2 : w2.cell? ⟨h, 1, none⟩ = some (.slice (some ⟨g, 0, none⟩) cap cap) := (kbelow_cell HBB.out HLH.out).trans HC1.out
         have HF2 : Hid (w2.frozen? ⟨h, 1, none⟩ = false) := (World.frozen?_of_block (HBB.out.block h HLH.out)).trans HF1.out
         have HSS : Hid (w.heap.size ≤ w2.heap.size) := Nat.le_trans HS1.out HBB.out.size
         have HO2 := kown_base hown2 (C := w.heap.size) (by have := HS1.out; simp; omega)
         obtain ⟨cb2, cc2, rfl, -, -⟩ := kown_val hown2
         have HO2 : Hid (w2.ownsRow w.heap.size 52 2 _ (cap + 1) (cs1 ++ [.int .i64 xp, xv])) := HO2
         have HB2 := hb2
         have HB2 : Hid _ := HB2
         clear hown2 hb2 hs2))
    all_goals go_end0
    all_goals exact ⟨rfl, _, HE⟩
  · go_enter Try.func18, Try.ntmps18
    go_wp2_with fail
    go_region_law (first
      | (refine kstep_append_at (.tmp 16) (.tmp 22) 45 rfl (by rfl) w.heap.size 52 i0 _ 2 32 Try.underlying45 hi0 hz0 hz1 hz2 rfl (by decide) _ (at0 + 1) _ rfl HO2.out (some ⟨g, at0 * 2, none⟩) (n - at0) (cap - at0) cs2 rfl hlt2 (fun e => by cases e) (fun b e => by cases e; exact HD2.out _ HBB.out) hone.out (by unfold maxLen; omega) (by omega) HSS.out ?_
         intro v3 w3 hown3 hg3 hat3
         have hkk : w3.heap[h]? = w2.heap[h]? := hg3.block h (by have := HSS.out; have := HLH0.out; omega) (fun e => by have := (HO2.out.lt h e.symm).1; have := HLH0.out; omega)
         have f3 : w3.frozen? ⟨h, 1, none⟩ = false := (World.frozen?_of_block hkk).trans HF2.out
         have d3 : w3.cell? ⟨h, 1, none⟩ = some (.slice (some ⟨g, 0, none⟩) n cap) := (World.cell?_of_block hkk).trans e2
         have HE := kins_end HH.out HB1.out.drew HB2.out hg3 (fun k e => (HO2.out.lt k e).1) hown3 (by rw [HLEN.out]; omega) (by rw [HCL.out]) HRI.out (by rw [HLEN.out]; omega) HITS.out
         obtain ⟨cb5, cc5, rfl, -, -⟩ := kown_val hown3
         clear hown3 hg3 hat3 hkk)
      | (refine kstep_append_cut (.tmp 13) (.tmp 15) 45 rfl (by rfl) 52 i0 _ 2 32 Try.underlying45 hi0 hz0 hz1 hz2 rfl (some ⟨g, 0, none⟩) at0 cs1 rfl hlt1 (fun e => by cases e) (fun ad e => by cases e; exact HD1.out _ ((Below.refl _ _).drew.alloc (Nat.le_refl _) _)) ⟨w1.heap.size, 0, none⟩ 1 1 [.int .i64 xp, xv] rfl rfl (kcells_new _ _ _) (by decide) (by unfold maxLen; omega) (by omega) ?_
         intro v2 w2 hown2 hb2 hs2
         have HBB : Hid (Below w1.heap.size w1 w2) := ((Below.refl _ _).drew.alloc (Nat.le_refl _) _).trans (hb2.mono (by simp))
         have e2 : w2.cell? ⟨h, 1, none⟩ = some (.slice (some ⟨g, 0, none⟩) n cap) := (kbelow_cell HBB.out HLH.out).trans HC1.out
         have HF2 : Hid (w2.frozen? ⟨h, 1, none⟩ = false) := (World.frozen?_of_block (HBB.out.block h HLH.out)).trans HF1.out
         have HSS : Hid (w.heap.size ≤ w2.heap.size) := Nat.le_trans HS1.out HBB.out.size
         have HO2 := kown_base hown2 (C := w.heap.size) (by have := HS1.out; simp; omega)
         obtain ⟨cb2, cc2, rfl, -, -⟩ := kown_val hown2
         have HO2 : Hid (w2.ownsRow w.heap.size 52 2 _ (at0 + 1) (cs1 ++ [.int .i64 xp, xv])) := HO2
         have HB2 := hb2
         have HB2 : Hid _ := HB2
         clear hown2 hb2 hs2))
    all_goals go_end0
    all_goals exact ⟨rfl, _, HE⟩

set_option maxHeartbeats 8000000 in
set_option maxRecDepth 100000 in
theorem kInsert_none (most : Nat) (h : Nat) (x : Kp) (w : World) (H : StIn w most [] h (.slice none 0 0)) (hx : KpOk w x) :
    Calls Try.prog 18 #[.pointer (some ⟨h, 0, none⟩), .int .i64 0, .agg #[.int .i64 x.p, x.v]] w fun e w' => e = .returned (.tuple #[]) ∧ ∃ v3, InsRet w most [x] h v3 w' := by
  obtain ⟨i0, hi0, hz0, hz1, hz2⟩ := info_parts info_kp
  have HH : Hid (StIn w most [] h (.slice none 0 0)) := H
  have HRI : Hid ([x].Pairwise fun a b => a.p < b.p) := (show List.Pairwise _ _ by simp)
  have HCL : Hid (kpC [x] = [.int .i64 x.p, x.v]) := rfl
  have HLEN : Hid ([x].length = 1) := rfl
  have HITS : Hid (∀ k ∈ [x], KpOk w k) := fun k hk => by
    rw [List.mem_singleton] at hk; rw [hk]; exact hx
  have HX1 : Hid (x.v.oneCell' = true) := kown_one hx.1
  obtain ⟨L, hL⟩ : ∃ L, L = [x] := ⟨_, rfl⟩
  rw [← hL] at HRI HCL HITS HLEN ⊢
  obtain ⟨xp, hxp⟩ : ∃ xp, xp = x.p := ⟨_, rfl⟩
  obtain ⟨xv, hxv⟩ : ∃ xv, xv = x.v := ⟨_, rfl⟩
  rw [← hxp, ← hxv] at HCL ⊢
  rw [← hxv] at HX1
  clear hL hxp hxv hx
  obtain ⟨h0, h1, hfr⟩ := kcells2 H.blk
  obtain ⟨w1, hw1⟩ : ∃ w1, w1 = w.alloc (.cells #[.int .i64 xp, xv] 52) := ⟨_, rfl⟩
  have hb1 : Below w.heap.size w w1 := by rw [hw1]; exact (Below.refl _ w).alloc (Nat.le_refl _) _
  have hblk1 : w1.heap[w.heap.size]? = some (.cells #[.int .i64 xp, xv] 52 (0, 0)) := by rw [hw1]; exact heap_alloc_new _ _
  obtain ⟨q0, q1, -⟩ := kcells2 hblk1
  have hlth := H.lt
  have c1 : w1.cell? ⟨h, 1, none⟩ = some (.slice none 0 0) := (kbelow_cell hb1 hlth).trans h1
  have c1a : ∀ o, (w1.alloc o).cell? ⟨h, 1, none⟩ = some (.slice none 0 0) := fun o => Lib.cell?_alloc_some o c1
  have HB1 : Hid (Below w.heap.size w w1) := hb1
  have hs1 : w.heap.size ≤ w1.heap.size := hb1.size
  have HS1 : Hid (w.heap.size ≤ w1.heap.size) := hs1
  have HC1 : Hid (w1.cell? ⟨h, 1, none⟩ = some (.slice none 0 0)) := c1
  have HF1 : Hid (w1.frozen? ⟨h, 1, none⟩ = false) := (World.frozen?_of_block (hb1.block h hlth)).trans (hfr 1)
  have HLH : Hid (h < w1.heap.size) := (show h < w1.heap.size by omega)
  have HLH0 : Hid (h < w.heap.size) := hlth
  have hw1' := hw1.symm
  clear H hw1 h0 h1 hfr hb1 hblk1 hlth hs1
  go_enter Try.func18, Try.ntmps18
  go_wp2_with fail
  go_region_law (first
    | (refine kstep_append_at (.tmp 16) (.tmp 22) 45 rfl (by rfl) w.heap.size 52 i0 _ 2 32 Try.underlying45 hi0 hz0 hz1 hz2 rfl (by decide) _ (0 + 1) _ rfl HO2.out none 0 0 [] rfl rfl (fun _ => ⟨rfl, rfl⟩) (fun b e => by cases e) (by simp) (by unfold maxLen; omega) (by omega) HSS.out ?_
       intro v3 w3 hown3 hg3 hat3
       have hkk : w3.heap[h]? = w2.heap[h]? := hg3.block h (by have := HSS.out; have := HLH0.out; omega) (fun e => by have := (HO2.out.lt h e.symm).1; have := HLH0.out; omega)
       have f3 : w3.frozen? ⟨h, 1, none⟩ = false := (World.frozen?_of_block hkk).trans HF2.out
       have d3 : w3.cell? ⟨h, 1, none⟩ = some (.slice none 0 0) := (World.cell?_of_block hkk).trans e2
       have HE := kins_end HH.out HB1.out.drew HB2.out hg3 (fun k e => (HO2.out.lt k e).1) hown3 (by rw [HLEN.out]) (by rw [HCL.out]; rfl) HRI.out (by rw [HLEN.out]; omega) HITS.out
       obtain ⟨cb5, cc5, rfl, -, -⟩ := kown_val hown3
       clear hown3 hg3 hat3 hkk)
    | (refine kstep_append_cut (.tmp 13) (.tmp 15) 45 rfl (by rfl) 52 i0 _ 2 32 Try.underlying45 hi0 hz0 hz1 hz2 rfl none 0 [] rfl rfl (fun _ => rfl) (fun ad e => by cases e) ⟨w1.heap.size, 0, none⟩ 1 1 [.int .i64 xp, xv] rfl rfl (kcells_new _ _ _) (by decide) (by unfold maxLen; omega) (by omega) ?_
       intro v2 w2 hown2 hb2 hs2
       have HBB : Hid (Below w1.heap.size w1 w2) := ((Below.refl _ _).drew.alloc (Nat.le_refl _) _).trans (hb2.mono (by simp))
       have e2 : w2.cell? ⟨h, 1, none⟩ = some (.slice none 0 0) := (kbelow_cell HBB.out HLH.out).trans HC1.out
       have HF2 : Hid (w2.frozen? ⟨h, 1, none⟩ = false) := (World.frozen?_of_block (HBB.out.block h HLH.out)).trans HF1.out
       have HSS : Hid (w.heap.size ≤ w2.heap.size) := Nat.le_trans HS1.out HBB.out.size
       have HO2 := kown_base hown2 (C := w.heap.size) (by have := HS1.out; simp; omega)
       obtain ⟨cb2, cc2, rfl, -, -⟩ := kown_val hown2
       have HO2 : Hid (w2.ownsRow w.heap.size 52 2 _ (0 + 1) ([] ++ [.int .i64 xp, xv])) := HO2
       have HB2 := hb2
       have HB2 : Hid _ := HB2
       clear hown2 hb2 hs2))
  all_goals go_end0
  all_goals exact ⟨rfl, _, HE⟩

theorem kInsert_any (most : Nat) (ks : List Kp) (h : Nat) (vk : Value) (at0 : Nat) (x : Kp) (w : World) (H : StIn w most ks h vk) (hat : at0 ≤ ks.length) (hx : KpOk w x) (hf : ks.length < 65) (hrise : (insK ks at0 x).Pairwise fun a b => a.p < b.p) :
    Calls Try.prog 18 #[.pointer (some ⟨h, 0, none⟩), .int .i64 (at0 : Int), .agg #[.int .i64 x.p, x.v]] w fun e w' => e = .returned (.tuple #[]) ∧ ∃ v3, InsRet w most (insK ks at0 x) h v3 w' := by
  rcases H.row.2 with ⟨rfl, h0⟩ | ⟨g, cap, cur, rfl, -⟩
  · obtain rfl : ks = [] := List.eq_nil_of_length_eq_zero h0
    obtain rfl : at0 = 0 := by simpa using hat
    exact kInsert_none most h x w H hx
  · exact kInsert_some most ks h g cap at0 x w H hat hx hf hrise
end Go.Proofs.Ytancnmbgncofiaa
