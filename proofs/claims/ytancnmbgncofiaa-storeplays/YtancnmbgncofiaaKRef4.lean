/- store: the document's own Put. -/
import Derived.Test.YtancnmbgncofiaaKRef3
namespace Go.Proofs.Ytancnmbgncofiaa
open Go.RowKit

theorem spareTo_one (ps : List Int) (came : Nat) : spareTo ps came 1 = none := by unfold spareTo; simp [spareTo]
/-- What the document's Put answers, in memory. -/
def RfTo (w : World) (mo : Int) (l : List PB) (e : Ending) (w' : World) : Prop := ∃ y, e = .returned (.tuple #[.agg #[.int .i64 mo, y], .int .i64 0]) ∧ RfIn w' y l ∧ Below w.heap.size w w'
theorem kset2 {w : World} {q : Nat} {a b c d : Value} {ty : TypeId} (h : w.heap[q]? = some (.cells #[a, b] ty (0, 0))) : ((w.setCell ⟨q, 0, none⟩ c).setCell ⟨q, 1, none⟩ d).heap[q]? = some (.cells #[c, d] ty (0, 0)) := by
  have h1 := heap_setCell_same w q 0 #[a, b] ty c h
  exact heap_setCell_same _ q 1 _ ty d h1
theorem RfIn.set2 {w : World} {v : Value} {l : List PB} {q : Nat} {a b : Value} (c d : Value) (H : RfIn w v l) (h : w.heap[q]? = some (.cells #[a, b] 27 (0, 0))) : RfIn ((w.setCell ⟨q, 0, none⟩ c).setCell ⟨q, 1, none⟩ d) v l := by
  have hk : KpS (fun k => k = q) w ((w.setCell ⟨q, 0, none⟩ c).setCell ⟨q, 1, none⟩ d) := ((KpS.refl (fun k => k = q) w).set (p := ⟨q, 0, none⟩) _ (fun _ => rfl)).set (p := ⟨q, 1, none⟩) _ (fun _ => rfl)
  refine kown_blocks H fun k e hlt => hk.block k hlt (fun e' => ?_)
  obtain ⟨cur, hc⟩ := kown_type H e
  rw [e', h] at hc
  simp at hc

set_option maxHeartbeats 4000000 in
set_option maxRecDepth 100000 in
theorem rPut_neg (mo : Int) (base : Option Addr) (n cap : Nat) (pos : Int) (b : List UInt8) (w : World) (hp : pos < 0) :
    Calls Try.prog 7 #[.agg #[.int .i64 mo, .slice base n cap], .int .i64 pos, .string ⟨b.toArray⟩] w fun e w' => e = .returned (.tuple #[.agg #[.int .i64 mo, .slice base n cap], .int .i64 2]) ∧ Below w.heap.size w w' := by
  go_enter Try.func7, Try.ntmps7
  go_wp2
  exact bodyPost_ret (v := .tuple #[.agg #[.int .i64 mo, .slice base n cap], .int .i64 2]) (by simp [results, Try.results7, go_sem]) rfl ⟨rfl, ((Below.refl _ w).alloc (Nat.le_refl _) _).alloc (by simp) _⟩

theorem gapP_at {L : List PB} {i : Nat} (h0 : 0 < i) (hi : i < L.length) : gapP (L.map (·.1)) i = (L[i]).1 - (L[i - 1]'(by omega)).1 := by
  unfold gapP
  rw [List.getD_eq_getElem?_getD, List.getD_eq_getElem?_getD, List.getElem?_eq_getElem (by simpa using hi), List.getElem?_eq_getElem (by simp; omega)]
  simp

set_option maxHeartbeats 16000000 in
set_option maxRecDepth 100000 in
theorem rPut_any (most : Nat) (l : List PB) (v : Value) (p : Int) (b : List UInt8) (w : World) (H : RfIn w v l) (hl : l.length ≤ most) (hm : most ≤ 64) (hr : (l.map (·.1)).Pairwise (· < ·)) (hp : 0 ≤ p) (hp2 : p ≤ 9223372036854775807) (hps : ∀ x ∈ l, 0 ≤ x.1 ∧ x.1 ≤ 9223372036854775807) :
    Calls Try.prog 7 #[.agg #[.int .i64 (most : Int), v], .int .i64 p, .string ⟨b.toArray⟩] w fun e w' => RfTo w (most : Int) (putF most l (p, b)) e w' := by
  obtain ⟨i0, hi0, hz0, hz1, hz2⟩ := info_parts info_item
  obtain ⟨at0, hat0⟩ : ∃ at0, at0 = atF (l.map (·.1)) p := ⟨_, rfl⟩
  obtain ⟨is, his⟩ : ∃ is, is = isF (l.map (·.1)) p := ⟨_, rfl⟩
  have hat : AtL (l.map (·.1)) p at0 is := by rw [hat0, his]; exact atF_at hr p
  obtain ⟨L, hL⟩ : ∃ L, L = withL l at0 is (p, b) := ⟨_, rfl⟩
  have HPF : Hid (putF most l (p, b) = if L.length ≤ most then L else L.eraseIdx (spareP (L.map (·.1)) at0)) := by
    show _ = _
    unfold putF putL
    show (if (withL l (atF (l.map (·.1)) p) (isF (l.map (·.1)) p) (p, b)).length ≤ most then _ else _) = _
    rw [← hat0, ← his, ← hL]
  have HLR : Hid ((L.map (·.1)).Pairwise (· < ·)) := by show List.Pairwise _ _; rw [hL]; exact withL_rise hr hat
  have HLA : Hid (∃ h1 : at0 < L.length, L[at0] = (p, b)) := by
    have h9 := withL_at (x := (p, b)) hat
    rw [← hL] at h9
    exact h9
  have HLL : Hid (L.length ≤ 65) := by show _ ≤ _; have := withL_len (l := l) (at0 := at0) (is := is) (x := (p, b)); rw [← hL] at this; omega
  have HPS : Hid (∀ x ∈ L, 0 ≤ x.1 ∧ x.1 ≤ 9223372036854775807) := fun x hx => by
    rw [hL] at hx
    unfold withL at hx
    split at hx
    · rcases List.mem_or_eq_of_mem_set hx with h9 | h9
      · exact hps x h9
      · rw [h9]; exact ⟨hp, hp2⟩
    · rcases List.mem_append.1 hx with h9 | h9
      · exact hps x (List.mem_of_mem_take h9)
      · rcases List.mem_cons.1 h9 with h8 | h8
        · rw [h8]; exact ⟨hp, hp2⟩
        · exact hps x (List.mem_of_mem_drop h8)
  have HWC : Hid (∀ W, Below w.heap.size w W → Calls Try.prog 14 #[v, .agg #[.int .i64 p, .string ⟨b.toArray⟩]] W fun e w' => ∃ x, e = .returned x ∧ RfIn w' x L ∧ Below W.heap.size W w') := fun W hW => by
    rw [hL]
    exact rWith_any l v p b at0 is W (H.below hW) (by omega) hr hat
  obtain ⟨base, cap, hv, hc1, hc2⟩ := kown_val H
  obtain ⟨n, hn⟩ : ∃ n, n = l.length := ⟨_, rfl⟩
  rw [← hn] at hv
  subst hv
  obtain ⟨sb, hsb⟩ : ∃ sb : ByteArray, sb = ⟨b.toArray⟩ := ⟨_, rfl⟩
  rw [← hsb] at HWC ⊢
  obtain ⟨w1, hw1⟩ : ∃ w1, w1 = w.alloc (.cells #[.int .i64 (most : Int), .slice base n cap] 27) := ⟨_, rfl⟩
  have hb1 : Below w.heap.size w w1 := by rw [hw1]; exact (Below.refl _ w).alloc (Nat.le_refl _) _
  have hblk : w1.heap[w.heap.size]? = some (.cells #[.int .i64 (most : Int), .slice base n cap] 27 (0, 0)) := by rw [hw1]; exact heap_alloc_new _ _
  have hs1 : w1.heap.size = w.heap.size + 1 := by rw [hw1]; simp
  obtain ⟨w2, hw2⟩ : ∃ w2, w2 = w1.alloc (.cells #[.int .i64 0, .slice none 0 0] 27) := ⟨_, rfl⟩
  have hb2 : Below w1.heap.size w1 w2 := by rw [hw2]; exact (Below.refl _ w1).alloc (Nat.le_refl _) _
  have hblk2 : w2.heap[w1.heap.size]? = some (.cells #[.int .i64 0, .slice none 0 0] 27 (0, 0)) := by rw [hw2]; exact heap_alloc_new _ _
  have hlt2 : w1.heap.size < w2.heap.size := (Array.getElem?_eq_some_iff.1 hblk2).1
  have hblk1 : w2.heap[w.heap.size]? = some (.cells #[.int .i64 (most : Int), .slice base n cap] 27 (0, 0)) := (hb2.block w.heap.size (by omega)).trans hblk
  have hb02 : Below w.heap.size w w2 := hb1.trans (hb2.mono (by omega))
  obtain ⟨q0, q1, -⟩ := kcells2 hblk1
  have HB02 : Hid (Below w.heap.size w w2) := hb02
  have HBK1 : Hid (w2.heap[w.heap.size]? = some (.cells #[.int .i64 (most : Int), .slice base n cap] 27 (0, 0))) := hblk1
  have HBK2 : Hid (w2.heap[w1.heap.size]? = some (.cells #[.int .i64 0, .slice none 0 0] 27 (0, 0))) := hblk2
  have HS1 : Hid (w1.heap.size = w.heap.size + 1) := hs1
  have HLT2 : Hid (w1.heap.size < w2.heap.size) := hlt2
  have t0 : decide (p < 0) = false := by simp; omega
  have HWC2 : Hid (Calls Try.prog 14 #[.slice base n cap, .agg #[.int .i64 p, .string sb]] w2 fun e w' => ∃ x, e = .returned x ∧ RfIn w' x L ∧ Below w2.heap.size w2 w') := HWC.out w2 hb02
  have hw1' := hw1.symm
  have hw2' := hw2.symm
  clear H hat0 his hat hL hps hr hn hsb hw1 hb1 hblk hs1 hw2 hb2 hblk2 hlt2 hblk1 hb02 HWC hc1 hc2 hl
  go_enter Try.func7, Try.ntmps7
  go_wp2_with fail
  refine HWC2.out.mono ?_
  rintro e w3 ⟨x, rfl, hrf, hb3⟩
  clear hw1' hw2' q0 q1 HWC2
  generalize hR : w1.heap.size = r at HBK2 HS1 HLT2 ⊢
  have HRF : Hid (RfIn w3 x L) := hrf
  have hbs := hb3.size
  have HBE : Hid (Below w.heap.size w w3) := HB02.out.trans (hb3.mono HB02.out.size)
  have HWR : Hid (w.heap.size < r) := by show _ < _; have := HS1.out; omega
  have HRL : Hid (r < w3.heap.size) := by show _ < _; have := HLT2.out; omega
  have HK1 : Hid (w3.heap[w.heap.size]? = some (.cells #[.int .i64 (most : Int), .slice base n cap] 27 (0, 0))) := (hb3.block _ (by have := HS1.out; have := HLT2.out; omega)).trans HBK1.out
  have HK2 : Hid (w3.heap[r]? = some (.cells #[.int .i64 0, .slice none 0 0] 27 (0, 0))) := (hb3.block _ HLT2.out).trans HBK2.out
  obtain ⟨k10, k11, -⟩ := kcells2 HK1.out
  obtain ⟨k20, k21, k22⟩ := kcells2 HK2.out
  obtain ⟨xb, xc, hx, hx1, hx2⟩ := kown_val hrf
  obtain ⟨n3, hn3⟩ : ∃ n3, n3 = L.length := ⟨_, rfl⟩
  have HN3 : Hid (n3 = L.length) := hn3
  have h65 : n3 ≤ 65 := by rw [hn3]; exact HLL.out
  rw [← hn3] at hx hx1
  subst hx
  clear hR hrf hb3 HBK1 HBK2 HS1 HLT2 HB02 hn3 hbs
  -- what stands in the result's place at the end
  have HEND : Hid (∀ (W : World) (y : Value) (LL : List PB), Below w3.heap.size w3 W → RfIn W y LL → Below w.heap.size w ((W.setCell ⟨r, 0, none⟩ (.int .i64 (most : Int))).setCell ⟨r, 1, none⟩ y) ∧ RfIn ((W.setCell ⟨r, 0, none⟩ (.int .i64 (most : Int))).setCell ⟨r, 1, none⟩ y) y LL ∧ ((W.setCell ⟨r, 0, none⟩ (.int .i64 (most : Int))).setCell ⟨r, 1, none⟩ y).cell? ⟨r, 0, none⟩ = some (.int .i64 (most : Int)) ∧ ((W.setCell ⟨r, 0, none⟩ (.int .i64 (most : Int))).setCell ⟨r, 1, none⟩ y).cell? ⟨r, 1, none⟩ = some y) := fun W y LL hb hy => by
    have h9 := (hb.block r HRL.out).trans HK2.out
    obtain ⟨a1, a2, -⟩ := kcells2 (kset2 (c := .int .i64 (most : Int)) (d := y) h9)
    exact ⟨((HBE.out.trans (hb.mono HBE.out.size)).setCell (Nat.le_of_lt HWR.out) _).setCell (Nat.le_of_lt HWR.out) _, hy.set2 _ _ h9, a1, a2⟩
  by_cases hfit : n3 ≤ most
  · have t1 : decide ((n3 : Int) ≤ (most : Int)) = true := by simp; omega
    obtain ⟨e1, e2, e3, e4⟩ := HEND.out w3 _ L (Below.refl _ _) HRF.out
    have E1 : Hid _ := e1
    have E2 : Hid _ := e2
    clear e1 e2
    go_wp2
    exact bodyPost_ret (v := .tuple #[.agg #[.int .i64 (most : Int), .slice xb n3 xc], .int .i64 0]) (by simp [results, Try.results7, go_sem, e3, e4]) rfl ⟨_, rfl, by rw [HPF.out, if_pos (by rw [← HN3.out]; exact hfit)]; exact E2.out, E1.out⟩
  · have t1 : decide ((n3 : Int) ≤ (most : Int)) = false := by simp; omega
    have t1' : ¬ (n3 : Int) ≤ (most : Int) := by omega
    obtain ⟨ps, hps⟩ : ∃ ps, ps = L.map (·.1) := ⟨_, rfl⟩
    have HPSL : Hid (ps = L.map (·.1)) := hps
    have HPF2 : Hid (putF most l (p, b) = L.eraseIdx (spareP ps at0)) := by show _ = _; rw [HPF.out, if_neg (by rw [← HN3.out]; exact hfit), hps]
    clear HPF hps
    go_wp2
    go_loopw [9, 10, 11] (fun vg vn vi wr => ∃ i : Nat, 1 ≤ i ∧ i ≤ n3 ∧ vi = .int .i64 (i : Int) ∧ vg = .int .i64 (goesI (spareTo ps at0 i)) ∧ vn = .int .i64 (nearI ps (spareTo ps at0 i)) ∧ ∃ q, wr = w3.drewN q) (fun _ _ vi _ => n3 - (intOf vi).toNat)
    case atStart => exact ⟨1, Nat.le_refl _, by have := HLA.out.1; have := HN3.out; omega, rfl, by rw [spareTo_one]; rfl, by rw [spareTo_one]; rfl, 0, rfl⟩
    case round =>
      obtain ⟨i, hi1, hin, rfl, rfl, rfl, q, rfl⟩ := hrel
      by_cases hlt : i < n3
      · have hik : i < L.length := by rw [← HN3.out]; exact hlt
        obtain ⟨g, cap', hvk, -, -, hg, hcell⟩ := ritem_cells HRF.out (i := i) hik
        simp only [Value.slice.injEq] at hvk
        obtain ⟨rfl, -, -⟩ := hvk
        obtain ⟨c0, -⟩ := hcell i hik
        obtain ⟨d0, -⟩ := hcell (i - 1) (by omega)
        have hk1 := HPS.out (L[i]) (List.getElem_mem hik)
        have hk2 := HPS.out (L[i - 1]'(by omega)) (List.getElem_mem (by omega))
        have HG : Hid (gapP ps i = (L[i]).1 - (L[i - 1]'(by omega)).1) := by show _ = _; rw [HPSL.out]; exact gapP_at hi1 hik
        have HAT : Hid ((L[i]).1 = p ↔ i = at0) := by
          obtain ⟨h9, h8⟩ := HLA.out
          have h7 := rise_eq HLR.out (i := i) (j := at0) (by simpa using hik) (by simpa using h9)
          simp only [List.getElem_map] at h7
          rw [h8] at h7
          exact h7
        obtain ⟨A, hA⟩ : ∃ A, A = (L[i]).1 := ⟨_, rfl⟩
        obtain ⟨B, hB⟩ : ∃ B, B = (L[i - 1]'(by omega)).1 := ⟨_, rfl⟩
        rw [← hA] at c0 hk1 HG HAT
        rw [← hB] at d0 hk2 HG
        have hs : IntKind.i64.wrap (A - B) = A - B := by rw [IntKind.wrap_i64]; omega
        have hi2 : ((i : Int) - 1) = ((i - 1 : Nat) : Int) := by omega
        obtain ⟨hA1, hA2⟩ := hk1
        obtain ⟨hB1, hB2⟩ := hk2
        clear hcell hA hB
        by_cases hc : i = at0
        · have t2 : (A == p) = true := by rw [beq_iff_eq]; exact HAT.out.2 hc
          have t3 : (A != p) = false := by rw [bne, t2]; rfl
          have HSP : Hid (spareTo ps at0 (i + 1) = spareTo ps at0 i) := spareTo_no (.inr (.inl hc))
          obtain ⟨gi, hgi⟩ : ∃ gi, gi = goesI (spareTo ps at0 i) := ⟨_, rfl⟩
          obtain ⟨ni, hni⟩ : ∃ ni, ni = nearI ps (spareTo ps at0 i) := ⟨_, rfl⟩
          have HGI : Hid (gi = goesI (spareTo ps at0 i)) := hgi
          have HNI : Hid (ni = nearI ps (spareTo ps at0 i)) := hni
          rw [← hgi, ← hni]
          clear hgi hni hc HAT
          go_wp2_with fail
          go_quiet (fail)
          go_wp2
          go_roundw
          case rel => exact ⟨i + 1, by omega, by omega, by go_num, by rw [HSP.out, HGI.out], by rw [HSP.out, HNI.out], _, rfl⟩
          case measure => simp [intOf]; omega
        · have t2 : (A == p) = false := by rw [beq_eq_false_iff_ne]; exact fun e => hc (HAT.out.1 e)
          have t3 : (A != p) = true := by rw [bne, t2]; rfl
          cases hsp : spareTo ps at0 i with
          | none =>
            have HSP : Hid (spareTo ps at0 (i + 1) = some i) := spareTo_yes (by omega) hc (fun g hg => by rw [hsp] at hg; cases hg)
            rw [show goesI (none : Option Nat) = -1 from rfl, show nearI ps none = 0 from rfl]
            clear hc HAT hsp
            go_wp2_with fail
            go_quiet (fail)
            go_wp2
            go_roundw
            case rel => exact ⟨i + 1, by omega, by omega, by go_num, by rw [HSP.out]; rfl, by rw [HSP.out]; show _ = Value.int .i64 (gapP ps i); rw [HG.out], _, rfl⟩
            case measure => simp [intOf]; omega
          | some g2 =>
            obtain ⟨G, hG⟩ : ∃ G, G = gapP ps g2 := ⟨_, rfl⟩
            have HGG : Hid (G = gapP ps g2) := hG
            rw [show goesI (some g2) = (g2 : Int) from rfl, show nearI ps (some g2) = gapP ps g2 from rfl, ← hG]
            have t4 : decide ((g2 : Int) < 0) = false := by simp
            by_cases hd : A - B < G
            · have HSP : Hid (spareTo ps at0 (i + 1) = some i) := spareTo_yes (by omega) hc (fun g hg => by rw [hsp] at hg; cases hg; rw [HG.out, ← hG]; exact hd)
              have t5 : decide (A - B < G) = true := by simpa using hd
              clear hc HAT hsp hG
              go_wp2_with fail
              go_quiet (fail)
              go_wp2
              go_roundw
              case rel => exact ⟨i + 1, by omega, by omega, by go_num, by rw [HSP.out]; rfl, by rw [HSP.out]; show _ = Value.int .i64 (gapP ps i); rw [HG.out], _, rfl⟩
              case measure => simp [intOf]; omega
            · have HSP : Hid (spareTo ps at0 (i + 1) = some g2) := by show _ = _; rw [spareTo_no (.inr (.inr ⟨g2, hsp, by rw [HG.out, ← hG]; exact hd⟩)), hsp]
              have t5 : decide (A - B < G) = false := by simpa using hd
              clear hc HAT hsp hG
              go_wp2_with fail
              go_quiet (fail)
              go_wp2
              go_roundw
              case rel => exact ⟨i + 1, by omega, by omega, by go_num, by rw [HSP.out]; rfl, by rw [HSP.out]; show _ = Value.int .i64 (gapP ps g2); rw [HGG.out], _, rfl⟩
              case measure => simp [intOf]; omega
      · obtain rfl : i = n3 := by omega
        obtain ⟨W4, hW4⟩ : ∃ W4, W4 = w3.drewN q := ⟨_, rfl⟩
        have HB4 : Hid (Below w3.heap.size w3 W4) := by rw [hW4]; exact ⟨rfl, rfl, rfl, Nat.le_refl _, fun _ _ => rfl⟩
        have HR4 : Hid (RfIn W4 (.slice xb i xc) L) := by rw [hW4]; exact HRF.out
        rw [← hW4]
        clear hW4
        cases hsp : spareTo ps at0 i with
        | none =>
          obtain ⟨k, hk⟩ : ∃ k, k = at0 := ⟨_, rfl⟩
          have HSK : Hid (spareP ps at0 = k) := by
            show _ = _
            unfold spareP
            rw [show ps.length = i by rw [HPSL.out, List.length_map, ← HN3.out], hsp, hk]; rfl
          rw [show goesI (none : Option Nat) = -1 from rfl, show nearI ps none = 0 from rfl]
          obtain ⟨n3, hn3⟩ : ∃ n3, n3 = i := ⟨_, rfl⟩
          rw [← hn3] at HR4 HN3 h65 ⊢
          clear hsp hin hlt hi1 hx1 HRF t1 t1' hfit hn3
          go_wp2
          go_loopw [13, 14] (fun vo vi wr => ∃ i : Nat, i ≤ n3 ∧ vi = .int .i64 (i : Int) ∧ ItIn W4 wr vo (cOut L k i)) (fun _ vi _ => n3 - (intOf vi).toNat)
          case atStart => exact ⟨0, Nat.zero_le _, rfl, by rw [cOut_zero]; exact ItIn.nil _⟩
          case round =>
            obtain ⟨i, hin, rfl, hit⟩ := hrel
            have HIT : Hid (ItIn W4 wr u13 (cOut L k i)) := hit
            have HLX : Hid ((cOut L k i).length + 1 ≤ 66) := by show _ ≤ _; have := cOut_len (l := L) (k := k) (i := i); omega
            clear hit
            by_cases hlt : i < n3
            · have hik : i < L.length := by rw [← HN3.out]; exact hlt
              obtain ⟨g, cap', hvk, -, -, hg, hcell⟩ := ritem_cells HR4.out (i := i) hik
              simp only [Value.slice.injEq] at hvk
              obtain ⟨rfl, -, -⟩ := hvk
              obtain ⟨c0, c1⟩ := hcell i hik
              have f0 : wr.cell? ⟨g, i * 2, none⟩ = some (.int .i64 (L[i]).1) := (kbelow_cell HIT.out.2 hg).trans c0
              have f1 : wr.cell? ⟨g, i * 2 + 1, none⟩ = some (.string ⟨(L[i]).2.toArray⟩) := (kbelow_cell HIT.out.2 hg).trans c1
              have HAT : Hid ((L[i]).1 = p ↔ i = at0) := by
                obtain ⟨h9, h8⟩ := HLA.out
                have h7 := rise_eq HLR.out (i := i) (j := at0) (by simpa using hik) (by simpa using h9)
                simp only [List.getElem_map] at h7
                rw [h8] at h7
                exact h7
              obtain ⟨kp, hkp⟩ : ∃ kp, kp = (L[i]).1 := ⟨_, rfl⟩
              obtain ⟨kb, hkb⟩ : ∃ kb : ByteArray, kb = ⟨(L[i]).2.toArray⟩ := ⟨_, rfl⟩
              have HKP : Hid (kp = (L[i]).1) := hkp
              have HKB : Hid (kb = ⟨(L[i]).2.toArray⟩) := hkb
              rw [← hkp] at f0 HAT
              rw [← hkb] at f1
              clear hcell c0 c1 hkp hkb
              by_cases hc : i = k
              · have HX : Hid (cOut L k (i + 1) = cOut L k i) := by show _ = _; rw [hc]; exact cOut_skip (by rw [← hc]; exact hik)
                have t2 : (kp == p) = true := by rw [beq_iff_eq]; exact HAT.out.2 (hc.trans hk)
                have t3 : (kp != p) = false := by rw [bne, t2]; rfl
                have t6 : ((i : Int) == -1) = false := by rw [beq_eq_false_iff_ne]; omega
                have t7 : ((i : Int) != -1) = true := by rw [bne, t6]; rfl
                clear hc HAT hk
                go_wp2
                go_roundw
                case rel => exact ⟨i + 1, by omega, by go_num, by rw [HX.out]; exact HIT.out⟩
                case measure => simp [intOf]; omega
              · obtain ⟨M, hM⟩ : ∃ M, M = cOut L k i := ⟨_, rfl⟩
                have HX : Hid (cOut L k (i + 1) = M ++ [(kp, (L[i]).2)]) := by show _ = _; rw [cOut_take hik hc, hM, HKP.out]
                rw [← hM] at HIT HLX
                have HOWN : Hid (World.ownsRow wr W4.heap.size 49 2 u13 M.length (itC M)) := HIT.out.1
                clear hM
                have t2 : (kp == p) = false := by rw [beq_eq_false_iff_ne]; exact fun e => hc ((HAT.out.1 e).trans hk.symm)
                have t3 : (kp != p) = true := by rw [bne, t2]; rfl
                have t6 : ((i : Int) == -1) = false := by rw [beq_eq_false_iff_ne]; omega
                have t7 : ((i : Int) != -1) = true := by rw [bne, t6]; rfl
                clear hc HAT hk
                go_wp2_with (at_builtin; refine wpList_append_own _ rfl _ _ 25 rfl W4.heap.size 49 i0 (.agg #[.int .i64 0, .string ⟨#[]⟩]) 2 24 Try.underlying25 hi0 hz0 hz1 hz2 rfl (by decide) _ _ _ rfl (HOWN.out.alloc _) ⟨wr.heap.size, 0, none⟩ 1 1 [.int .i64 kp, .string kb] rfl rfl (kcells_new _ _ _) (itC_one' _ _) (by have := HLX.out; unfold maxLen; omega) (by have := HLX.out; omega) (by have := HIT.out.2.size; simp; omega) ?_)
                intro v' w5 hown' hgrow _
                have HI2 : Hid (ItIn W4 w5 v' (M ++ [(kp, (L[i]).2)])) := ItIn.snoc HIT.out (by rw [← HKB.out]; exact hown') hgrow
                clear hown' hgrow
                go_wp2
                go_roundw
                case rel => exact ⟨i + 1, by omega, by go_num, by rw [HX.out]; exact HI2.out⟩
                case measure => simp [intOf]; omega
            · obtain rfl : i = n3 := by omega
              have HY : Hid (RfIn wr u13 (L.eraseIdx k)) := by
                have h9 := HIT.out.1
                rw [HN3.out, cOut_end] at h9
                exact kown_base h9 (Nat.zero_le _)
              have HB5 : Hid (Below w3.heap.size w3 wr) := HB4.out.trans (HIT.out.2.mono HB4.out.size)
              have m10 : wr.cell? ⟨w.heap.size, 0, none⟩ = some (.int .i64 (most : Int)) := (kbelow_cell HB5.out (Nat.lt_trans HWR.out HRL.out)).trans k10
              have m20 : wr.cell? ⟨r, 0, none⟩ = some (.int .i64 0) := (kbelow_cell HB5.out HRL.out).trans k20
              have m21 : wr.cell? ⟨r, 1, none⟩ = some (.slice none 0 0) := (kbelow_cell HB5.out HRL.out).trans k21
              have m22 : ∀ j, wr.frozen? ⟨r, j, none⟩ = false := (kcells2 ((HB5.out.block r HRL.out).trans HK2.out)).2.2
              obtain ⟨yb, yc, hy, hy1, hy2⟩ := kown_val HY.out
              obtain ⟨ln, hln⟩ : ∃ ln, ln = (L.eraseIdx k).length := ⟨_, rfl⟩
              rw [← hln] at hy
              subst hy
              obtain ⟨e1, e2, e3, e4⟩ := HEND.out wr _ _ HB5.out HY.out
              have E1 : Hid _ := e1
              have E2 : Hid _ := e2
              clear e1 e2 hln hy1 hy2 HIT
              go_wp2
              exact bodyPost_ret (v := .tuple #[.agg #[.int .i64 (most : Int), .slice yb ln yc], .int .i64 0]) (by simp [results, Try.results7, go_sem, e3, e4]) rfl ⟨_, rfl, by rw [HPF2.out, HSK.out]; exact E2.out, E1.out⟩
        | some g2 =>
          obtain ⟨k, hk⟩ : ∃ k, k = g2 := ⟨_, rfl⟩
          have HSK : Hid (spareP ps at0 = k) := by
            show _ = _
            unfold spareP
            rw [show ps.length = i by rw [HPSL.out, List.length_map, ← HN3.out], hsp, hk]; rfl
          rw [show goesI (some g2) = (g2 : Int) from rfl, show nearI ps (some g2) = gapP ps g2 from rfl, ← hk]
          obtain ⟨G, hG⟩ : ∃ G, G = gapP ps k := ⟨_, rfl⟩
          rw [← hG]
          obtain ⟨n3, hn3⟩ : ∃ n3, n3 = i := ⟨_, rfl⟩
          rw [← hn3] at HR4 HN3 h65 ⊢
          clear hsp hin hlt hi1 hx1 HRF t1 t1' hfit hn3 hG hk
          go_wp2
          go_loopw [13, 14] (fun vo vi wr => ∃ i : Nat, i ≤ n3 ∧ vi = .int .i64 (i : Int) ∧ ItIn W4 wr vo (cOut L k i)) (fun _ vi _ => n3 - (intOf vi).toNat)
          case atStart => exact ⟨0, Nat.zero_le _, rfl, by rw [cOut_zero]; exact ItIn.nil _⟩
          case round =>
            obtain ⟨i, hin, rfl, hit⟩ := hrel
            have HIT : Hid (ItIn W4 wr u13 (cOut L k i)) := hit
            have HLX : Hid ((cOut L k i).length + 1 ≤ 66) := by show _ ≤ _; have := cOut_len (l := L) (k := k) (i := i); omega
            clear hit
            by_cases hlt : i < n3
            · have hik : i < L.length := by rw [← HN3.out]; exact hlt
              obtain ⟨g, cap', hvk, -, -, hg, hcell⟩ := ritem_cells HR4.out (i := i) hik
              simp only [Value.slice.injEq] at hvk
              obtain ⟨rfl, -, -⟩ := hvk
              obtain ⟨c0, c1⟩ := hcell i hik
              have f0 : wr.cell? ⟨g, i * 2, none⟩ = some (.int .i64 (L[i]).1) := (kbelow_cell HIT.out.2 hg).trans c0
              have f1 : wr.cell? ⟨g, i * 2 + 1, none⟩ = some (.string ⟨(L[i]).2.toArray⟩) := (kbelow_cell HIT.out.2 hg).trans c1
              have HAT : Hid ((L[i]).1 = p ↔ i = at0) := by
                obtain ⟨h9, h8⟩ := HLA.out
                have h7 := rise_eq HLR.out (i := i) (j := at0) (by simpa using hik) (by simpa using h9)
                simp only [List.getElem_map] at h7
                rw [h8] at h7
                exact h7
              obtain ⟨kp, hkp⟩ : ∃ kp, kp = (L[i]).1 := ⟨_, rfl⟩
              obtain ⟨kb, hkb⟩ : ∃ kb : ByteArray, kb = ⟨(L[i]).2.toArray⟩ := ⟨_, rfl⟩
              have HKP : Hid (kp = (L[i]).1) := hkp
              have HKB : Hid (kb = ⟨(L[i]).2.toArray⟩) := hkb
              rw [← hkp] at f0 HAT
              rw [← hkb] at f1
              clear hcell c0 c1 hkp hkb
              by_cases hc : i = k
              · have HX : Hid (cOut L k (i + 1) = cOut L k i) := by show _ = _; rw [hc]; exact cOut_skip (by rw [← hc]; exact hik)
                have t6 : ((i : Int) == (k : Int)) = true := by rw [beq_iff_eq]; omega
                have t7 : ((i : Int) != (k : Int)) = false := by rw [bne, t6]; rfl
                have t8 : (i == k) = true := by rw [beq_iff_eq]; exact hc
                have t9 : (i != k) = false := by rw [bne, t8]; rfl
                clear hc HAT
                go_wp2
                go_roundw
                case rel => exact ⟨i + 1, by omega, by go_num, by rw [HX.out]; exact HIT.out⟩
                case measure => simp [intOf]; omega
              · obtain ⟨M, hM⟩ : ∃ M, M = cOut L k i := ⟨_, rfl⟩
                have HX : Hid (cOut L k (i + 1) = M ++ [(kp, (L[i]).2)]) := by show _ = _; rw [cOut_take hik hc, hM, HKP.out]
                rw [← hM] at HIT HLX
                have HOWN : Hid (World.ownsRow wr W4.heap.size 49 2 u13 M.length (itC M)) := HIT.out.1
                clear hM
                have t6 : ((i : Int) == (k : Int)) = false := by rw [beq_eq_false_iff_ne]; omega
                have t7 : ((i : Int) != (k : Int)) = true := by rw [bne, t6]; rfl
                have t8 : (i == k) = false := by rw [beq_eq_false_iff_ne]; exact hc
                have t9 : (i != k) = true := by rw [bne, t8]; rfl
                have t10 : decide (0 ≤ (k : Int)) = true := by simp
                clear hc HAT
                go_wp2_with (at_builtin; refine wpList_append_own _ rfl _ _ 25 rfl W4.heap.size 49 i0 (.agg #[.int .i64 0, .string ⟨#[]⟩]) 2 24 Try.underlying25 hi0 hz0 hz1 hz2 rfl (by decide) _ _ _ rfl (HOWN.out.alloc _) ⟨wr.heap.size, 0, none⟩ 1 1 [.int .i64 kp, .string kb] rfl rfl (kcells_new _ _ _) (itC_one' _ _) (by have := HLX.out; unfold maxLen; omega) (by have := HLX.out; omega) (by have := HIT.out.2.size; simp; omega) ?_)
                intro v' w5 hown' hgrow _
                have HI2 : Hid (ItIn W4 w5 v' (M ++ [(kp, (L[i]).2)])) := ItIn.snoc HIT.out (by rw [← HKB.out]; exact hown') hgrow
                clear hown' hgrow
                go_wp2
                go_roundw
                case rel => exact ⟨i + 1, by omega, by go_num, by rw [HX.out]; exact HI2.out⟩
                case measure => simp [intOf]; omega
            · obtain rfl : i = n3 := by omega
              have HY : Hid (RfIn wr u13 (L.eraseIdx k)) := by
                have h9 := HIT.out.1
                rw [HN3.out, cOut_end] at h9
                exact kown_base h9 (Nat.zero_le _)
              have HB5 : Hid (Below w3.heap.size w3 wr) := HB4.out.trans (HIT.out.2.mono HB4.out.size)
              have m10 : wr.cell? ⟨w.heap.size, 0, none⟩ = some (.int .i64 (most : Int)) := (kbelow_cell HB5.out (Nat.lt_trans HWR.out HRL.out)).trans k10
              have m20 : wr.cell? ⟨r, 0, none⟩ = some (.int .i64 0) := (kbelow_cell HB5.out HRL.out).trans k20
              have m21 : wr.cell? ⟨r, 1, none⟩ = some (.slice none 0 0) := (kbelow_cell HB5.out HRL.out).trans k21
              have m22 : ∀ j, wr.frozen? ⟨r, j, none⟩ = false := (kcells2 ((HB5.out.block r HRL.out).trans HK2.out)).2.2
              obtain ⟨yb, yc, hy, hy1, hy2⟩ := kown_val HY.out
              obtain ⟨ln, hln⟩ : ∃ ln, ln = (L.eraseIdx k).length := ⟨_, rfl⟩
              rw [← hln] at hy
              subst hy
              obtain ⟨e1, e2, e3, e4⟩ := HEND.out wr _ _ HB5.out HY.out
              have E1 : Hid _ := e1
              have E2 : Hid _ := e2
              clear e1 e2 hln hy1 hy2 HIT
              go_wp2
              exact bodyPost_ret (v := .tuple #[.agg #[.int .i64 (most : Int), .slice yb ln yc], .int .i64 0]) (by simp [results, Try.results7, go_sem, e3, e4]) rfl ⟨_, rfl, by rw [HPF2.out, HSK.out]; exact E2.out, E1.out⟩
end Go.Proofs.Ytancnmbgncofiaa
