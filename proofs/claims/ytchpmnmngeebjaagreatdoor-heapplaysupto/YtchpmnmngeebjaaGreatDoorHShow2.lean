/- heap: Show. -/
import Derived.Test.YtchpmnmngeebjaaGreatDoorHWrite3
namespace Go.Proofs.YtchpmnmngeebjaaGreatDoor
open Go.RowKit Go.Shelf

theorem writeAt_two : WriteAt 2 := write_of 2 (obj_of 1 (by omega) (write_of 1 (obj_of 0 (by omega) (write_of 0 objAt_zero))))

theorem valsIn_one (w : World) (v : Vl) (B : Nat) (hB : w.heap.size < B) : valsIn (fun k => k < B) (w.alloc (.cells #[.int .i64 v.k, .int .i64 v.n, .string (strB v.s)] 25)) (.slice (some ⟨w.heap.size, 0, none⟩) 1 1) [v] := by
  refine ⟨_, 1, rfl, by simp, by unfold maxLen; omega, .inr ⟨w.heap.size, 0, rfl, hB, by simp, fun j u hj => ?_⟩⟩
  have h9 := cells_new w [.int .i64 v.k, .int .i64 v.n, .string (strB v.s)] 25 j u (by rw [vlC_one] at hj; exact hj)
  by_cases h0 : j = 0
  · subst h0; simpa [Addr.add] using h9
  · simpa [Addr.add, h0] using h9

theorem own_prefix {B n cap : Nat} {w : World} {b : Option Addr} {bs : List UInt8} (h : OwnB B w (.slice b n cap) bs) (m : Nat) (hm : m ≤ bs.length) : OwnB B w (.slice b m cap) (bs.take m) := by
  have hlen : (bs.take m).length = m := by rw [List.length_take]; omega
  refine ⟨by rw [Lib.byteCells_length, Nat.mul_one], ?_⟩
  rw [hlen]
  rcases h.2 with ⟨h1, h2⟩ | ⟨g, cap', cur, h1, h2, h3, h4, h5, h6, h7⟩
  · simp only [Value.slice.injEq] at h1
    obtain ⟨rfl, rfl, rfl⟩ := h1
    left
    have : m = 0 := by omega
    subst this
    exact ⟨rfl, rfl⟩
  · simp only [Value.slice.injEq] at h1
    obtain ⟨rfl, rfl, rfl⟩ := h1
    refine .inr ⟨g, cap, cur, rfl, h2, h3, by omega, h5, h6, ?_⟩
    have e : cur.toList.take (m * 1) = (cur.toList.take (bs.length * 1)).take (m * 1) := by rw [List.take_take, Nat.min_eq_left (by omega)]
    rw [e, h7]
    unfold Lib.byteCells
    rw [List.map_take, Nat.mul_one]

set_option maxRecDepth 100000 in
set_option maxHeartbeats 2000000 in
theorem show_any {S : Nat → Prop} {most : Nat} {os : List Ob} {h : Nat} {vo vc : Value} (v : Vl) (w : World) (H : HpIn S w most os h vo vc) (hv : smallV v) (ht : TabsP w) :
    Calls Tryz.prog 10 #[.pointer (some ⟨h, 0, none⟩), vlV v] w fun e w' => e = .returned (.string (strB (showB os v))) ∧ Below w.heap.size w w' := by
  have hlt := H.lt
  obtain ⟨w1, hw1⟩ : ∃ w1, w1 = w.alloc (.cells #[.int .i64 v.k, .int .i64 v.n, .string (strB v.s)] 25) := ⟨_, rfl⟩
  have hs1 : w1.heap.size = w.heap.size + 1 := by rw [hw1]; simp
  have hb1 : Below w.heap.size w w1 := by rw [hw1]; exact (Below.refl _ _).alloc (Nat.le_refl _) _
  have hbx : w1.heap[w.heap.size]? = some (.cells #[.int .i64 v.k, .int .i64 v.n, .string (strB v.s)] 25 (0, 0)) := by rw [hw1]; exact World.alloc_heap_new _ _
  obtain ⟨p0, p1, p2, -⟩ := cellsH3 hbx
  have H1 := H.below hb1
  have HC : Hid (∀ wx, Below w1.heap.size w1 wx → Calls Tryz.prog 29 #[.pointer (some ⟨h, 0, none⟩)] wx fun e w'' => e = .returned (.bool true) ∧ Below w1.heap.size w1 w'') := fun wx hx =>
    (isThere_any wx (H1.below hx)).mono fun e w'' ⟨he, hb⟩ => ⟨he, hb ▸ hx⟩
  have HK : Hid (∀ wx, Below w1.heap.size w1 wx → Calls Tryz.prog 30 #[vlV v, .int .i64 (os.length : Int)] wx fun e w'' => e = .returned (.int .i64 (errR (rightV v os.length))) ∧ Below w1.heap.size w1 w'') := fun wx hx =>
    (check_any v os.length wx hv ((ht.below hb1 (Nat.le_refl _)).below hx (Nat.le_refl _))).mono fun e w'' ⟨he, hb⟩ => ⟨he, hx.trans (hb.mono hx.size)⟩
  obtain ⟨-, -, c2, -, -⟩ := cells4 H1.blk
  obtain ⟨ob, oc, hvo, ho1, ho2⟩ := own_val H1.objs
  subst hvo
  have x0 := cls_cell (n := w1.heap.size) p0 (by simp only; omega)
  have x1 := cls_cell (n := w1.heap.size) p1 (by simp only; omega)
  have x2 := cls_cell (n := w1.heap.size) p2 (by simp only; omega)
  have x3 := cls_cell (n := w1.heap.size) c2 (by simp only; omega)
  have HB1 : Hid (Below w.heap.size w w1) := hb1
  have HH : Hid (HpIn S w most os h (.slice ob os.length oc) vc) := H
  have HT : Hid (TabsP w) := ht
  have HV : Hid (smallV v) := hv
  have HBX : Hid (w1.heap[w.heap.size]? = some (.cells #[.int .i64 v.k, .int .i64 v.n, .string (strB v.s)] 25 (0, 0))) := hbx
  have hw1' := hw1.symm
  have HSB : Hid (showB os v = if rightV v os.length = true then (if 200 < (txtV os 2 v).length then (txtV os 2 v).take 197 ++ dotsB else txtV os 2 v) else []) := rfl
  have HTL : Hid ((txtV os 2 v).length ≤ bndT 2) := txtV_len (fun o ho => (H.ok o ho).2) 2 v hv
  obtain ⟨SB, hSB⟩ : ∃ SB, SB = showB os v := ⟨_, rfl⟩
  rw [← hSB] at HSB ⊢
  cases hr : rightV v os.length with
  | false =>
    rw [hr] at HK HSB
    rw [show errR false = 2 from rfl] at HK
    obtain ⟨k, m, s⟩ := v
    simp only at p0 p1 p2 x0 x1 x2 hw1'
    clear hw1 hbx H H1 ht hb1 hr hSB hv
    go_enter Tryz.func10, Tryz.ntmps10
    go_wp2_with fail
    refine wp_region_cls (n := w1.heap.size) (w0 := w1) (Below.refl _ _) (by kernel_rfl) (by kernel_rfl) ?_
    go_big_quiet_step (fail)
    go_big_quiet_step (exact cls_calls HC.out _)
    iterate 8 (go_big_quiet_step (fail))
    go_big_quiet_step (exact cls_calls HK.out _)
    iterate 2 (go_big_quiet_step (fail))
    refine wpQuiet_nil ?_
    rintro _ ⟨c, rfl⟩
    have HBc : Hid (Below w.heap.size w c.1) := HB1.out.trans (c.2.mono (by omega))
    clear x0 x1 x2 x3
    go_wp2
    go_ret
    rw [HSB.out]
    exact ⟨rfl, HBc.out⟩
  | true =>
    rw [hr] at HK HSB
    rw [show errR true = 0 from rfl] at HK
    have HRV : Hid (rightV v os.length = true) := hr
    have HW2 : ∀ W, Below w1.heap.size w1 W → ∀ W1, W1 = W.alloc (.cells #[.int .i64 v.k, .int .i64 v.n, .string (strB v.s)] 25) → Calls Tryz.prog 31 #[.pointer (some ⟨h, 0, none⟩), .slice none 0 0, .int .i64 2, .slice (some ⟨W.heap.size, 0, none⟩) 1 1] W1 fun e w' => ∃ v', e = .returned v' ∧ Hid (OwnB W1.heap.size w' v' (txtV os 2 v)) ∧ Hid (Below w.heap.size w w') ∧ W1.heap.size ≤ w'.heap.size ∧ w.heap.size ≤ W1.heap.size := fun W hW W1 hW1 => by
      have hsW : W1.heap.size = W.heap.size + 1 := by rw [hW1]; simp
      have hsw := hW.size
      have hbW : Below w.heap.size w W1 := by rw [hW1]; exact (HB1.out.trans (hW.mono (by omega))).alloc (by omega) _
      have hsh : ShIn W1.heap.size W1 most os h (.slice ob os.length oc) vc := ⟨(HH.out.below hbW).wide fun k hk _ => hk, Nat.le_refl _, fun W' hW' => (HT.out.below hbW (Nat.le_refl _)).below hW' (Nat.le_refl _)⟩
      have c := writeAt_two W1.heap.size W1 most os h _ _ hsh [v] (.slice (some ⟨W.heap.size, 0, none⟩) 1 1) [] (.slice none 0 0) (by rw [hW1]; exact valsIn_one W v _ (by simp)) (fun u hu => by rw [List.mem_singleton] at hu; subst hu; exact ⟨HRV.out, HV.out⟩) (by simp) (World.ownsRow_nil _ _ _ _) (by simp [bndT])
      refine c.mono ?_
      rintro e w' ⟨v', rfl, ho, hb⟩
      refine ⟨v', rfl, ?_, hbW.trans (hb.mono (by omega)), hb.size, by omega⟩
      show OwnB _ _ _ _
      simpa [joinT] using ho
    obtain ⟨k, m, s⟩ := v
    simp only at p0 p1 p2 x0 x1 x2 hw1'
    clear hw1 hbx H H1 ht hb1 hr hSB hv
    go_enter Tryz.func10, Tryz.ntmps10
    go_wp2_with fail
    refine wp_region_cls (n := w1.heap.size) (w0 := w1) (Below.refl _ _) (by kernel_rfl) (by kernel_rfl) ?_
    go_big_quiet_step (fail)
    go_big_quiet_step (exact cls_calls HC.out _)
    iterate 8 (go_big_quiet_step (fail))
    go_big_quiet_step (exact cls_calls HK.out _)
    iterate 2 (go_big_quiet_step (fail))
    refine wpQuiet_nil ?_
    rintro _ ⟨c, rfl⟩
    have y0 := x0 c
    have y1 := x1 c
    have y2 := x2 c
    have cw := HW2 c.1 c.2 _ rfl
    clear x0 x1 x2 x3 HW2
    go_wp2_with fail
    refine cw.mono ?_
    clear cw
    rintro e w4 ⟨v4, rfl, HO4, HB4, hs4, hs5⟩
    obtain ⟨b4, cap4, hv4, hrow4, hc4, hc5, hc6⟩ := own_row HO4.out.own
    subst hv4
    obtain ⟨T, hT⟩ : ∃ T, T = txtV os 2 ⟨k, m, s⟩ := ⟨_, rfl⟩
    have hTl := HTL.out
    have hbn : bndT 2 = 333000000 := rfl
    rw [hbn] at hTl
    rw [← hT] at HO4 hrow4 hc4 hTl HSB ⊢
    clear hT hbn HTL y0 y1 y2
    unfold maxLen at hc5
    by_cases h2 : 200 < T.length
    · have h2i : (200 : Int) < (T.length : Int) := by omega
      have HPF : Hid (OwnB (c.1.alloc (.cells #[.int .i64 k, .int .i64 m, .string (strB s)] 25)).heap.size w4 (.slice b4 197 cap4) (T.take 197)) := own_prefix HO4.out 197 (by omega)
      have hsl : ∀ W : World, (Instr.slice 73 (.slice b4 T.length cap4) none (some (.int .i64 197)) none).run Tryz.prog W = .ok (.slice b4 197 cap4) W := fun W => by
        rw [run_slice_h (P := Tryz.prog) (w := W) 73 b4 T.length cap4 Tryz.underlying73 .i64 197 (by omega) (by omega)]
        cases b4 <;> simp [sliced, go_sem, Addr.add]
      have htk : (T.take 197).length = 197 := by rw [List.length_take]; omega
      go_wp2_with (at_builtin; refine append_strB rfl _ _ rfl (c.1.alloc (.cells #[.int .i64 k, .int .i64 m, .string (strB s)] 25)).heap.size _ (T.take 197) rfl HPF.out.own dotsB rfl (by rw [htk]; simp [dotsB]) (by omega) ?_; intro v5 w5 ho5 hg5; obtain ⟨b5, cap5, rfl, hrow5, -, -, -⟩ := own_row ho5; have hcv := conv_row w5 b5 _ cap5 hrow5; rw [show (T.take 197 ++ dotsB).length = 200 by rw [List.length_append, htk]; rfl] at hcv ⊢)
      have HB5 : Hid (Below w.heap.size w w5) := HB4.out.grown hg5 (by omega) (fun q hq => by have := HPF.out.lt q hq; omega)
      clear hrow5 ho5 hg5
      go_ret
      rw [HSB.out, if_pos h2]
      exact ⟨rfl, HB5.out⟩
    · have h2i : ¬ (200 : Int) < (T.length : Int) := by omega
      have hcv := conv_row w4 b4 _ cap4 hrow4
      go_wp2
      go_ret
      rw [HSB.out, if_neg h2]
      exact ⟨rfl, HB4.out⟩
end Go.Proofs.YtchpmnmngeebjaaGreatDoor
