/- heap: an object is written. -/
import Derived.Test.YtchpmnmngeebjaaGreatDoorHWrite2
namespace Go.Proofs.YtchpmnmngeebjaaGreatDoor
open Go.RowKit Go.Shelf

theorem vlC_drop : ∀ (l : List Vl) (a : Nat), vlC (l.drop a) = (vlC l).drop (a * 3)
  | [], a => by simp [vlC]
  | v :: l, 0 => by simp
  | v :: l, a + 1 => by
    have e : vlC (v :: l) = vlL v ++ vlC l := rfl
    rw [List.drop_succ_cons, vlC_drop l a, e, show (a + 1) * 3 = 3 + a * 3 by omega, ← List.drop_drop]
    rfl
theorem vlC_take : ∀ (l : List Vl) (a : Nat), vlC (l.take a) = (vlC l).take (a * 3)
  | [], a => by simp [vlC]
  | v :: l, 0 => by simp [vlC]
  | v :: l, a + 1 => by
    have e : vlC (v :: l) = vlL v ++ vlC l := rfl
    have e' : vlC ((v :: l).take (a + 1)) = vlL v ++ vlC (l.take a) := rfl
    rw [e', e, vlC_take l a, List.take_append, show (a + 1) * 3 - (vlL v).length = a * 3 by simp [vlL]; omega, List.take_of_length_le (l := vlL v) (by simp [vlL]; omega)]

/-- The first m cells of an object, where they stand. -/
theorem cells_vals {S : Nat → Prop} {w : World} {most : Nat} {os : List Ob} {h : Nat} {vo vc : Value} (H : HpIn S w most os h vo vc) (j : Nat) (hj : j < os.length) {base : Option Addr} (hb : 1 ≤ (os[j]).2.length → ∃ g n cp, vc = .slice (some ⟨g, 0, none⟩) n cp ∧ base = some ⟨g, fromO os j * 3, none⟩) (m : Nat) (hm : m ≤ (os[j]).2.length) (hl : (os[j]).2.length ≤ maxLen) :
    valsIn S w (.slice base m (os[j]).2.length) ((os[j]).2.take m) := by
  obtain ⟨h1, h2⟩ := allV_cut os j hj
  have hlen : ((os[j]).2.take m).length = m := by rw [List.length_take]; omega
  refine ⟨base, _, by rw [hlen], by rw [hlen]; exact hm, hl, ?_⟩
  rcases Nat.eq_zero_or_pos m with h0 | h0
  · left; subst h0; rfl
  · obtain ⟨g, n, cp, hv, rfl⟩ := hb (by omega)
    have hlt := (H.cells.lt g (by rw [hv]; rfl)).2
    refine .inr ⟨g, fromO os j * 3, rfl, H.sc g (by rw [hv]; rfl), hlt, fun q u hq => ?_⟩
    have hc := H.cells.cells (g := g) (by rw [hv]; rfl) (fromO os j * 3 + q) u (by
      rw [← h2, List.take_take, vlC_take, vlC_drop, List.getElem?_take] at hq
      split at hq
      · rw [List.getElem?_drop] at hq; exact hq
      · cases hq)
    have e9 : (⟨g, 0, none⟩ : Addr).add (fromO os j * 3 + q) = ⟨g, fromO os j * 3 + q, none⟩ := by
      unfold Addr.add
      split
      · rename_i h0; congr 1; omega
      · congr 1; simp
    rwa [e9] at hc

set_option maxRecDepth 100000 in
set_option maxHeartbeats 2000000 in
theorem obj_of (d : Nat) (hd : d ≤ 2) (hW : WriteAt d) : ObjAt (d + 1) := by
  intro B w most os h vo vc H j hj us bv hown hl
  have hB := H.le
  have hbn := bndT_ge d
  have hbs : bndT (d + 1) = 10 * bndT d + 3000000 := rfl
  rw [hbs] at hl
  have hl2 : us.length + 10 * bndT d ≤ 99997000000 := by omega
  clear hl hbs
  have hok := H.hp.ok _ (List.getElem_mem hj)
  have huse := H.hp.use
  have hmay := H.hp.may
  obtain ⟨hcut, -⟩ := allV_cut os j hj
  have hlm : (os[j]).2.length ≤ maxLen := by unfold maxLen; omega
  have htl : (os[j]).1.length ≤ 1048576 := hok.2.1
  have HO0 : Hid (OwnB B w bv us) := hown
  have HH : Hid (ShIn B w most os h vo vc) := H
  have cc : ∀ W, Below B w W → Calls Tryz.prog 37 #[.pointer (some ⟨h, 0, none⟩), foundO os j hj] W fun e w3 => ∃ base, e = .returned (.slice base (os[j]).2.length (os[j]).2.length) ∧ Below W.heap.size W w3 ∧ Hid (valsIn (fun k => k < B) w3 (.slice base (min (os[j]).2.length 8) (os[j]).2.length) ((os[j]).2.take 8)) := fun W hW => by
    refine (cellsOf_any j hj W (HH.out.on hW).hp).mono ?_
    rintro e w3 ⟨base, rfl, hb3, hbase⟩
    refine ⟨base, rfl, hb3, ?_⟩
    have := cells_vals ((HH.out.on hW).hp.below hb3) j hj hbase (min (os[j]).2.length 8) (by omega) hlm
    show valsIn _ _ _ _
    have e9 : (os[j]).2.take (min (os[j]).2.length 8) = (os[j]).2.take 8 := by
      rcases Nat.le_total (os[j]).2.length 8 with h8 | h8
      · rw [Nat.min_eq_left h8, List.take_of_length_le (Nat.le_refl _), List.take_of_length_le h8]
      · rw [Nat.min_eq_right h8]
    rwa [e9] at this
  have HCV : Hid (∀ v ∈ (os[j]).2.take 8, rightV v os.length = true ∧ smallV v) := fun v hv => by
    have hv' := List.mem_of_mem_take hv
    have h1 := hok.1
    unfold obB at h1
    rw [Bool.and_eq_true, List.all_eq_true] at h1
    have := h1.1 v hv'
    unfold cellV at this
    rw [Bool.and_eq_true] at this
    exact ⟨this.2, hok.2.2 v hv'⟩
  have HC8 : Hid (((os[j]).2.take 8).length ≤ 8) := by show _ ≤ _; rw [List.length_take]; omega
  have HJL : Hid ((joinT (txtV os d) ((os[j]).2.take 8)).length ≤ 8 * (bndT d + 2)) := by
    have h1 := joinT_len (f := txtV os d) (N := bndT d) ((os[j]).2.take 8) fun v hv => txtV_len (fun o ho => (H.hp.ok o ho).2) d v (hok.2.2 v (List.mem_of_mem_take hv))
    have h3 : ((os[j]).2.take 8).length * (bndT d + 2) ≤ 8 * (bndT d + 2) := Nat.mul_le_mul_right _ HC8.out
    show _ ≤ _
    omega
  have HOBT : Hid (objT os (d + 1) os[j] = (if (os[j]).1 = [] then [91] else (os[j]).1 ++ [40]) ++ joinT (txtV os d) ((os[j]).2.take 8) ++ (if 8 < (os[j]).2.length then [44, 32, 46, 46, 46] else []) ++ (if (os[j]).1 = [] then [93] else [41])) := rfl
  obtain ⟨R, hR⟩ : ∃ R, R = objT os (d + 1) os[j] := ⟨_, rfl⟩
  rw [← hR] at HOBT ⊢
  obtain ⟨tg, htg⟩ : ∃ tg, tg = (os[j]).1 := ⟨_, rfl⟩
  obtain ⟨n, hn⟩ : ∃ n, n = (os[j]).2.length := ⟨_, rfl⟩
  obtain ⟨cs, hcs⟩ : ∃ cs, cs = (os[j]).2.take 8 := ⟨_, rfl⟩
  obtain ⟨fr, up, hfo⟩ : ∃ fr up : Int, foundO os j hj = .agg #[.string (strB tg), .int .i64 fr, .int .i64 up] := ⟨_, _, by rw [htg]⟩
  rw [hfo] at cc ⊢
  rw [← htg, ← hn, ← hcs] at HOBT
  rw [← hcs] at HCV HC8 HJL
  rw [← htg] at htl
  rw [← hn] at hlm hcut
  simp only [← hn, ← hcs] at cc
  have HWR : Hid (WriteAt d) := hW
  obtain ⟨w1, hw1⟩ : ∃ w1, w1 = w.alloc (.cells #[.string (strB tg), .int .i64 fr, .int .i64 up] 79) := ⟨_, rfl⟩
  have hs1 : w1.heap.size = w.heap.size + 1 := by rw [hw1]; simp
  have HB1 : Hid (Below B w w1) := by show Below _ _ _; rw [hw1]; exact (Below.refl _ _).alloc hB _
  have hbx : w1.heap[w.heap.size]? = some (.cells #[.string (strB tg), .int .i64 fr, .int .i64 up] 79 (0, 0)) := by rw [hw1]; exact World.alloc_heap_new _ _
  have HO1 : Hid (OwnB B w1 bv us) := by show OwnB _ _ _ _; rw [hw1]; exact HO0.out.alloc _
  have HBX : Hid (w1.heap[w.heap.size]? = some (.cells #[.string (strB tg), .int .i64 fr, .int .i64 up] 79 (0, 0))) := hbx
  have HNE : Hid (some w.heap.size ≠ bv.ownBlock) := fun e => by
    obtain ⟨cur, hcu⟩ := own_type HO1.out.own e.symm
    rw [HBX.out] at hcu
    simp at hcu
  obtain ⟨p0, p1, p2, -⟩ := cellsH3 hbx
  have hw1' := hw1.symm
  have hd0 : ((d : Int) + 1 == 0) = false := by rw [beq_eq_false_iff_ne]; omega
  have hdw : wrap64 (d : Int) = d := by unfold wrap64; omega
  obtain ⟨m, hm⟩ : ∃ m, m = min n 8 := ⟨_, rfl⟩
  have hmin : min (n : Int) 8 = (m : Int) := by omega
  have hmn : m ≤ n := by omega
  simp only [← hm] at cc
  have hsl : ∀ (W : World) (base : Option Addr), (Instr.slice 33 (.slice base n n) none (some (.int .i64 (m : Int))) none).run Tryz.prog W = .ok (.slice base m n) W := fun W base => by
    rw [run_slice_h (P := Tryz.prog) (w := W) 33 base n n Tryz.underlying33 .i64 _ (by omega) (by omega)]
    cases base <;> simp [sliced, go_sem, Addr.add]
  clear hw1 hbx hown H hW hok hcut huse hmay htg hn hcs hfo hR hm
  by_cases ht0 : tg = []
  · subst ht0
    simp only [if_true] at HOBT
    go_enter Tryz.func56, Tryz.ntmps56
    go_wp2_with (at_builtin; refine append_strB rfl _ _ rfl B _ us rfl HO1.out.own [91] rfl (by simp only [List.length_cons, List.length_nil]; omega) (by omega) ?_; intro v2 w2 ho2 hg2; have HO2 : Hid (OwnB B w2 v2 (us ++ [91])) := ho2; have HB2 : Hid (Below B w w2) := HB1.out.grown hg2 (by omega) (fun q hq => HO1.out.lt q hq); have hs2 := hg2.size; obtain ⟨t0, t1, t2, -⟩ := cellsH3 ((hg2.block _ (by omega) HNE.out).trans HBX.out); clear ho2 hg2)
    have cc' := cc w2 HB2.out
    clear cc
    refine cc'.mono ?_
    clear cc'
    rintro e w3 ⟨base, rfl, hb3, HV3⟩
    have HO3 : Hid (OwnB B w3 v2 (us ++ [91])) := HO2.out.kept hb3 (Nat.le_refl _)
    have HB3 : Hid (Below B w w3) := HB2.out.trans (hb3.mono (by omega))
    have hs3 := hb3.size
    have cw := HWR.out B w3 most os h vo vc (HH.out.on HB3.out) cs _ (us ++ [91]) v2 HV3.out HCV.out HC8.out HO3.out.own (by simp only [List.length_append, List.length_cons, List.length_nil]; omega)
    have hsl' := hsl
    clear hb3
    go_wp2_with fail
    refine cw.mono ?_
    clear cw hsl'
    rintro e w4 ⟨v4, rfl, ho4, hb4⟩
    have HO4 : Hid (OwnB B w4 v4 (us ++ [91] ++ joinT (txtV os d) cs)) := ho4
    have HB4 : Hid (Below B w w4) := HB3.out.trans hb4
    have hs4 := hb4.size
    have hjl := HJL.out
    clear ho4 hb4
    by_cases h8 : 8 < n
    · have h8i : (8 : Int) < (n : Int) := by omega
      have HR : Hid (us ++ R = us ++ [91] ++ joinT (txtV os d) cs ++ [44, 32, 46, 46, 46] ++ [93]) := by show _ = _; rw [HOBT.out, if_pos h8]; simp
      go_wp2_with (first | (at_builtin; refine append_strB rfl _ _ rfl B _ (us ++ [91] ++ joinT (txtV os d) cs ++ [44, 32, 46, 46, 46]) rfl HO5.out.own [93] rfl (by simp only [List.length_append, List.length_cons, List.length_nil]; omega) (by omega) ?_; intro v6 w6 ho6 hg6) | (at_builtin; refine append_strB rfl _ _ rfl B _ (us ++ [91] ++ joinT (txtV os d) cs) rfl HO4.out.own [44, 32, 46, 46, 46] rfl (by simp only [List.length_append, List.length_cons, List.length_nil]; omega) (by omega) ?_; intro v5 w5 ho5 hg5; have HO5 : Hid (OwnB B w5 v5 (us ++ [91] ++ joinT (txtV os d) cs ++ [44, 32, 46, 46, 46])) := ho5; have HB5 : Hid (Below B w w5) := HB4.out.grown hg5 (by omega) (fun q hq => HO4.out.lt q hq); have hs5 := hg5.size; clear ho5 hg5))
      go_ret
      refine ⟨v6, rfl, ?_, HB5.out.grown hg6 (by omega) (fun q hq => HO5.out.lt q hq)⟩
      rw [HR.out]
      exact ho6
    · have h8i : ¬ (8 : Int) < (n : Int) := by omega
      have HR : Hid (us ++ R = us ++ [91] ++ joinT (txtV os d) cs ++ [93]) := by show _ = _; rw [HOBT.out, if_neg h8]; simp
      go_wp2_with (at_builtin; refine append_strB rfl _ _ rfl B _ (us ++ [91] ++ joinT (txtV os d) cs) rfl HO4.out.own [93] rfl (by simp only [List.length_append, List.length_cons, List.length_nil]; omega) (by omega) ?_; intro v6 w6 ho6 hg6)
      go_ret
      refine ⟨v6, rfl, ?_, HB4.out.grown hg6 (by omega) (fun q hq => HO4.out.lt q hq)⟩
      rw [HR.out]
      exact ho6
  · simp only [if_neg ht0] at HOBT
    have hcat : strB tg ++ ⟨#[40]⟩ = strB (tg ++ [40]) := by show strB tg ++ strB [40] = _; apply ByteArray.ext; simp [strB]
    have hsz : (strB tg).size = tg.length := rfl
    have hsp : (strB tg ++ ⟨#[40]⟩).size = tg.length + 1 := by rw [hcat, strB_size, List.length_append]; rfl
    have htb : (tg == []) = false := by rw [beq_eq_false_iff_ne]; exact ht0
    go_enter Tryz.func56, Tryz.ntmps56
    go_wp2_with (at_builtin; refine append_strB rfl _ _ rfl B _ us rfl HO1.out.own (tg ++ [40]) rfl (by simp only [List.length_append, List.length_cons, List.length_nil]; omega) (by omega) ?_; intro v2 w2 ho2 hg2; have HO2 : Hid (OwnB B w2 v2 (us ++ (tg ++ [40]))) := ho2; have HB2 : Hid (Below B w w2) := HB1.out.grown hg2 (by omega) (fun q hq => HO1.out.lt q hq); have hs2 := hg2.size; obtain ⟨t0, t1, t2, -⟩ := cellsH3 ((hg2.block _ (by omega) HNE.out).trans HBX.out); clear ho2 hg2)
    have cc' := cc w2 HB2.out
    clear cc
    refine cc'.mono ?_
    clear cc'
    rintro e w3 ⟨base, rfl, hb3, HV3⟩
    have HO3 : Hid (OwnB B w3 v2 (us ++ (tg ++ [40]))) := HO2.out.kept hb3 (Nat.le_refl _)
    have HB3 : Hid (Below B w w3) := HB2.out.trans (hb3.mono (by omega))
    have hs3 := hb3.size
    have cw := HWR.out B w3 most os h vo vc (HH.out.on HB3.out) cs _ (us ++ (tg ++ [40])) v2 HV3.out HCV.out HC8.out HO3.out.own (by simp only [List.length_append, List.length_cons, List.length_nil]; omega)
    have hsl' := hsl
    clear hb3
    go_wp2_with fail
    refine cw.mono ?_
    clear cw hsl'
    rintro e w4 ⟨v4, rfl, ho4, hb4⟩
    have HO4 : Hid (OwnB B w4 v4 (us ++ (tg ++ [40]) ++ joinT (txtV os d) cs)) := ho4
    have HB4 : Hid (Below B w w4) := HB3.out.trans hb4
    have hs4 := hb4.size
    have hjl := HJL.out
    clear ho4 hb4
    by_cases h8 : 8 < n
    · have h8i : (8 : Int) < (n : Int) := by omega
      have HR : Hid (us ++ R = us ++ (tg ++ [40]) ++ joinT (txtV os d) cs ++ [44, 32, 46, 46, 46] ++ [41]) := by show _ = _; rw [HOBT.out, if_pos h8]; simp
      go_wp2_with (first | (at_builtin; refine append_strB rfl _ _ rfl B _ (us ++ (tg ++ [40]) ++ joinT (txtV os d) cs ++ [44, 32, 46, 46, 46]) rfl HO5.out.own [41] rfl (by simp only [List.length_append, List.length_cons, List.length_nil]; omega) (by omega) ?_; intro v6 w6 ho6 hg6) | (at_builtin; refine append_strB rfl _ _ rfl B _ (us ++ (tg ++ [40]) ++ joinT (txtV os d) cs) rfl HO4.out.own [44, 32, 46, 46, 46] rfl (by simp only [List.length_append, List.length_cons, List.length_nil]; omega) (by omega) ?_; intro v5 w5 ho5 hg5; have HO5 : Hid (OwnB B w5 v5 (us ++ (tg ++ [40]) ++ joinT (txtV os d) cs ++ [44, 32, 46, 46, 46])) := ho5; have HB5 : Hid (Below B w w5) := HB4.out.grown hg5 (by omega) (fun q hq => HO4.out.lt q hq); have hs5 := hg5.size; clear ho5 hg5))
      go_ret
      refine ⟨v6, rfl, ?_, HB5.out.grown hg6 (by omega) (fun q hq => HO5.out.lt q hq)⟩
      rw [HR.out]
      exact ho6
    · have h8i : ¬ (8 : Int) < (n : Int) := by omega
      have HR : Hid (us ++ R = us ++ (tg ++ [40]) ++ joinT (txtV os d) cs ++ [41]) := by show _ = _; rw [HOBT.out, if_neg h8]; simp
      go_wp2_with (at_builtin; refine append_strB rfl _ _ rfl B _ (us ++ (tg ++ [40]) ++ joinT (txtV os d) cs) rfl HO4.out.own [41] rfl (by simp only [List.length_append, List.length_cons, List.length_nil]; omega) (by omega) ?_; intro v6 w6 ho6 hg6)
      go_ret
      refine ⟨v6, rfl, ?_, HB4.out.grown hg6 (by omega) (fun q hq => HO4.out.lt q hq)⟩
      rw [HR.out]
      exact ho6
end Go.Proofs.YtchpmnmngeebjaaGreatDoor
