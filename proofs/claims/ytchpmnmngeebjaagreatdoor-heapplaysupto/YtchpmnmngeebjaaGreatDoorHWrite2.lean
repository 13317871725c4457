/- heap: values are written, one behind the other. -/
import Derived.Test.YtchpmnmngeebjaaGreatDoorHWrite
import Derived.Deep.RegionWith
namespace Go.Proofs.YtchpmnmngeebjaaGreatDoor
open Go.RowKit Go.Shelf

theorem OwnB.lt {B : Nat} {w : World} {v : Value} {bs : List UInt8} (h : OwnB B w v bs) : ∀ k, v.ownBlock = some k → B ≤ k := fun k hk => (World.ownsRow.lt h k hk).1
theorem OwnB.own {B : Nat} {w : World} {v : Value} {bs : List UInt8} (h : OwnB B w v bs) : w.ownsRow B 5 1 v bs.length (Lib.byteCells bs) := h
theorem OwnB.alloc {B : Nat} {w : World} {v : Value} {bs : List UInt8} (h : OwnB B w v bs) (o : Obj) : OwnB B (w.alloc o) v bs := World.ownsRow.alloc h o
theorem OwnB.kept {B n : Nat} {w w' : World} {v : Value} {bs : List UInt8} (h : OwnB B w v bs) (hb : Below n w w') (hn : w.heap.size ≤ n) : OwnB B w' v bs := own_blocks h fun k _ hk => hb.block k (Nat.lt_of_lt_of_le hk hn)

set_option maxRecDepth 100000 in
set_option maxHeartbeats 16000000 in
theorem write_of (d : Nat) (hO : ObjAt d) : WriteAt d := by
  intro B w most os h vo vc H l pv us bv hpv hl hl8 hown hbd
  have hB := H.le
  have HO0 : Hid (OwnB B w bv us) := hown
  have HH : Hid (ShIn B w most os h vo vc) := H
  have HL : Hid (∀ v ∈ l, rightV v os.length = true ∧ smallV v) := hl
  have HOB : Hid (ObjAt d) := hO
  have hos : ∀ o ∈ os, smallO o := fun o ho => (H.hp.ok o ho).2
  have HOS : Hid (∀ o ∈ os, smallO o) := hos
  obtain ⟨base, cap, rfl, hc1, hc2, hat⟩ := hpv.at
  have HAT : Hid (∀ i (hi : i < l.length), ∃ b o, base = some ⟨b, o, none⟩ ∧ b < B ∧ b < w.heap.size ∧ w.cell? ⟨b, o + i * 3, none⟩ = some (.int .i64 (l[i]).k) ∧ w.cell? ⟨b, o + i * 3 + 1, none⟩ = some (.int .i64 (l[i]).n) ∧ w.cell? ⟨b, o + i * 3 + 2, none⟩ = some (.string (strB (l[i]).s))) := hat
  have hbn := bndT_ge d
  obtain ⟨f, hf⟩ : ∃ f, f = txtV os d := ⟨_, rfl⟩
  rw [← hf]
  have HF : Hid (f = txtV os d) := hf
  have hlen : ∀ i, i ≤ 8 → (us ++ joinT f (l.take i)).length ≤ us.length + 8 * (bndT d + 2) := fun i hi => by
    have h1 := joinT_len (f := f) (N := bndT d) (l.take i) fun v hv => by rw [hf]; exact txtV_len hos d v (hl v (List.mem_of_mem_take hv)).2
    have h2 : (l.take i).length ≤ 8 := by rw [List.length_take]; omega
    have h3 : (l.take i).length * (bndT d + 2) ≤ 8 * (bndT d + 2) := Nat.mul_le_mul_right _ h2
    rw [List.length_append]
    omega
  have HLEN : Hid (∀ i, i ≤ 8 → (us ++ joinT f (l.take i)).length ≤ us.length + 8 * (bndT d + 2)) := hlen
  clear hpv hat hown H hl hO hf hlen hos
  go_enter Tryz.func31, Tryz.ntmps31
  go_wp2
  go_loopw [1, 15] (fun vb vi wr => ∃ i : Nat, i ≤ l.length ∧ vi = .int .i64 i ∧ OwnB B wr vb (us ++ joinT f (l.take i)) ∧ Below B w wr) (fun _ vi _ => l.length - (intOf vi).toNat)
  case atStart => exact ⟨0, Nat.zero_le _, rfl, by simpa [joinT] using HO0.out, Below.refl _ _⟩
  case round =>
    obtain ⟨i, hi, rfl, how, hbw⟩ := hrel
    have HO : Hid (OwnB B wr u1 (us ++ joinT f (l.take i))) := how
    have HB : Hid (Below B w wr) := hbw
    have hszw := hbw.size
    clear how hbw
    by_cases hlt : i < l.length
    · obtain ⟨b, o, rfl, hbB, hbl, q0, q1, q2⟩ := HAT.out i hlt
      have hi2 : (i : Int) < l.length := by omega
      have r0 := (below_cell HB.out hbB).trans q0
      have r1 := (below_cell HB.out hbB).trans q1
      have r2 := (below_cell HB.out hbB).trans q2
      have hxr := (HL.out l[i] (List.getElem_mem hlt)).1
      have hxs := (HL.out l[i] (List.getElem_mem hlt)).2
      have hnx := aheadT_next us f l i hlt
      have htx : f l[i] = leafT l[i] (objT os d ((os[(l[i]).n.toNat]?).getD ([], []))) := by rw [HF.out]; exact txtV_leaf os d l[i]
      rw [htx] at hnx
      have hle := HLEN.out i (by omega)
      have hal : (aheadT us f l i).length ≤ us.length + 8 * (bndT d + 2) + 2 := by
        unfold aheadT
        rw [List.length_append]
        have : (if i = 0 then ([] : List UInt8) else [44, 32]).length ≤ 2 := by split <;> simp
        omega
      have HAH : Hid (aheadT us f l i = us ++ joinT f (l.take i) ++ if i = 0 then [] else [44, 32]) := rfl
      obtain ⟨x, hx⟩ : ∃ x, x = l[i] := ⟨_, rfl⟩
      rw [← hx] at r0 r1 r2 hxr hxs hnx
      obtain ⟨ah, has⟩ : ∃ ah, ah = aheadT us f l i := ⟨_, rfl⟩
      rw [← has] at hnx hal HAH
      obtain ⟨xk, xn, xs⟩ := x
      have HNX : Hid (us ++ joinT f (l.take (i + 1)) = ah ++ leafT ⟨xk, xn, xs⟩ (objT os d ((os[xn.toNat]?).getD ([], [])))) := hnx
      have HX : Hid (rightV ⟨xk, xn, xs⟩ os.length = true ∧ smallV ⟨xk, xn, xs⟩) := ⟨hxr, hxs⟩
      have hxn0 : -9223372036854775808 ≤ xn := hxs.1.1
      have hxn1 : xn ≤ 9223372036854775807 := hxs.1.2
      have hxsl : xs.length ≤ 1048576 := hxs.2
      simp only at r0 r1 r2
      obtain ⟨w1, hw1⟩ : ∃ w1, w1 = wr.alloc (.cells #[.int .i64 xk, .int .i64 xn, .string (strB xs)] 25) := ⟨_, rfl⟩
      have hs1 : w1.heap.size = wr.heap.size + 1 := by rw [hw1]; simp
      have HB1 : Hid (Below B w w1) := by show Below _ _ _; rw [hw1]; exact HB.out.alloc (by omega) _
      have hbx : w1.heap[wr.heap.size]? = some (.cells #[.int .i64 xk, .int .i64 xn, .string (strB xs)] 25 (0, 0)) := by rw [hw1]; exact World.alloc_heap_new _ _
      have HO1 : Hid (OwnB B w1 u1 (us ++ joinT f (l.take i))) := by show OwnB _ _ _ _; rw [hw1]; exact HO.out.alloc _
      obtain ⟨p0, p1, p2, -⟩ := cellsH3 hbx
      have HBX : Hid (w1.heap[wr.heap.size]? = some (.cells #[.int .i64 xk, .int .i64 xn, .string (strB xs)] 25 (0, 0))) := hbx
      have hw1' := hw1.symm
      clear q0 q1 q2 hxr hxs hnx htx hx has hw1 hbx HAT HL
      by_cases h1 : xk = 1
      · subst h1
        rw [show leafT ⟨1, xn, xs⟩ (objT os d ((os[xn.toNat]?).getD ([], []))) = Lib.itoa xn from rfl] at HNX
        rcases Nat.eq_zero_or_pos i with hi0 | hi0
        · subst hi0
          simp only [Nat.zero_mul, Nat.add_zero] at r0 r1 r2
          have HOA : Hid (OwnB B w1 u1 ah) := by show OwnB _ _ _ _; rw [HAH.out]; simpa using HO1.out
          have HBA : Hid (Below B w w1) := HB1.out
          have hsA : w1.heap.size = wr.heap.size + 1 := hs1
          go_wp2_with fail
          refine (Tryz.strconv_AppendInt_10 B ah.length xn hxn0 hxn1 u1 (Lib.byteCells ah) w1 HOA.out.own (by have := HBA.out.size; omega) (by omega) (fun W hW => (HH.out.tabs W (HBA.out.trans hW)).2)).mono ?_
          rintro e w5 ⟨v5, rfl, ho5, hb5, -⟩
          have HO5 : Hid (OwnB B w5 v5 (us ++ joinT f (l.take (0 + 1)))) := by show OwnB _ _ _ _; rw [HNX.out]; unfold OwnB; rw [List.length_append, Lib.byteCells_append]; exact ho5
          have HB5 : Hid (Below B w w5) := HBA.out.trans hb5
          clear ho5 hb5
          go_wp2
          exact ⟨⟨0 + 1, by omega, by go_num, HO5.out, HB5.out⟩, by simp [intOf]; omega⟩
        · have hi9 : (0 : Int) < (i : Int) := by omega
          have HAH2 : Hid (ah = us ++ joinT f (l.take i) ++ [44, 32]) := by show _ = _; rw [HAH.out, if_neg (by omega)]
          go_wp2_with (at_builtin; refine append_strB rfl _ _ rfl B _ (us ++ joinT f (l.take i)) rfl HO1.out.own [44, 32] rfl (by simp only [List.length_cons, List.length_nil]; omega) (by omega) ?_; intro va wa hownA hgrowA; have HOA : Hid (OwnB B wa va ah) := (by show OwnB _ _ _ _; rw [HAH2.out]; exact hownA); have HBA : Hid (Below B w wa) := HB1.out.grown hgrowA (by omega) (fun q hq => HO1.out.lt q hq); have hsA := hgrowA.size; have hne : some wr.heap.size ≠ u1.ownBlock := (fun e => by obtain ⟨cur, hcu⟩ := own_type HO1.out.own e.symm; rw [HBX.out] at hcu; simp at hcu); have hbxA := (hgrowA.block _ (by omega) hne).trans HBX.out; obtain ⟨pa0, pa1, pa2, -⟩ := cellsH3 hbxA; clear hownA hgrowA hne)
          refine (Tryz.strconv_AppendInt_10 B ah.length xn hxn0 hxn1 va (Lib.byteCells ah) wa HOA.out.own (by have := HBA.out.size; omega) (by omega) (fun W hW => (HH.out.tabs W (HBA.out.trans hW)).2)).mono ?_
          rintro e w5 ⟨v5, rfl, ho5, hb5, -⟩
          have HO5 : Hid (OwnB B w5 v5 (us ++ joinT f (l.take (i + 1)))) := by show OwnB _ _ _ _; rw [HNX.out]; unfold OwnB; rw [List.length_append, Lib.byteCells_append]; exact ho5
          have HB5 : Hid (Below B w w5) := HBA.out.trans hb5
          clear ho5 hb5
          go_wp2
          exact ⟨⟨i + 1, by omega, by go_num, HO5.out, HB5.out⟩, by simp [intOf]; omega⟩
      have hk1 : (xk == 1) = false := by rw [beq_eq_false_iff_ne]; exact h1
      by_cases h2 : xk = 2
      · subst h2
        clear hk1
        by_cases hn1 : xn = 1
        · subst hn1
          rw [show leafT ⟨2, 1, xs⟩ (objT os d ((os[(1 : Int).toNat]?).getD ([], []))) = boolT true from rfl] at HNX
          rcases Nat.eq_zero_or_pos i with hi0 | hi0
          · subst hi0
            simp only [Nat.zero_mul, Nat.add_zero] at r0 r1 r2
            have HOA : Hid (OwnB B w1 u1 ah) := by show OwnB _ _ _ _; rw [HAH.out]; simpa using HO1.out
            have HBA : Hid (Below B w w1) := HB1.out
            have hsA : w1.heap.size = wr.heap.size + 1 := hs1
            go_wp2_with fail
            refine (appendBoolP_any B u1 ah true w1 HOA.out.own (by have := HBA.out.size; omega) (by omega)).mono ?_
            rintro e w5 ⟨v5, rfl, ho5, hb5⟩
            have HO5 : Hid (OwnB B w5 v5 (us ++ joinT f (l.take (0 + 1)))) := by show OwnB _ _ _ _; rw [HNX.out]; exact ho5
            have HB5 : Hid (Below B w w5) := HBA.out.trans hb5
            clear ho5 hb5
            go_wp2
            exact ⟨⟨0 + 1, by omega, by go_num, HO5.out, HB5.out⟩, by simp [intOf]; omega⟩
          · have hi9 : (0 : Int) < (i : Int) := by omega
            have HAH2 : Hid (ah = us ++ joinT f (l.take i) ++ [44, 32]) := by show _ = _; rw [HAH.out, if_neg (by omega)]
            go_wp2_with (at_builtin; refine append_strB rfl _ _ rfl B _ (us ++ joinT f (l.take i)) rfl HO1.out.own [44, 32] rfl (by simp only [List.length_cons, List.length_nil]; omega) (by omega) ?_; intro va wa hownA hgrowA; have HOA : Hid (OwnB B wa va ah) := (by show OwnB _ _ _ _; rw [HAH2.out]; exact hownA); have HBA : Hid (Below B w wa) := HB1.out.grown hgrowA (by omega) (fun q hq => HO1.out.lt q hq); have hsA := hgrowA.size; have hne : some wr.heap.size ≠ u1.ownBlock := (fun e => by obtain ⟨cur, hcu⟩ := own_type HO1.out.own e.symm; rw [HBX.out] at hcu; simp at hcu); have hbxA := (hgrowA.block _ (by omega) hne).trans HBX.out; obtain ⟨pa0, pa1, pa2, -⟩ := cellsH3 hbxA; clear hownA hgrowA hne)
            refine (appendBoolP_any B va ah true wa HOA.out.own (by have := HBA.out.size; omega) (by omega)).mono ?_
            rintro e w5 ⟨v5, rfl, ho5, hb5⟩
            have HO5 : Hid (OwnB B w5 v5 (us ++ joinT f (l.take (i + 1)))) := by show OwnB _ _ _ _; rw [HNX.out]; exact ho5
            have HB5 : Hid (Below B w w5) := HBA.out.trans hb5
            clear ho5 hb5
            go_wp2
            exact ⟨⟨i + 1, by omega, by go_num, HO5.out, HB5.out⟩, by simp [intOf]; omega⟩
        have hnb : (xn == 1) = false := by rw [beq_eq_false_iff_ne]; exact hn1
        rw [show leafT ⟨2, xn, xs⟩ (objT os d ((os[xn.toNat]?).getD ([], []))) = boolT false by simp [leafT, hn1, boolT]] at HNX
        rcases Nat.eq_zero_or_pos i with hi0 | hi0
        · subst hi0
          simp only [Nat.zero_mul, Nat.add_zero] at r0 r1 r2
          have HOA : Hid (OwnB B w1 u1 ah) := by show OwnB _ _ _ _; rw [HAH.out]; simpa using HO1.out
          have HBA : Hid (Below B w w1) := HB1.out
          have hsA : w1.heap.size = wr.heap.size + 1 := hs1
          go_wp2_with fail
          refine (appendBoolP_any B u1 ah false w1 HOA.out.own (by have := HBA.out.size; omega) (by omega)).mono ?_
          rintro e w5 ⟨v5, rfl, ho5, hb5⟩
          have HO5 : Hid (OwnB B w5 v5 (us ++ joinT f (l.take (0 + 1)))) := by show OwnB _ _ _ _; rw [HNX.out]; exact ho5
          have HB5 : Hid (Below B w w5) := HBA.out.trans hb5
          clear ho5 hb5
          go_wp2
          exact ⟨⟨0 + 1, by omega, by go_num, HO5.out, HB5.out⟩, by simp [intOf]; omega⟩
        · have hi9 : (0 : Int) < (i : Int) := by omega
          have HAH2 : Hid (ah = us ++ joinT f (l.take i) ++ [44, 32]) := by show _ = _; rw [HAH.out, if_neg (by omega)]
          go_wp2_with (at_builtin; refine append_strB rfl _ _ rfl B _ (us ++ joinT f (l.take i)) rfl HO1.out.own [44, 32] rfl (by simp only [List.length_cons, List.length_nil]; omega) (by omega) ?_; intro va wa hownA hgrowA; have HOA : Hid (OwnB B wa va ah) := (by show OwnB _ _ _ _; rw [HAH2.out]; exact hownA); have HBA : Hid (Below B w wa) := HB1.out.grown hgrowA (by omega) (fun q hq => HO1.out.lt q hq); have hsA := hgrowA.size; have hne : some wr.heap.size ≠ u1.ownBlock := (fun e => by obtain ⟨cur, hcu⟩ := own_type HO1.out.own e.symm; rw [HBX.out] at hcu; simp at hcu); have hbxA := (hgrowA.block _ (by omega) hne).trans HBX.out; obtain ⟨pa0, pa1, pa2, -⟩ := cellsH3 hbxA; clear hownA hgrowA hne)
          refine (appendBoolP_any B va ah false wa HOA.out.own (by have := HBA.out.size; omega) (by omega)).mono ?_
          rintro e w5 ⟨v5, rfl, ho5, hb5⟩
          have HO5 : Hid (OwnB B w5 v5 (us ++ joinT f (l.take (i + 1)))) := by show OwnB _ _ _ _; rw [HNX.out]; exact ho5
          have HB5 : Hid (Below B w w5) := HBA.out.trans hb5
          clear ho5 hb5
          go_wp2
          exact ⟨⟨i + 1, by omega, by go_num, HO5.out, HB5.out⟩, by simp [intOf]; omega⟩
      have hk2 : (xk == 2) = false := by rw [beq_eq_false_iff_ne]; exact h2
      by_cases h3 : xk = 3
      · subst h3
        clear hk1 hk2
        rw [show leafT ⟨3, xn, xs⟩ (objT os d ((os[xn.toNat]?).getD ([], []))) = (tkB 3 0 xs).1 from rfl] at HNX
        have htl : (tkB 3 0 xs).1.length ≤ 3000000 := by
          have := leafT_len (v := ⟨3, 0, xs⟩) (r := []) (N := 3000000) ⟨⟨by simp, by simp⟩, hxsl⟩ (by simp) (Nat.le_refl _)
          simpa [leafT] using this
        rcases Nat.eq_zero_or_pos i with hi0 | hi0
        · subst hi0
          simp only [Nat.zero_mul, Nat.add_zero] at r0 r1 r2
          have HOA : Hid (OwnB B w1 u1 ah) := by show OwnB _ _ _ _; rw [HAH.out]; simpa using HO1.out
          have HBA : Hid (Below B w w1) := HB1.out
          have hsA : w1.heap.size = wr.heap.size + 1 := hs1
          go_wp2_with fail
          refine (lexText_any 3 0 0 0 xs w1 (by omega) (by omega) (by omega) (HH.out.tabs _ HBA.out)).mono ?_
          rintro e w4 ⟨rfl, hb4⟩
          have HO4 : Hid (OwnB B w4 u1 ah) := HOA.out.kept hb4 (Nat.le_refl _)
          have HB4 : Hid (Below B w w4) := HBA.out.trans (hb4.mono (by have := HBA.out.size; omega))
          have hs4 := HB4.out.size
          clear hb4
          go_wp2_with (at_builtin; refine append_strB rfl _ _ rfl B _ ah rfl HO4.out.own (tkB 3 0 xs).1 rfl (by omega) (by omega) ?_; intro v5 w5 ho5 hg5)
          have HB5 : Hid (Below B w w5) := HB4.out.grown hg5 (by omega) (fun q hq => HO4.out.lt q hq)
          have HO5 : Hid (OwnB B w5 v5 (us ++ joinT f (l.take (0 + 1)))) := by show OwnB _ _ _ _; rw [HNX.out]; exact ho5
          exact ⟨⟨0 + 1, by omega, by go_num, HO5.out, HB5.out⟩, by simp [intOf]; omega⟩
        · have hi9 : (0 : Int) < (i : Int) := by omega
          have HAH2 : Hid (ah = us ++ joinT f (l.take i) ++ [44, 32]) := by show _ = _; rw [HAH.out, if_neg (by omega)]
          go_wp2_with (at_builtin; refine append_strB rfl _ _ rfl B _ (us ++ joinT f (l.take i)) rfl HO1.out.own [44, 32] rfl (by simp only [List.length_cons, List.length_nil]; omega) (by omega) ?_; intro va wa hownA hgrowA; have HOA : Hid (OwnB B wa va ah) := (by show OwnB _ _ _ _; rw [HAH2.out]; exact hownA); have HBA : Hid (Below B w wa) := HB1.out.grown hgrowA (by omega) (fun q hq => HO1.out.lt q hq); have hsA := hgrowA.size; have hne : some wr.heap.size ≠ u1.ownBlock := (fun e => by obtain ⟨cur, hcu⟩ := own_type HO1.out.own e.symm; rw [HBX.out] at hcu; simp at hcu); have hbxA := (hgrowA.block _ (by omega) hne).trans HBX.out; obtain ⟨pa0, pa1, pa2, -⟩ := cellsH3 hbxA; clear hownA hgrowA hne)
          refine (lexText_any 3 0 0 0 xs wa (by omega) (by omega) (by omega) (HH.out.tabs _ HBA.out)).mono ?_
          rintro e w4 ⟨rfl, hb4⟩
          have HO4 : Hid (OwnB B w4 va ah) := HOA.out.kept hb4 (Nat.le_refl _)
          have HB4 : Hid (Below B w w4) := HBA.out.trans (hb4.mono (by have := HBA.out.size; omega))
          have hs4 := HB4.out.size
          clear hb4
          go_wp2_with (at_builtin; refine append_strB rfl _ _ rfl B _ ah rfl HO4.out.own (tkB 3 0 xs).1 rfl (by omega) (by omega) ?_; intro v5 w5 ho5 hg5)
          have HB5 : Hid (Below B w w5) := HB4.out.grown hg5 (by omega) (fun q hq => HO4.out.lt q hq)
          have HO5 : Hid (OwnB B w5 v5 (us ++ joinT f (l.take (i + 1)))) := by show OwnB _ _ _ _; rw [HNX.out]; exact ho5
          exact ⟨⟨i + 1, by omega, by go_num, HO5.out, HB5.out⟩, by simp [intOf]; omega⟩
      have hk3 : (xk == 3) = false := by rw [beq_eq_false_iff_ne]; exact h3
      by_cases h4 : xk = 4
      · subst h4
        clear hk1 hk2 hk3
        obtain ⟨j, hj, hxe⟩ : ∃ j : Nat, j < os.length ∧ (⟨4, xn, xs⟩ : Vl) = ⟨4, j, []⟩ := refB_form (by unfold refB; rw [HX.out.1]; rfl)
        simp only [Vl.mk.injEq, true_and] at hxe
        obtain ⟨hxn, -⟩ := hxe
        have hxj : xn.toNat = j := by omega
        have hx0 : 0 ≤ xn := by omega
        have hx1 : xn < (os.length : Int) := by omega
        rw [show leafT ⟨4, xn, xs⟩ (objT os d ((os[xn.toNat]?).getD ([], []))) = objT os d os[j] by simp [leafT, hxj, hj]] at HNX
        clear hxn
        obtain ⟨g, oc, hvo, -, hg, hoc, hcell⟩ := row_cells HH.out.hp.objs (by omega)
        have hocm : oc ≤ maxLen := by obtain ⟨b9, oc9, hvo9, -, hocm⟩ := own_val HH.out.hp.objs; rw [hvo] at hvo9; simp only [Value.slice.injEq] at hvo9; rw [hvo9.2.2]; exact hocm
        subst hvo
        have hgB : g < B := HH.out.hp.so g rfl
        have hhB : h < B := HH.out.hp.sh
        obtain ⟨-, -, ch2, -, -⟩ := cells4 HH.out.hp.blk
        obtain ⟨a0, a1, a2⟩ := objC_at 0 os j hj
        have e0 := hcell _ _ a0
        have e1 := hcell _ _ a1
        have e2 := hcell _ _ a2
        rw [Nat.zero_add] at e1 e2
        have hji : (j : Int) < os.length := by omega
        have hfo : ∃ (tg : List UInt8) (fr up : Int), foundO os j hj = .agg #[.string (strB tg), .int .i64 fr, .int .i64 up] ∧ w.cell? ⟨g, j * 3, none⟩ = some (.string (strB tg)) ∧ w.cell? ⟨g, j * 3 + 1, none⟩ = some (.int .i64 fr) ∧ w.cell? ⟨g, j * 3 + 2, none⟩ = some (.int .i64 up) := ⟨_, _, _, rfl, e0, e1, e2⟩
        obtain ⟨tg, fr, up, hfo, e0, e1, e2⟩ := hfo
        have cO : ∀ W va, Below B w W → OwnB B W va ah → Calls Tryz.prog 56 #[.pointer (some ⟨h, 0, none⟩), va, .int .i64 (d : Int), .agg #[.string (strB tg), .int .i64 fr, .int .i64 up]] W fun e w5 => ∃ v5, e = .returned v5 ∧ Hid (OwnB B w5 v5 (us ++ joinT f (l.take (i + 1)))) ∧ Hid (Below B w w5) := fun W va hW ho => by
          have c := HOB.out B W most os h _ _ (HH.out.on hW) j hj ah va ho.own (by omega)
          rw [hfo] at c
          refine c.mono ?_
          rintro e w5 ⟨v5, rfl, ho5, hb5⟩
          exact ⟨v5, rfl, by show OwnB _ _ _ _; rw [HNX.out]; exact ho5, hW.trans hb5⟩
        clear a0 a1 a2 hcell hfo HX
        rcases Nat.eq_zero_or_pos i with hi0 | hi0
        · subst hi0
          simp only [Nat.zero_mul, Nat.add_zero] at r0 r1 r2
          have HOA : Hid (OwnB B w1 u1 ah) := by show OwnB _ _ _ _; rw [HAH.out]; simpa using HO1.out
          have HBA : Hid (Below B w w1) := HB1.out
          have hsA : w1.heap.size = wr.heap.size + 1 := hs1
          go_wp2_with fail
          have t2 := (below_cell HBA.out hhB).trans ch2
          have t3 := (below_cell HBA.out hgB).trans e0
          have t4 := (below_cell HBA.out hgB).trans e1
          have t5 := (below_cell HBA.out hgB).trans e2
          have cO' : ∀ W, Below w1.heap.size w1 W → Calls Tryz.prog 56 #[.pointer (some ⟨h, 0, none⟩), u1, .int .i64 (d : Int), .agg #[.string (strB tg), .int .i64 fr, .int .i64 up]] W fun e w5 => ∃ v5, e = .returned v5 ∧ Hid (OwnB B w5 v5 (us ++ joinT f (l.take (0 + 1)))) ∧ Hid (Below B w w5) := fun W hW => cO W u1 (HBA.out.trans (hW.mono (by have := HBA.out.size; omega))) (HOA.out.kept hW (Nat.le_refl _))
          have hBd : Below w1.heap.size w1 w1.drew := (Below.refl _ _).drew
          clear cO
          go_region_with (go_at_call 56; refine (cO' _ hBd).mono ?_; rintro e w5 ⟨v5, rfl, HO5, HB5⟩)
          all_goals
            go_wp2
            exact ⟨⟨0 + 1, by omega, by go_num, HO5.out, HB5.out⟩, by simp [intOf]; omega⟩
        · have hi9 : (0 : Int) < (i : Int) := by omega
          have HAH2 : Hid (ah = us ++ joinT f (l.take i) ++ [44, 32]) := by show _ = _; rw [HAH.out, if_neg (by omega)]
          go_wp2_with (at_builtin; refine append_strB rfl _ _ rfl B _ (us ++ joinT f (l.take i)) rfl HO1.out.own [44, 32] rfl (by simp only [List.length_cons, List.length_nil]; omega) (by omega) ?_; intro va wa hownA hgrowA; have HOA : Hid (OwnB B wa va ah) := (by show OwnB _ _ _ _; rw [HAH2.out]; exact hownA); have HBA : Hid (Below B w wa) := HB1.out.grown hgrowA (by omega) (fun q hq => HO1.out.lt q hq); have hsA := hgrowA.size; have hne : some wr.heap.size ≠ u1.ownBlock := (fun e => by obtain ⟨cur, hcu⟩ := own_type HO1.out.own e.symm; rw [HBX.out] at hcu; simp at hcu); have hbxA := (hgrowA.block _ (by omega) hne).trans HBX.out; obtain ⟨pa0, pa1, pa2, -⟩ := cellsH3 hbxA; clear hownA hgrowA hne)
          have t2 := (below_cell HBA.out hhB).trans ch2
          have t3 := (below_cell HBA.out hgB).trans e0
          have t4 := (below_cell HBA.out hgB).trans e1
          have t5 := (below_cell HBA.out hgB).trans e2
          have cO' : ∀ W, Below wa.heap.size wa W → Calls Tryz.prog 56 #[.pointer (some ⟨h, 0, none⟩), va, .int .i64 (d : Int), .agg #[.string (strB tg), .int .i64 fr, .int .i64 up]] W fun e w5 => ∃ v5, e = .returned v5 ∧ Hid (OwnB B w5 v5 (us ++ joinT f (l.take (i + 1)))) ∧ Hid (Below B w w5) := fun W hW => cO W va (HBA.out.trans (hW.mono (by have := HBA.out.size; omega))) (HOA.out.kept hW (Nat.le_refl _))
          have hBd : Below wa.heap.size wa wa.drew := (Below.refl _ _).drew
          clear cO
          go_region_with (go_at_call 56; refine (cO' _ hBd).mono ?_; rintro e w5 ⟨v5, rfl, HO5, HB5⟩)
          all_goals
            go_wp2
            exact ⟨⟨i + 1, by omega, by go_num, HO5.out, HB5.out⟩, by simp [intOf]; omega⟩
      have hk4 : (xk == 4) = false := by rw [beq_eq_false_iff_ne]; exact h4
      rw [show leafT ⟨xk, xn, xs⟩ (objT os d ((os[xn.toNat]?).getD ([], []))) = noneB by simp [leafT, h1, h2, h3, h4]] at HNX
      rcases Nat.eq_zero_or_pos i with hi0 | hi0
      · subst hi0
        simp only [Nat.zero_mul, Nat.add_zero] at r0 r1 r2
        have HOA : Hid (OwnB B w1 u1 ah) := by show OwnB _ _ _ _; rw [HAH.out]; simpa using HO1.out
        have HBA : Hid (Below B w w1) := HB1.out
        have hsA : w1.heap.size = wr.heap.size + 1 := hs1
        go_wp2_with (at_builtin; refine append_strB rfl _ _ rfl B _ ah rfl HOA.out.own noneB rfl (by simp [noneB]; omega) (by have := HBA.out.size; omega) ?_; intro v5 w5 ho5 hg5)
        have HB5 : Hid (Below B w w5) := HBA.out.grown hg5 (by have := HBA.out.size; omega) (fun q hq => HOA.out.lt q hq)
        have HO5 : Hid (OwnB B w5 v5 (us ++ joinT f (l.take (0 + 1)))) := by show OwnB _ _ _ _; rw [HNX.out]; exact ho5
        exact ⟨⟨0 + 1, by omega, by go_num, HO5.out, HB5.out⟩, by simp [intOf]; omega⟩
      · have hi9 : (0 : Int) < (i : Int) := by omega
        have HAH2 : Hid (ah = us ++ joinT f (l.take i) ++ [44, 32]) := by show _ = _; rw [HAH.out, if_neg (by omega)]
        go_wp2_with (first | (at_builtin; refine append_strB rfl _ _ rfl B _ (us ++ joinT f (l.take i)) rfl HO1.out.own [44, 32] rfl (by simp only [List.length_cons, List.length_nil]; omega) (by omega) ?_; intro va wa hownA hgrowA; have HOA : Hid (OwnB B wa va ah) := (by show OwnB _ _ _ _; rw [HAH2.out]; exact hownA); have HBA : Hid (Below B w wa) := HB1.out.grown hgrowA (by omega) (fun q hq => HO1.out.lt q hq); have hsA := hgrowA.size; have hne : some wr.heap.size ≠ u1.ownBlock := (fun e => by obtain ⟨cur, hcu⟩ := own_type HO1.out.own e.symm; rw [HBX.out] at hcu; simp at hcu); have hbxA := (hgrowA.block _ (by omega) hne).trans HBX.out; obtain ⟨pa0, pa1, pa2, -⟩ := cellsH3 hbxA; clear hownA hgrowA hne) | (at_builtin; refine append_strB rfl _ _ rfl B _ ah rfl HOA.out.own noneB rfl (by simp [noneB]; omega) (by have := HBA.out.size; omega) ?_; intro v5 w5 ho5 hg5))
        have HB5 : Hid (Below B w w5) := HBA.out.grown hg5 (by have := HBA.out.size; omega) (fun q hq => HOA.out.lt q hq)
        have HO5 : Hid (OwnB B w5 v5 (us ++ joinT f (l.take (i + 1)))) := by show OwnB _ _ _ _; rw [HNX.out]; exact ho5
        exact ⟨⟨i + 1, by omega, by go_num, HO5.out, HB5.out⟩, by simp [intOf]; omega⟩
    · obtain rfl : i = l.length := by omega
      have hi2 : ¬ (l.length : Int) < l.length := by omega
      have HOL : Hid (OwnB B wr u1 (us ++ joinT f l)) := by
        have := HO.out
        rwa [List.take_length] at this
      go_wp2
      go_ret
      exact ⟨u1, rfl, HOL.out, HB.out⟩
end Go.Proofs.YtchpmnmngeebjaaGreatDoor
