/- heap: cells, objects that may be, values made anew; New. -/
import Derived.Test.YtbdgniiafdjmiaaGreatDoorHCheck
import Derived.Laws.MakeOwn
namespace Go.Proofs.YtbdgniiafdjmiaaGreatDoor
open Go.RowKit Go.Shelf

set_option maxRecDepth 100000 in
theorem info_val : (Tryz.prog.info? 54).map (fun i => (i.zero, i.size, i.bytes)) = some (some (.agg #[.int .i64 0, .int .i64 0, .string ⟨#[]⟩]), 3, 32) := by kernel_rfl
set_option maxRecDepth 100000 in
theorem info_obj : (Tryz.prog.info? 167).map (fun i => (i.zero, i.size, i.bytes)) = some (some (.agg #[.string ⟨#[]⟩, .int .i64 0, .int .i64 0]), 3, 32) := by kernel_rfl

set_option maxRecDepth 100000 in
set_option maxHeartbeats 2000000 in
theorem isCell_any (v : Vl) (n : Int) (w : World) (hv : smallV v) (ht : TabsP w) :
    Calls Tryz.prog 118 #[vlV v, .int .i64 n] w fun e w' => e = .returned (.bool (cellV v n)) ∧ Below w.heap.size w w' := by
  have HR : Hid (cellV v n = (decide (v.k ≠ 0) && rightV v n)) := rfl
  have c := fun wx (h : TabsP wx) => check_any v n wx hv h
  obtain ⟨k, m, s⟩ := v
  obtain ⟨w1, hw1⟩ : ∃ w1, w1 = w.alloc (.cells #[.int .i64 k, .int .i64 m, .string (strB s)] 54) := ⟨_, rfl⟩
  have hb1 : Below w.heap.size w w1 := by rw [hw1]; exact (Below.refl _ w).alloc (Nat.le_refl _) _
  have hz1 : w1.heap.size = w.heap.size + 1 := by rw [hw1]; simp
  have c1 := c w1 (ht.below hb1 (Nat.le_refl _))
  have HB1 : Hid (Below w.heap.size w w1) := hb1
  rw [hw1] at c1
  clear c hb1 ht
  by_cases h0 : k = 0
  · subst h0
    clear c1
    go_enter Tryz.func118, Tryz.ntmps118
    go_wp2
    go_ret
    rw [HR.out, ← hw1]
    exact ⟨rfl, HB1.out⟩
  · have hkb : (k != 0) = true := by rw [bne_iff_ne]; exact h0
    have HK : Hid (decide (k ≠ 0) = true) := decide_eq_true h0
    generalize rightV ⟨k, m, s⟩ n = b at *
    go_enter Tryz.func118, Tryz.ntmps118
    go_wp2_with fail
    refine c1.mono ?_
    clear c1
    rw [← hw1]
    rintro e w2 ⟨rfl, hb2⟩
    have HB2 : Hid (Below w.heap.size w w2) := HB1.out.trans (hb2.mono (by omega))
    clear hb2 hw1
    cases b with
    | true =>
      rw [show errR true = 0 from rfl]
      go_wp2
      go_ret
      rw [HR.out, HK.out]
      exact ⟨rfl, HB2.out⟩
    | false =>
      rw [show errR false = 2 from rfl]
      go_wp2
      go_ret
      rw [HR.out, HK.out]
      exact ⟨rfl, HB2.out⟩

theorem all_take_false {l : List Vl} {f : Vl → Bool} {i : Nat} (h : i < l.length) (hf : f l[i] = false) : l.all f = false := by
  rw [List.all_eq_false]
  exact ⟨l[i], List.getElem_mem h, by simp [hf]⟩

set_option maxRecDepth 100000 in
set_option maxHeartbeats 4000000 in
theorem mayBe_any (S : Nat → Prop) (o : Ob) (vc : Value) (n : Int) (w : World) (hv : valsIn S w vc o.2) (ho : smallO o) (hl : o.2.length ≤ 1048576) (ht : TabsP w) :
    Calls Tryz.prog 104 #[.agg #[.string (strB o.1), vc], .int .i64 n] w fun e w' => e = .returned (.bool (obB o n)) ∧ Below w.heap.size w w' := by
  obtain ⟨tag, l⟩ := o
  obtain ⟨htg, hsm⟩ := ho
  simp only at htg hsm hl hv
  have HR : Hid (obB (tag, l) n = (l.all (fun v => cellV v n) && tagB tag)) := rfl
  have HS : Hid (∀ v ∈ l, smallV v) := hsm
  have HV : Hid (valsIn S w vc l) := hv
  obtain ⟨base, cap, rfl, hc1, hc2, hat⟩ := hv.at
  have HAT : Hid (∀ i (hi : i < l.length), ∃ b o, base = some ⟨b, o, none⟩ ∧ S b ∧ b < w.heap.size ∧ w.cell? ⟨b, o + i * 3, none⟩ = some (.int .i64 (l[i]).k) ∧ w.cell? ⟨b, o + i * 3 + 1, none⟩ = some (.int .i64 (l[i]).n) ∧ w.cell? ⟨b, o + i * 3 + 2, none⟩ = some (.string (strB (l[i]).s))) := hat
  obtain ⟨w1, hw1⟩ : ∃ w1, w1 = w.alloc (.cells #[.string (strB tag), .slice base l.length cap] 51) := ⟨_, rfl⟩
  have hb1 : Below w.heap.size w w1 := by rw [hw1]; exact (Below.refl _ w).alloc (Nat.le_refl _) _
  have hz1 : w1.heap.size = w.heap.size + 1 := by rw [hw1]; simp
  have hq0 : w1.cell? ⟨w.heap.size, 0, none⟩ = some (.string (strB tag)) := by rw [hw1]; simp
  have HT : Hid (TabsP w1) := ht.below hb1 (Nat.le_refl _)
  have HB1 : Hid (Below w.heap.size w w1) := hb1
  have HQ0 : Hid (w1.cell? ⟨w.heap.size, 0, none⟩ = some (.string (strB tag))) := hq0
  clear hb1 ht hat hv hsm hq0
  go_enter Tryz.func104, Tryz.ntmps104
  go_wp2
  rw [← hw1]
  clear hw1
  go_loopw [10] (fun vi wr => ∃ i : Nat, i ≤ l.length ∧ vi = .int .i64 i ∧ (∀ j (h : j < l.length), j < i → cellV l[j] n = true) ∧ Below w1.heap.size w1 wr) (fun vi _ => l.length - (intOf vi).toNat)
  case atStart => exact ⟨0, Nat.zero_le _, rfl, fun j _ h => by omega, Below.refl _ _⟩
  case round =>
    obtain ⟨i, hi, rfl, hall, hbw⟩ := hrel
    have HA : Hid (∀ j (h : j < l.length), j < i → cellV l[j] n = true) := hall
    have HB : Hid (Below w1.heap.size w1 wr) := hbw
    have hszw := hbw.size
    clear hall hbw
    by_cases hlt : i < l.length
    · obtain ⟨b, o, rfl, -, hbl, q0, q1, q2⟩ := HAT.out i hlt
      have hi2 : (i : Int) < l.length := by omega
      have r0 := (below_cell HB.out (by omega)).trans ((below_cell HB1.out hbl).trans q0)
      have r1 := (below_cell HB.out (by omega)).trans ((below_cell HB1.out hbl).trans q1)
      have r2 := (below_cell HB.out (by omega)).trans ((below_cell HB1.out hbl).trans q2)
      obtain ⟨x, hx⟩ : ∃ x, x = l[i] := ⟨_, rfl⟩
      have hxs := HS.out l[i] (List.getElem_mem hlt)
      have HX : Hid (x = l[i]) := hx
      rw [← hx] at r0 r1 r2 hxs
      obtain ⟨w2, hw2⟩ : ∃ w2, w2 = wr.alloc (.cells #[.int .i64 x.k, .int .i64 x.n, .string (strB x.s)] 54) := ⟨_, rfl⟩
      have hb2 : Below w1.heap.size w1 w2 := by rw [hw2]; exact HB.out.alloc hszw _
      have hz2 : w2.heap.size = wr.heap.size + 1 := by rw [hw2]; simp
      have c := isCell_any x n w2 hxs (HT.out.below hb2 (Nat.le_refl _))
      have HB2 : Hid (Below w1.heap.size w1 w2) := hb2
      rw [hw2] at c
      clear hb2 q0 q1 q2 hx hxs HB
      cases hc : cellV x n with
      | true =>
        rw [hc] at c
        have HC : Hid (cellV x n = true) := hc
        clear hc
        go_wp2_with fail
        refine c.mono ?_
        clear c
        rw [← hw2]
        rintro e w3 ⟨rfl, hb3⟩
        have HB3 : Hid (Below w1.heap.size w1 w3) := HB2.out.trans (hb3.mono (by omega))
        clear hb3
        go_wp2
        refine ⟨⟨i + 1, by omega, by go_num, fun j hj hji => ?_, HB3.out⟩, by simp [intOf]; omega⟩
        by_cases h : j < i
        · exact HA.out j hj h
        · obtain rfl : j = i := by omega
          rw [← HX.out]; exact HC.out
      | false =>
        rw [hc] at c
        have HC : Hid (l.all (fun v => cellV v n) = false) := all_take_false hlt (by rw [← HX.out]; exact hc)
        clear hc
        go_wp2_with fail
        refine c.mono ?_
        clear c
        rw [← hw2]
        rintro e w3 ⟨rfl, hb3⟩
        have HB3 : Hid (Below w.heap.size w w3) := HB1.out.trans ((HB2.out.trans (hb3.mono (by omega))).mono (by omega))
        clear hb3
        go_wp2
        go_ret
        rw [HR.out, HC.out]
        exact ⟨rfl, HB3.out⟩
    · obtain rfl : i = l.length := by omega
      have hi2 : ¬ (l.length : Int) < l.length := by omega
      have HC : Hid (l.all (fun v => cellV v n) = true) := show _ = _ by
        rw [List.all_eq_true]
        intro x hx
        obtain ⟨j, hj, rfl⟩ := List.getElem_of_mem hx
        exact HA.out j hj hj
      have r0 := (below_cell HB.out (by omega)).trans HQ0.out
      by_cases htn : tag = []
      · subst htn
        have HTG : Hid (tagB [] = true) := rfl
        go_wp2
        go_ret
        rw [HR.out, HC.out, HTG.out]
        exact ⟨rfl, HB1.out.trans (HB.out.mono (by omega))⟩
      · have c := isWritten_any 1 tag wr htg (HT.out.below HB.out (Nat.le_refl _))
        have HTG : Hid (tagB tag = decide (backB 1 0 tag)) := show _ = _ by simp [tagB, htn]
        generalize decide (backB 1 0 tag) = b at *
        obtain ⟨a, t, rfl⟩ := List.exists_cons_of_ne_nil htn
        go_wp2_with fail
        refine c.mono ?_
        clear c
        rintro e w3 ⟨rfl, hb3⟩
        have HB3 : Hid (Below w.heap.size w w3) := HB1.out.trans ((HB.out.trans (hb3.mono (by omega))).mono (by omega))
        clear hb3
        go_wp2
        go_ret
        rw [HR.out, HC.out, HTG.out]
        exact ⟨rfl, HB3.out⟩
end Go.Proofs.YtbdgniiafdjmiaaGreatDoor
