import Derived.Test.YtchpmnmngeebjaaGreatDoorHMake
import Derived.Test.YtchpmnmngeebjaaGreatDoorXRefs
import Derived.Test.YtchpmnmngeebjaaGreatDoorHDone
import Derived.Test.YtchpmnmngeebjaaGreatDoorHSame
import Derived.Test.YtchpmnmngeebjaaGreatDoorHShowMath
import Derived.Test.YtchpmnmngeebjaaGreatDoorWMix
import Derived.Deep.DeepCutAuto
import Derived.Deep.Slices
import Derived.Test.YtchpmnmngeebjaaGreatDoorHCopy
import Derived.Test.YtchpmnmngeebjaaGreatDoorHGet
/- heap: the document's own words of values: is one right, are cells. -/
namespace Go.Proofs.YtchpmnmngeebjaaGreatDoor
open Go.RowKit Go.Shelf

theorem back_str (s : List UInt8) : backB 3 0 s ↔ plainQ s = true := by
  have h := tkB_refT 3 0 s (by omega)
  unfold tkB refT at h
  constructor
  · intro hb
    rw [if_pos hb] at h
    by_cases hp : plainQ s = true
    · exact hp
    · simp [hp] at h
  · intro hp
    by_cases hb : backB 3 0 s
    · exact hb
    · rw [if_neg hb] at h; simp [hp] at h
theorem back_strD (s : List UInt8) : decide (backB 3 0 s) = plainQ s := by
  cases h : plainQ s with
  | true => exact decide_eq_true ((back_str s).2 h)
  | false => exact decide_eq_false fun hb => by rw [(back_str s).1 hb] at h; cases h
theorem back_nameD (s : List UInt8) : decide (backB 1 0 s) = nameQ s := by
  have hb : backB 1 0 s ↔ nameQ s = true := by rw [back_plain (by omega) (by omega)]; simp
  cases h : nameQ s with
  | true => exact decide_eq_true (hb.2 h)
  | false => exact decide_eq_false fun h9 => by rw [hb.1 h9] at h; cases h

set_option maxRecDepth 100000 in
set_option maxHeartbeats 4000000 in
theorem refRight_any (v : Vl) (n : Int) (w : World) (hv : smallV v) :
    Calls Tryz.prog 32 #[vlV v, .int .i64 n] w fun e w' => e = .returned (.bool (rightV v n)) ∧ Below w.heap.size w w' := by
  obtain ⟨k, m, s⟩ := v
  have hs1 : s.length ≤ 1048576 := hv.2
  clear hv
  by_cases h0 : k = 0
  · subst h0
    by_cases hm : m = 0
    · subst hm
      by_cases hs : s = []
      · subst hs
        have HR : Hid (rightV ⟨0, 0, []⟩ n = true) := show _ = _ by simp [rightV]
        go_enter Tryz.func32, Tryz.ntmps32
        go_wp2
        go_ret
        rw [HR.out]
        exact ⟨rfl, (Below.refl _ w).alloc (Nat.le_refl _) _⟩
      · obtain ⟨a, t, rfl⟩ := List.exists_cons_of_ne_nil hs
        have HR : Hid (rightV ⟨0, 0, a :: t⟩ n = false) := show _ = _ by simp [rightV]
        go_enter Tryz.func32, Tryz.ntmps32
        go_wp2
        go_ret
        rw [HR.out]
        exact ⟨rfl, (Below.refl _ w).alloc (Nat.le_refl _) _⟩
    · have hmb : (m == 0) = false := by rw [beq_eq_false_iff_ne]; exact hm
      have HR : Hid (rightV ⟨0, m, s⟩ n = false) := show _ = _ by simp [rightV, hm]
      go_enter Tryz.func32, Tryz.ntmps32
      go_wp2
      go_ret
      rw [HR.out]
      exact ⟨rfl, (Below.refl _ w).alloc (Nat.le_refl _) _⟩
  have hk0 : (k == 0) = false := by rw [beq_eq_false_iff_ne]; exact h0
  by_cases h1 : k = 1
  · subst h1
    clear hk0
    by_cases hs : s = []
    · subst hs
      have HR : Hid (rightV ⟨1, m, []⟩ n = true) := show _ = _ by simp [rightV]
      go_enter Tryz.func32, Tryz.ntmps32
      go_wp2
      go_ret
      rw [HR.out]
      exact ⟨rfl, (Below.refl _ w).alloc (Nat.le_refl _) _⟩
    · obtain ⟨a, t, rfl⟩ := List.exists_cons_of_ne_nil hs
      have HR : Hid (rightV ⟨1, m, a :: t⟩ n = false) := show _ = _ by simp [rightV]
      go_enter Tryz.func32, Tryz.ntmps32
      go_wp2
      go_ret
      rw [HR.out]
      exact ⟨rfl, (Below.refl _ w).alloc (Nat.le_refl _) _⟩
  have hk1 : (k == 1) = false := by rw [beq_eq_false_iff_ne]; exact h1
  by_cases h2 : k = 2
  · subst h2
    clear hk0 hk1
    by_cases hs : s = []
    · subst hs
      by_cases hm : m = 0
      · subst hm
        have HR : Hid (rightV ⟨2, 0, []⟩ n = true) := show _ = _ by simp [rightV, *]
        go_enter Tryz.func32, Tryz.ntmps32
        go_wp2
        go_ret
        rw [HR.out]
        exact ⟨rfl, (Below.refl _ w).alloc (Nat.le_refl _) _⟩
      have hm0 : (m == 0) = false := by rw [beq_eq_false_iff_ne]; exact hm
      by_cases hm1 : m = 1
      · subst hm1
        clear hm0
        have HR : Hid (rightV ⟨2, 1, []⟩ n = true) := show _ = _ by simp [rightV, *]
        go_enter Tryz.func32, Tryz.ntmps32
        go_wp2
        go_ret
        rw [HR.out]
        exact ⟨rfl, (Below.refl _ w).alloc (Nat.le_refl _) _⟩
      have hm2 : (m == 1) = false := by rw [beq_eq_false_iff_ne]; exact hm1
      have HR : Hid (rightV ⟨2, m, []⟩ n = false) := show _ = _ by simp [rightV, *]
      go_enter Tryz.func32, Tryz.ntmps32
      go_wp2
      go_ret
      rw [HR.out]
      exact ⟨rfl, (Below.refl _ w).alloc (Nat.le_refl _) _⟩
    · obtain ⟨a, t, rfl⟩ := List.exists_cons_of_ne_nil hs
      have HR : Hid (rightV ⟨2, m, a :: t⟩ n = false) := show _ = _ by simp [rightV, *]
      go_enter Tryz.func32, Tryz.ntmps32
      go_wp2
      go_ret
      rw [HR.out]
      exact ⟨rfl, (Below.refl _ w).alloc (Nat.le_refl _) _⟩
  have hk2 : (k == 2) = false := by rw [beq_eq_false_iff_ne]; exact h2
  by_cases h3 : k = 3
  · subst h3
    clear hk0 hk1 hk2
    by_cases hm : m = 0
    · subst hm
      obtain ⟨w1, hw1⟩ : ∃ w1, w1 = w.alloc (.cells #[.int .i64 3, .int .i64 0, .string (strB s)] 25) := ⟨_, rfl⟩
      have hb1 : Below w.heap.size w w1 := by rw [hw1]; exact (Below.refl _ w).alloc (Nat.le_refl _) _
      have hz1 : w1.heap.size = w.heap.size + 1 := by rw [hw1]; simp
      have c := refPlain_any s w1 (by omega)
      have HB1 : Hid (Below w.heap.size w w1) := hb1
      have HR : Hid (rightV ⟨3, 0, s⟩ n = plainQ s) := show _ = _ by rw [← back_strD]; simp [rightV]
      generalize plainQ s = b at *
      rw [hw1] at c
      clear hb1
      go_enter Tryz.func32, Tryz.ntmps32
      go_wp2_with fail
      refine c.mono ?_
      clear c
      rw [← hw1]
      rintro e w2 ⟨rfl, rfl⟩
      have HB2 : Hid (Below w.heap.size w w1) := HB1.out
      clear hw1
      cases b with
      | true =>
        go_wp2
        go_ret
        rw [HR.out]
        exact ⟨rfl, HB2.out⟩
      | false =>
        go_wp2
        go_ret
        rw [HR.out]
        exact ⟨rfl, HB2.out⟩
    · have hmb : (m == 0) = false := by rw [beq_eq_false_iff_ne]; exact hm
      have HR : Hid (rightV ⟨3, m, s⟩ n = false) := show _ = _ by simp [rightV, hm]
      go_enter Tryz.func32, Tryz.ntmps32
      go_wp2
      go_ret
      rw [HR.out]
      exact ⟨rfl, (Below.refl _ w).alloc (Nat.le_refl _) _⟩
  have hk3 : (k == 3) = false := by rw [beq_eq_false_iff_ne]; exact h3
  by_cases h4 : k = 4
  · subst h4
    clear hk0 hk1 hk2 hk3
    by_cases hs : s = []
    · subst hs
      by_cases hm : 0 ≤ m
      · by_cases hn : m < n
        · have HR : Hid (rightV ⟨4, m, []⟩ n = true) := show _ = _ by simp [rightV, hm, hn]
          go_enter Tryz.func32, Tryz.ntmps32
          go_wp2
          go_ret
          rw [HR.out]
          exact ⟨rfl, (Below.refl _ w).alloc (Nat.le_refl _) _⟩
        · have HR : Hid (rightV ⟨4, m, []⟩ n = false) := show _ = _ by simp [rightV]; omega
          go_enter Tryz.func32, Tryz.ntmps32
          go_wp2
          go_ret
          rw [HR.out]
          exact ⟨rfl, (Below.refl _ w).alloc (Nat.le_refl _) _⟩
      · have HR : Hid (rightV ⟨4, m, []⟩ n = false) := show _ = _ by simp [rightV]; omega
        go_enter Tryz.func32, Tryz.ntmps32
        go_wp2
        go_ret
        rw [HR.out]
        exact ⟨rfl, (Below.refl _ w).alloc (Nat.le_refl _) _⟩
    · obtain ⟨a, t, rfl⟩ := List.exists_cons_of_ne_nil hs
      have HR : Hid (rightV ⟨4, m, a :: t⟩ n = false) := show _ = _ by simp [rightV, *]
      go_enter Tryz.func32, Tryz.ntmps32
      go_wp2
      go_ret
      rw [HR.out]
      exact ⟨rfl, (Below.refl _ w).alloc (Nat.le_refl _) _⟩
  have hk4 : (k == 4) = false := by rw [beq_eq_false_iff_ne]; exact h4
  have HR : Hid (rightV ⟨k, m, s⟩ n = false) := show _ = _ by simp [rightV, h0, h1, h2, h3, h4]
  go_enter Tryz.func32, Tryz.ntmps32
  go_wp2
  go_ret
  rw [HR.out]
  exact ⟨rfl, (Below.refl _ w).alloc (Nat.le_refl _) _⟩
end Go.Proofs.YtchpmnmngeebjaaGreatDoor
/- heap: the document's own words: cells, New, Used, own. -/
namespace Go.Proofs.YtchpmnmngeebjaaGreatDoor
open Go.RowKit Go.Shelf

set_option maxRecDepth 100000 in
set_option maxHeartbeats 4000000 in
theorem refCells_any (S : Nat → Prop) (l : List Vl) (v : Value) (n : Int) (w : World) (hv : valsIn S w v l) (hs : ∀ x ∈ l, smallV x) (hl : l.length ≤ 1048576) :
    Calls Tryz.prog 51 #[v, .int .i64 n] w fun e w' => e = .returned (.bool (l.all fun x => cellV x n)) ∧ Below w.heap.size w w' := by
  obtain ⟨base, cap, rfl, hc1, hc2, hat⟩ := hv.at
  have HAT : Hid (∀ i (hi : i < l.length), ∃ b o, base = some ⟨b, o, none⟩ ∧ S b ∧ b < w.heap.size ∧ w.cell? ⟨b, o + i * 3, none⟩ = some (.int .i64 (l[i]).k) ∧ w.cell? ⟨b, o + i * 3 + 1, none⟩ = some (.int .i64 (l[i]).n) ∧ w.cell? ⟨b, o + i * 3 + 2, none⟩ = some (.string (strB (l[i]).s))) := hat
  have HS : Hid (∀ x ∈ l, smallV x) := hs
  clear hv hat hs
  go_enter Tryz.func51, Tryz.ntmps51
  go_wp2
  go_loopw [5] (fun vi wr => ∃ i : Nat, i ≤ l.length ∧ vi = .int .i64 i ∧ (∀ j (h : j < l.length), j < i → cellV l[j] n = true) ∧ Below w.heap.size w wr) (fun vi _ => l.length - (intOf vi).toNat)
  case atStart => exact ⟨0, Nat.zero_le _, rfl, fun j _ h => by omega, Below.refl _ _⟩
  case round =>
    obtain ⟨i, hi, rfl, hall, hbw⟩ := hrel
    have HA : Hid (∀ j (h : j < l.length), j < i → cellV l[j] n = true) := hall
    have HB : Hid (Below w.heap.size w wr) := hbw
    have hsw := hbw.size
    clear hall hbw
    by_cases hlt : i < l.length
    · obtain ⟨b, o, rfl, -, hbl, q0, q1, q2⟩ := HAT.out i hlt
      have hi2 : (i : Int) < l.length := by omega
      have r0 := (below_cell HB.out hbl).trans q0
      have r1 := (below_cell HB.out hbl).trans q1
      have r2 := (below_cell HB.out hbl).trans q2
      have hxs := HS.out l[i] (List.getElem_mem hlt)
      obtain ⟨x, hx⟩ : ∃ x, x = l[i] := ⟨_, rfl⟩
      have HX : Hid (x = l[i]) := hx
      rw [← hx] at r0 r1 r2 hxs
      have c := refRight_any x n wr hxs
      have HCV : Hid (cellV x n = (decide (x.k ≠ 0) && rightV x n)) := rfl
      clear q0 q1 q2 hx hxs
      cases hr : rightV x n with
      | false =>
        rw [hr] at c
        have HC : Hid (l.all (fun v => cellV v n) = false) := all_take_false hlt (by rw [← HX.out, HCV.out, hr]; simp)
        clear hr HX HCV
        obtain ⟨xk, xn, xs⟩ := x
        go_wp2_with fail
        refine c.mono ?_
        clear c
        rintro e w3 ⟨rfl, hb3⟩
        have HB3 : Hid (Below w.heap.size w w3) := HB.out.trans (hb3.mono hsw)
        clear hb3
        go_wp2
        go_ret
        rw [HC.out]
        exact ⟨rfl, HB3.out⟩
      | true =>
        rw [hr] at c
        rw [hr] at HCV
        clear hr
        obtain ⟨xk, xn, xs⟩ := x
        simp only at r0 r1 r2
        go_wp2_with fail
        refine c.mono ?_
        clear c
        rintro e w3 ⟨rfl, hb3⟩
        have HB3 : Hid (Below w.heap.size w w3) := HB.out.trans (hb3.mono hsw)
        have hk3 := (below_cell hb3 (by omega)).trans r0
        clear hb3 r0 r1 r2
        by_cases h0 : xk = 0
        · subst h0
          have HC : Hid (l.all (fun v => cellV v n) = false) := all_take_false hlt (by rw [← HX.out, HCV.out]; rfl)
          clear HX HCV
          go_wp2
          go_ret
          rw [HC.out]
          exact ⟨rfl, HB3.out⟩
        · have hkb : (xk == 0) = false := by rw [beq_eq_false_iff_ne]; exact h0
          have HC : Hid (cellV l[i] n = true) := by show _ = _; rw [← HX.out, HCV.out]; simp [h0]
          clear HX HCV
          go_wp2
          refine ⟨⟨i + 1, by omega, by go_num, fun j hj hji => ?_, HB3.out⟩, by simp [intOf]; omega⟩
          by_cases h : j < i
          · exact HA.out j hj h
          · obtain rfl : j = i := by omega
            exact HC.out
    · obtain rfl : i = l.length := by omega
      have hi2 : ¬ (l.length : Int) < l.length := by omega
      have HC : Hid (l.all (fun v => cellV v n) = true) := show _ = _ by
        rw [List.all_eq_true]
        intro x hx
        obtain ⟨j, hj, rfl⟩ := List.getElem_of_mem hx
        exact HA.out j hj hj
      go_wp2
      go_ret
      rw [HC.out]
      exact ⟨rfl, HB.out⟩

/-- The document's heap. -/
abbrev rhV (m : Nat) (v : Value) : Value := .agg #[.int .i64 (m : Int), v]

set_option maxRecDepth 100000 in
set_option maxHeartbeats 1000000 in
theorem refNew_any (m : Int) (w : World) :
    Calls Tryz.prog 5 #[.int .i64 m] w fun e w' => e = .returned (rhV (mostN m) (.slice none 0 0)) ∧ Below w.heap.size w w' := by
  have HM : Hid (((mostN m : Nat) : Int) = max 0 (min m 4096)) := by show _ = _; rw [mostN_int]; omega
  go_enter Tryz.func5, Tryz.ntmps5
  go_wp2
  exact bodyPost_ret (v := .agg #[.int .i64 (max 0 (min m 4096)), .slice none 0 0]) (by simp [results, Tryz.results5, go_sem]) rfl ⟨by rw [← HM.out], (Below.refl _ w).alloc (Nat.le_refl _) _⟩

theorem allV_take_le (os : List Ob) (i : Nat) : (allV (os.take i)).length ≤ (allV os).length := by
  have e : os = os.take i ++ os.drop i := (List.take_append_drop i os).symm
  have : (allV os).length = (allV (os.take i)).length + (allV (os.drop i)).length := by
    conv => lhs; rw [e]
    unfold allV
    rw [List.flatMap_append, List.length_append]
  omega

set_option maxRecDepth 100000 in
set_option maxHeartbeats 4000000 in
theorem refUsed_any (S : Nat → Prop) (m : Nat) (os : List Ob) (v : Value) (w : World) (hv : objsIn S w v os) (hu : os.length + (allV os).length ≤ 4398046511104) :
    Calls Tryz.prog 9 #[rhV m v] w fun e w' => e = .returned (.int .i64 ((os.length + (allV os).length : Nat) : Int)) ∧ Below w.heap.size w w' := by
  obtain ⟨base, cap, rfl, hc1, hc2, hat⟩ := hv.at
  have HAT : Hid (∀ i (hi : i < os.length), ∃ b o u, base = some ⟨b, o, none⟩ ∧ S b ∧ b < w.heap.size ∧ w.cell? ⟨b, o + i * 2, none⟩ = some (.string (strB (os[i]).1)) ∧ w.cell? ⟨b, o + i * 2 + 1, none⟩ = some u ∧ valsIn S w u (os[i]).2) := hat
  have HAL : Hid (∀ i, (allV (os.take i)).length ≤ (allV os).length) := allV_take_le os
  have HSN : Hid (∀ i (h : i < os.length), (allV (os.take (i + 1))).length = (allV (os.take i)).length + (os[i]).2.length) := fun i h => by
    rw [List.take_succ_eq_append_getElem h, allV_snoc, List.length_append]
  obtain ⟨M, hM⟩ : ∃ M : Int, M = (m : Int) := ⟨_, rfl⟩
  rw [show rhV m (.slice base os.length cap) = .agg #[.int .i64 M, .slice base os.length cap] by rw [hM]]
  obtain ⟨w1, hw1⟩ : ∃ w1, w1 = w.alloc (.cells #[.int .i64 M, .slice base os.length cap] 30) := ⟨_, rfl⟩
  have hb1 : Below w.heap.size w w1 := by rw [hw1]; exact (Below.refl _ w).alloc (Nat.le_refl _) _
  have hz1 : w1.heap.size = w.heap.size + 1 := by rw [hw1]; simp
  have hbk : w1.heap[w.heap.size]? = some (.cells #[.int .i64 M, .slice base os.length cap] 30 (0, 0)) := by rw [hw1]; exact World.alloc_heap_new _ _
  obtain ⟨-, p1, -⟩ := cellsH2 hbk
  have HP1 : Hid (w1.cell? ⟨w.heap.size, 1, none⟩ = some (.slice base os.length cap)) := p1
  have HB1 : Hid (Below w.heap.size w w1) := hb1
  have HUS : Hid (os.length + (allV os).length ≤ 4398046511104) := hu
  clear hv hat hb1 hbk p1 hM hu
  go_enter Tryz.func9, Tryz.ntmps9
  go_wp2
  rw [← hw1]
  clear hw1
  go_loopw [3, 4] (fun vn vi wr => ∃ i : Nat, i ≤ os.length ∧ vi = .int .i64 i ∧ vn = .int .i64 ((i + (allV (os.take i)).length : Nat) : Int) ∧ Below w1.heap.size w1 wr) (fun _ vi _ => os.length - (intOf vi).toNat)
  case atStart => exact ⟨0, Nat.zero_le _, rfl, by simp [allV], Below.refl _ _⟩
  case round =>
    obtain ⟨i, hi, rfl, rfl, hbw⟩ := hrel
    have HB : Hid (Below w1.heap.size w1 wr) := hbw
    have hsw := hbw.size
    have pr := (below_cell hbw (by omega)).trans HP1.out
    have hal := HAL.out i
    have hus := HUS.out
    clear hbw
    by_cases hlt : i < os.length
    · have hi2 : (i : Int) < os.length := by omega
      obtain ⟨ba, oa, ua, rfl, -, hla, q0, q1, hva⟩ := HAT.out i hlt
      obtain ⟨bu, cu, hua, z1, z2, -⟩ := hva.at
      subst hua
      have t1 := (below_cell HB.out (by omega)).trans ((below_cell HB1.out hla).trans q1)
      have hsn := HSN.out i hlt
      have hal2 := HAL.out (i + 1)
      obtain ⟨A, hA⟩ : ∃ A, A = (allV (os.take i)).length := ⟨_, rfl⟩
      obtain ⟨L, hL⟩ : ∃ L, L = (os[i]).2.length := ⟨_, rfl⟩
      rw [← hL] at t1 z1 hsn
      rw [← hA] at hsn hal
      have HSN1 : Hid ((allV (os.take (i + 1))).length = A + L) := hsn
      rw [hsn] at hal2
      rw [← hA]
      have e1 : IntKind.i64.wrap (((i + A : Nat) : Int) + 1) = ((i + A : Nat) : Int) + 1 := by rw [IntKind.wrap_i64]; omega
      have e2 : IntKind.i64.wrap (((i + A : Nat) : Int) + 1 + (L : Int)) = ((i + A : Nat) : Int) + 1 + (L : Int) := by rw [IntKind.wrap_i64]; omega
      clear q0 q1 hva hsn hL hA
      go_wp2
      exact ⟨⟨i + 1, by omega, by go_num, by rw [HSN1.out]; go_num, HB.out⟩, by simp [intOf]; omega⟩
    · obtain rfl : i = os.length := by omega
      have hi2 : ¬ (os.length : Int) < os.length := by omega
      have HBr : Hid (Below w.heap.size w wr) := HB1.out.trans (HB.out.mono (by omega))
      go_wp2
      go_ret
      exact ⟨rfl, HBr.out⟩

set_option maxRecDepth 100000 in
set_option maxHeartbeats 1000000 in
theorem refOwn06_any (T : Nat → Prop) (l : List Vl) (vl : Value) (w : World) (hv : valsIn T w vl l) (hf : vl = .slice none 0 0 ∨ ∃ ad n c, vl = .slice (some ad) n c) (hl : l.length ≤ 1048576) :
    Calls Tryz.prog 46 #[vl] w fun e w' => ∃ v', e = .returned v' ∧ Hid (w'.ownsRow w.heap.size 25 3 v' l.length (vlC l)) ∧ Below w.heap.size w w' := by
  obtain ⟨i0, hi0, hz0, hz1, hz2⟩ := info_parts info_val
  obtain ⟨base, cap, hvl, hc1, hc2, h3⟩ := hv
  have hl0 : (w.alloc (.cells #[] 25)).ownsRow w.heap.size 25 3 (.slice (some ⟨w.heap.size, 0, none⟩) 0 0) 0 [] := World.ownsRow_made w #[] 0 (Nat.le_refl _) (Nat.zero_le _) rfl
  have HB1 : Hid (Below w.heap.size w (w.alloc (.cells #[] 25))) := (Below.refl _ w).alloc (Nat.le_refl _) _
  rcases hf with rfl | ⟨ad, n, c, rfl⟩
  · simp only [Value.slice.injEq] at hvl
    have hl9 : l = [] := List.length_eq_zero_iff.1 hvl.2.1.symm
    subst hl9
    have HF : Hid ((w.alloc (.cells #[] 25)).ownsRow w.heap.size 25 3 (.slice (some ⟨w.heap.size, 0, none⟩) 0 0) ([] : List Vl).length (vlC [])) := hl0
    clear h3 hvl
    go_enter Tryz.func46, Tryz.ntmps46
    go_wp2_with (at_builtin; refine wpList_append_own_none rfl _ _ 33 rfl w.heap.size 25 i0 3 Tryz.underlying33 hi0 _ 0 [] rfl hl0 rfl ?_)
    go_ret
    exact ⟨_, rfl, HF, HB1.out⟩
  · simp only [Value.slice.injEq] at hvl
    obtain ⟨rfl, rfl, rfl⟩ := hvl
    have hnews : ∀ j u, (vlC l)[j]? = some u → (w.alloc (.cells #[] 25)).cell? (ad.add j) = some u := fun j u hj => by
      rcases h3 with h3 | ⟨b, o, e, -, -, hc⟩
      · subst h3; simp [vlC] at hj
      · simp only [Option.some.injEq] at e
        subst e
        rw [addr_plain]
        exact Lib.cell?_alloc_some _ (hc j u hj)
    clear h3
    go_enter Tryz.func46, Tryz.ntmps46
    go_wp2_with (at_builtin; refine wpList_append_own_at _ rfl _ _ 33 rfl w.heap.size 25 i0 _ 3 32 Tryz.underlying33 hi0 hz0 hz1 hz2 rfl (by decide) _ _ _ rfl hl0 ad l.length c (vlC l) rfl (by rw [vlC_len]) hnews (vl_one l) (by unfold maxLen; omega) (by omega) (by simp) ?_; intro v' w1 hown' hgrow _ hat)
    go_ret
    refine ⟨v', rfl, ?_, HB1.out.grown hgrow (by simp) (fun k hk => (hl0.lt k hk).1)⟩
    rw [Nat.zero_add, List.nil_append] at hown'
    exact hown'

end Go.Proofs.YtchpmnmngeebjaaGreatDoor
/- heap: the document's own showing: digits, a value's text. -/
namespace Go.Proofs.YtchpmnmngeebjaaGreatDoor
open Go.RowKit Go.Shelf

theorem strB_catH (a b : List UInt8) : strB a ++ strB b = strB (a ++ b) := by apply ByteArray.ext; simp [strB]
theorem str_addH (W : World) (a b : List UInt8) (h : a.length + b.length ≤ 9223372036854775807) : (Op.stringOp .add (strB a) (strB b)).run Tryz.prog W = .ok (.string (strB (a ++ b))) W := by
  rw [run_string_add_sum W _ _ (by rw [strB_size, strB_size]; exact h), strB_catH]

set_option maxRecDepth 100000 in
set_option maxHeartbeats 1000000 in
theorem refDig06_any (n : Int) (w : World) (h0 : -9223372036854775808 ≤ n) (h1 : n ≤ 9223372036854775807) :
    Calls Tryz.prog 58 #[.int .i64 n] w fun e w' => e = .returned (.string (strB (Lib.itoa n))) ∧ Below w.heap.size w w' := by
  by_cases hn : n < 0
  · by_cases hm : n = -9223372036854775808
    · subst hm
      have HI : Hid (strB (Lib.itoa (-9223372036854775808)) = ⟨#[45, 57, 50, 50, 51, 51, 55, 50, 48, 51, 54, 56, 53, 52, 55, 55, 53, 56, 48, 56]⟩) := by
        show _ = _
        have : Lib.itoa (-9223372036854775808) = [45, 57, 50, 50, 51, 51, 55, 50, 48, 51, 54, 56, 53, 52, 55, 55, 53, 56, 48, 56] := by
          unfold Lib.itoa
          rw [if_pos (by omega)]
          simp [Lib.decDigits]
        rw [this]
      go_enter Tryz.func58, Tryz.ntmps58
      go_wp2
      go_ret
      rw [HI.out]
      exact ⟨rfl, Below.refl _ _⟩
    · obtain ⟨u, rfl⟩ : ∃ u : Nat, n = -(u : Int) := ⟨n.natAbs, by omega⟩
      have hmb : ((-(u : Int)) == -9223372036854775808) = false := by rw [beq_eq_false_iff_ne]; exact hm
      have c := refDigits_any u w (by omega)
      obtain ⟨T, hT⟩ : ∃ T, T = Lib.decDigits u := ⟨_, rfl⟩
      obtain ⟨L, hL⟩ : ∃ L, L = [45] ++ T := ⟨_, rfl⟩
      have hTl : T.length ≤ 100 := by rw [hT]; exact dec_len u (by omega)
      have HI : Hid (Lib.itoa (-(u : Int)) = L) := by
        show _ = _
        unfold Lib.itoa
        rw [if_pos hn, hL, hT]
        simp
      have ha : ∀ W : World, (Op.stringOp .add ⟨#[45]⟩ (strB T)).run Tryz.prog W = .ok (.string (strB L)) W := fun W => by
        rw [hL]; exact str_addH W [45] T (by simp; omega)
      have e1 : IntKind.i64.wrap (u : Int) = (u : Int) := by rw [IntKind.wrap_i64]; omega
      rw [← hT] at c
      clear hT hL
      go_enter Tryz.func58, Tryz.ntmps58
      go_wp2_with fail
      refine c.mono ?_
      clear c
      rintro e w1 ⟨rfl, hb⟩
      have HB : Hid (Below w.heap.size w w1) := hb
      clear hb
      go_wp2
      go_ret
      rw [HI.out]
      exact ⟨rfl, HB.out⟩
  · obtain ⟨u, rfl⟩ : ∃ u : Nat, n = (u : Int) := ⟨n.toNat, by omega⟩
    have c := refDigits_any u w (by omega)
    have HI : Hid (Lib.itoa (u : Int) = Lib.decDigits u) := by
      show _ = _
      unfold Lib.itoa
      rw [if_neg hn]
      simp
    go_enter Tryz.func58, Tryz.ntmps58
    go_wp2_with fail
    refine c.mono ?_
    clear c
    rintro e w1 ⟨rfl, hb⟩
    have HB : Hid (Below w.heap.size w w1) := hb
    clear hb
    go_wp2
    go_ret
    rw [HI.out]
    exact ⟨rfl, HB.out⟩

/-- Values' texts, as deep as d. -/
def TextAt (d : Nat) : Prop := ∀ (S : Nat → Prop) (m : Nat) (os : List Ob) (v : Value) (x : Vl) (w : World), objsIn S w v os → (∀ o ∈ os, obB o (os.length : Int) = true ∧ smallO o ∧ o.2.length ≤ 1048576) → os.length ≤ 1048576 → rightV x os.length = true → smallV x →
  Calls Tryz.prog 33 #[rhV m v, vlV x, .int .i64 (d : Int)] w fun e w' => e = .returned (.string (strB (txtV os d x))) ∧ Below w.heap.size w w'

abbrev textW (w : World) (M : Int) (v : Value) (x : Vl) : World := (w.alloc (.cells #[.int .i64 M, v] 30)).alloc (.cells #[.int .i64 x.k, .int .i64 x.n, .string (strB x.s)] 25)
theorem textW_facts (w : World) (M : Int) (v : Value) (x : Vl) : (textW w M v x).heap.size = w.heap.size + 2 ∧ Below w.heap.size w (textW w M v x) ∧ (textW w M v x).heap[w.heap.size]? = some (.cells #[.int .i64 M, v] 30 (0, 0)) ∧ (textW w M v x).heap[w.heap.size + 1]? = some (.cells #[.int .i64 x.k, .int .i64 x.n, .string (strB x.s)] 25 (0, 0)) := by
  refine ⟨by simp, ((Below.refl _ w).alloc (Nat.le_refl _) _).alloc (by simp) _, ?_, ?_⟩
  · rw [Below.heap_alloc _ _ _ (by simp)]; exact World.alloc_heap_new _ _
  · have := World.alloc_heap_new (w.alloc (.cells #[.int .i64 M, v] 30)) (.cells #[.int .i64 x.k, .int .i64 x.n, .string (strB x.s)] 25)
    simpa using this

theorem rightV_kinds {x : Vl} {n : Int} (h : rightV x n = true) : x.k = 0 ∨ x.k = 1 ∨ x.k = 2 ∨ (x.k = 3 ∧ backB 3 0 x.s) ∨ (x.k = 4 ∧ 0 ≤ x.n ∧ x.n < n) := by
  unfold rightV at h
  by_cases h0 : x.k = 0
  · exact .inl h0
  rw [if_neg h0] at h
  by_cases h1 : x.k = 1
  · exact .inr (.inl h1)
  rw [if_neg h1] at h
  by_cases h2 : x.k = 2
  · exact .inr (.inr (.inl h2))
  rw [if_neg h2] at h
  by_cases h3 : x.k = 3
  · rw [if_pos h3] at h
    exact .inr (.inr (.inr (.inl ⟨h3, (of_decide_eq_true h).2⟩)))
  rw [if_neg h3] at h
  by_cases h4 : x.k = 4
  · rw [if_pos h4] at h
    exact .inr (.inr (.inr (.inr ⟨h4, (of_decide_eq_true h).1⟩)))
  rw [if_neg h4] at h
  cases h

set_option maxRecDepth 100000 in
set_option maxHeartbeats 4000000 in
/-- What is no object. -/
theorem text_leaf (d : Nat) (m : Nat) (os : List Ob) (v : Value) (x : Vl) (w : World) (hv : smallV x) (hk : x.k = 0 ∨ x.k = 1 ∨ x.k = 2 ∨ (x.k = 3 ∧ backB 3 0 x.s)) :
    Calls Tryz.prog 33 #[rhV m v, vlV x, .int .i64 (d : Int)] w fun e w' => e = .returned (.string (strB (txtV os d x))) ∧ Below w.heap.size w w' := by
  rw [txtV_leaf]
  generalize objT os d ((os[x.n.toNat]?).getD ([], [])) = r
  obtain ⟨M, hM⟩ : ∃ M : Int, M = (m : Int) := ⟨_, rfl⟩
  rw [show rhV m v = .agg #[.int .i64 M, v] by rw [hM]]
  obtain ⟨w1, hw1⟩ : ∃ w1, w1 = textW w M v x := ⟨_, rfl⟩
  obtain ⟨hz, hb, -, hbx⟩ := textW_facts w M v x
  rw [← hw1] at hz hb hbx
  obtain ⟨p0, p1, p2, -⟩ := cellsH3 hbx
  have HB : Hid (Below w.heap.size w w1) := hb
  have hw1' := hw1.symm
  unfold textW at hw1'
  obtain ⟨k, n, s⟩ := x
  obtain ⟨⟨hn0, hn1⟩, hs⟩ := hv
  simp only at hn0 hn1 hs p0 p1 p2 hk hw1'
  clear hM hw1 hbx hb
  rcases hk with rfl | rfl | rfl | ⟨rfl, hbk⟩
  · have HR : Hid (strB (leafT ⟨0, n, s⟩ r) = ⟨#[110, 111, 110, 101]⟩) := by show _ = _; simp [leafT, noneB]
    go_enter Tryz.func33, Tryz.ntmps33
    go_wp2
    go_ret
    rw [HR.out]
    exact ⟨rfl, HB.out⟩
  · have HR : Hid (leafT ⟨1, n, s⟩ r = Lib.itoa n) := by show _ = _; simp [leafT]
    have c := refDig06_any n w1 hn0 hn1
    go_enter Tryz.func33, Tryz.ntmps33
    go_wp2_with fail
    refine c.mono ?_
    clear c
    rintro e w2 ⟨rfl, hb2⟩
    have HB2 : Hid (Below w.heap.size w w2) := HB.out.trans (hb2.mono (by omega))
    clear hb2
    go_wp2
    go_ret
    rw [HR.out]
    exact ⟨rfl, HB2.out⟩
  · by_cases h1 : n = 1
    · subst h1
      have HR : Hid (strB (leafT ⟨2, 1, s⟩ r) = ⟨#[116, 114, 117, 101]⟩) := by show _ = _; simp [leafT, trueB]
      go_enter Tryz.func33, Tryz.ntmps33
      go_wp2
      go_ret
      rw [HR.out]
      exact ⟨rfl, HB.out⟩
    · have hb1 : (n == 1) = false := by rw [beq_eq_false_iff_ne]; exact h1
      have HR : Hid (strB (leafT ⟨2, n, s⟩ r) = ⟨#[102, 97, 108, 115, 101]⟩) := by show _ = _; simp [leafT, falseB, h1]
      go_enter Tryz.func33, Tryz.ntmps33
      go_wp2
      go_ret
      rw [HR.out]
      exact ⟨rfl, HB.out⟩
  · have HR : Hid (leafT ⟨3, n, s⟩ r = quoteB s) := by
      show _ = _
      simp [leafT]
      unfold tkB
      rw [if_pos hbk]
      rfl
    have c := refQuote_any s w1 (by omega)
    clear hbk
    go_enter Tryz.func33, Tryz.ntmps33
    go_wp2_with fail
    refine c.mono ?_
    clear c
    rintro e w2 ⟨rfl, hb2⟩
    have HB2 : Hid (Below w.heap.size w w2) := HB.out.trans (hb2.mono (by omega))
    clear hb2
    go_wp2
    go_ret
    rw [HR.out]
    exact ⟨rfl, HB2.out⟩
end Go.Proofs.YtchpmnmngeebjaaGreatDoor
/- heap: the document's own showing: an object's text; Show. -/
namespace Go.Proofs.YtchpmnmngeebjaaGreatDoor
open Go.RowKit Go.Shelf

set_option maxRecDepth 100000 in
set_option maxHeartbeats 4000000 in
theorem textAt_zero : TextAt 0 := by
  intro S m os v x w hin hos hl hr hx
  rcases rightV_kinds hr with hk | hk | hk | hk | ⟨hk, -⟩
  · exact text_leaf 0 m os v x w hx (.inl hk)
  · exact text_leaf 0 m os v x w hx (.inr (.inl hk))
  · exact text_leaf 0 m os v x w hx (.inr (.inr (.inl hk)))
  · exact text_leaf 0 m os v x w hx (.inr (.inr (.inr hk)))
  · obtain ⟨M, hM⟩ : ∃ M : Int, M = (m : Int) := ⟨_, rfl⟩
    rw [show rhV m v = .agg #[.int .i64 M, v] by rw [hM]]
    have HR : Hid (strB (txtV os 0 x) = ⟨#[46, 46, 46]⟩) := by show _ = _; simp [txtV, leafT, dotsB, hk]
    have HB : Hid (Below w.heap.size w (textW w M v x)) := (textW_facts w M v x).2.1
    obtain ⟨k, n, s⟩ := x
    simp only at hk
    subst hk
    unfold textW at HB
    simp only at HB
    clear hM hin hos hl hr hx
    go_enter Tryz.func33, Tryz.ntmps33
    go_wp2
    go_ret
    rw [HR.out]
    exact ⟨rfl, HB.out⟩

theorem joinT_take (f : Vl → List UInt8) (l : List Vl) (i : Nat) (h : i < l.length) : joinT f (l.take (i + 1)) = joinT f (l.take i) ++ ((if i = 0 then [] else [44, 32]) ++ f l[i]) := by
  rw [List.take_succ_eq_append_getElem h, joinT_snoc]
  congr 2
  by_cases hi : i = 0
  · subst hi; simp
  · rw [if_neg hi, if_neg]
    intro e
    have := congrArg List.length e
    rw [List.length_take, List.length_nil] at this
    omega

set_option maxRecDepth 100000 in
set_option maxHeartbeats 8000000 in
theorem textAt_succ (d : Nat) (hd : d ≤ 1) (hT : TextAt d) : TextAt (d + 1) := by
  intro S m os v x w hin hos hl hr hx
  rcases rightV_kinds hr with hk | hk | hk | hk | ⟨hk, hj0, hj1⟩
  · exact text_leaf _ m os v x w hx (.inl hk)
  · exact text_leaf _ m os v x w hx (.inr (.inl hk))
  · exact text_leaf _ m os v x w hx (.inr (.inr (.inl hk)))
  · exact text_leaf _ m os v x w hx (.inr (.inr (.inr hk)))
  obtain ⟨k, n, s⟩ := x
  simp only at hk hj0 hj1
  subst hk
  obtain ⟨j, rfl⟩ : ∃ j : Nat, n = j := ⟨n.toNat, by omega⟩
  have hj : j < os.length := by omega
  have hji : (j : Int) < (os.length : Int) := hj1
  have hsm := hos os[j] (List.getElem_mem hj)
  obtain ⟨o, ho⟩ : ∃ o, o = os[j] := ⟨_, rfl⟩
  rw [← ho] at hsm
  obtain ⟨hob, hso, hol⟩ := hsm
  have hcells : ∀ u ∈ o.2, rightV u os.length = true ∧ smallV u := fun u hu => by
    unfold obB at hob
    rw [Bool.and_eq_true, List.all_eq_true] at hob
    have := hob.1 u hu
    unfold cellV at this
    rw [Bool.and_eq_true] at this
    exact ⟨this.2, hso.2 u hu⟩
  have hN : bndT d ≤ 33000000 := by
    rcases Nat.le_one_iff_eq_zero_or_eq_one.1 hd with rfl | rfl <;> simp [bndT]
  have hTl : ∀ u ∈ o.2, (txtV os d u).length ≤ 33000000 := fun u hu => Nat.le_trans (txtV_len (fun o ho => (hos o ho).2.1) d u (hcells u hu).2) hN
  obtain ⟨F, hF⟩ : ∃ F, F = joinT (txtV os d) (o.2.take 8) ++ (if 8 < o.2.length then [44, 32, 46, 46, 46] else []) := ⟨_, rfl⟩
  have hJ : ∀ i, i ≤ 8 → (joinT (txtV os d) (o.2.take i)).length ≤ 300000000 := fun i hi => by
    have h1 := joinT_len (f := txtV os d) (N := 33000000) (o.2.take i) fun u hu => hTl u (List.mem_of_mem_take hu)
    have h2 : (o.2.take i).length ≤ 8 := by rw [List.length_take]; omega
    omega
  have hFl : F.length ≤ 300000005 := by
    rw [hF, List.length_append]
    have := hJ 8 (Nat.le_refl _)
    have : (if 8 < o.2.length then [(44 : UInt8), 32, 46, 46, 46] else []).length ≤ 5 := by split <;> simp
    omega
  have hres : txtV os (d + 1) ⟨4, (j : Int), s⟩ = (if o.1 = [] then [91] else o.1 ++ [40]) ++ F ++ (if o.1 = [] then [93] else [41]) := by
    show leafT _ _ = _
    simp only [leafT]
    rw [if_neg (by omega), if_neg (by omega), if_neg (by omega)]
    simp only [if_true, Int.toNat_natCast, List.getElem?_eq_getElem hj, Option.getD_some]
    rw [← ho, hF]
    unfold obT
    simp only [List.append_assoc]
  -- memory
  obtain ⟨base, cap, rfl, hc1, hc2, hat⟩ := hin.at
  obtain ⟨bo, oo, u, rfl, -, hlo, q0, q1, hvo⟩ := hat j hj
  rw [← ho] at q0 hvo
  obtain ⟨bu, cu, rfl, hu1, hu2, hel⟩ := hvo.at
  obtain ⟨M, hM⟩ : ∃ M : Int, M = (m : Int) := ⟨_, rfl⟩
  obtain ⟨D1, hD1⟩ : ∃ D1 : Int, D1 = ((d + 1 : Nat) : Int) := ⟨_, rfl⟩
  obtain ⟨D0, hD0⟩ : ∃ D0 : Int, D0 = (d : Int) := ⟨_, rfl⟩
  rw [show rhV m (.slice (some ⟨bo, oo, none⟩) os.length cap) = .agg #[.int .i64 M, .slice (some ⟨bo, oo, none⟩) os.length cap] by rw [hM], ← hD1]
  have hDw : IntKind.i64.wrap (D1 - 1) = D0 := by rw [IntKind.wrap_i64]; omega
  have hD1b : (D1 == 0) = false := by rw [beq_eq_false_iff_ne]; omega
  obtain ⟨w1, hw1⟩ : ∃ w1, w1 = textW w M (.slice (some ⟨bo, oo, none⟩) os.length cap) ⟨4, (j : Int), s⟩ := ⟨_, rfl⟩
  obtain ⟨hz, hb, hbh, hbx⟩ := textW_facts w M (.slice (some ⟨bo, oo, none⟩) os.length cap) ⟨4, (j : Int), s⟩
  rw [← hw1] at hz hb hbh hbx
  obtain ⟨h0, h1, -⟩ := cellsH2 hbh
  obtain ⟨p0, p1, p2, -⟩ := cellsH3 hbx
  have t0 := (below_cell hb hlo).trans q0
  have t1 := (below_cell hb hlo).trans q1
  have hw1' := hw1.symm
  unfold textW at hw1'
  simp only at hw1' p0 p1 p2
  obtain ⟨w2, hw2⟩ : ∃ w2, w2 = w1.alloc (.cells #[.string (strB o.1), .slice bu o.2.length cu] 71) := ⟨_, rfl⟩
  have hz2 : w2.heap.size = w1.heap.size + 1 := by rw [hw2]; simp
  have hb2 : Below w1.heap.size w1 w2 := by rw [hw2]; exact (Below.refl _ _).alloc (Nat.le_refl _) _
  have hbo : w2.heap[w1.heap.size]? = some (.cells #[.string (strB o.1), .slice bu o.2.length cu] 71 (0, 0)) := by rw [hw2]; exact World.alloc_heap_new _ _
  have hw2' := hw2.symm
  obtain ⟨B1, hB1⟩ : ∃ B1, B1 = w1.heap.size := ⟨_, rfl⟩
  have HB2 : Hid (Below w.heap.size w w2) := hb.trans (hb2.mono (by omega))
  have HH2 : Hid (w2.heap[w.heap.size]? = some (.cells #[.int .i64 M, .slice (some ⟨bo, oo, none⟩) os.length cap] 30 (0, 0))) := (hb2.block _ (by omega)).trans hbh
  have HO2 : Hid (w2.heap[w1.heap.size]? = some (.cells #[.string (strB o.1), .slice bu o.2.length cu] 71 (0, 0))) := hbo
  have HIN : Hid (objsIn S w (.slice (some ⟨bo, oo, none⟩) os.length cap) os) := hin
  have HOS : Hid (∀ o ∈ os, obB o (os.length : Int) = true ∧ smallO o ∧ o.2.length ≤ 1048576) := hos
  have HEL : Hid (∀ i (hi : i < o.2.length), ∃ b o', bu = some ⟨b, o', none⟩ ∧ S b ∧ b < w.heap.size ∧ w.cell? ⟨b, o' + i * 3, none⟩ = some (.int .i64 (o.2[i]).k) ∧ w.cell? ⟨b, o' + i * 3 + 1, none⟩ = some (.int .i64 (o.2[i]).n) ∧ w.cell? ⟨b, o' + i * 3 + 2, none⟩ = some (.string (strB (o.2[i]).s))) := hel
  have HCE : Hid (∀ u ∈ o.2, rightV u os.length = true ∧ smallV u) := hcells
  have HTL : Hid (∀ u ∈ o.2, (txtV os d u).length ≤ 33000000) := hTl
  have HJ : Hid (∀ i, i ≤ 8 → (joinT (txtV os d) (o.2.take i)).length ≤ 300000000) := hJ
  have HF : Hid (F = joinT (txtV os d) (o.2.take 8) ++ (if 8 < o.2.length then [44, 32, 46, 46, 46] else [])) := hF
  have HRES : Hid (txtV os (d + 1) ⟨4, (j : Int), s⟩ = (if o.1 = [] then [91] else o.1 ++ [40]) ++ F ++ (if o.1 = [] then [93] else [41])) := hres
  have HD0 : Hid (D0 = (d : Int)) := hD0
  have HM : Hid (M = (m : Int)) := hM
  have htg : o.1.length ≤ 1048576 := hso.1
  obtain ⟨tag, cs⟩ := o
  simp only at *
  clear hin hos hel hcells hTl hJ hF hres hD0 hM hD1 hat hvo ho hw1 hw2 hb hb2 hbh hbx hbo hr hx hso hob q0 q1 hN hB1
  obtain ⟨L1, hL1⟩ : ∃ L1, L1 = [91] ++ F := ⟨_, rfl⟩
  obtain ⟨L2, hL2⟩ : ∃ L2, L2 = L1 ++ [93] := ⟨_, rfl⟩
  obtain ⟨P1, hP1⟩ : ∃ P1, P1 = tag ++ [40] := ⟨_, rfl⟩
  obtain ⟨P2, hP2⟩ : ∃ P2, P2 = P1 ++ F := ⟨_, rfl⟩
  obtain ⟨P3, hP3⟩ : ∃ P3, P3 = P2 ++ [41] := ⟨_, rfl⟩
  have l1 : L1.length ≤ 300000006 := by rw [hL1]; simp; omega
  have l2 : P1.length ≤ 1048577 := by rw [hP1]; simp; omega
  have l3 : P2.length ≤ 302000000 := by rw [hP2]; simp; omega
  have a1 : ∀ W : World, (Op.stringOp .add ⟨#[91]⟩ (strB F)).run Tryz.prog W = .ok (.string (strB L1)) W := fun W => by rw [hL1]; exact str_addH W [91] F (by simp; omega)
  have a2 : ∀ W : World, (Op.stringOp .add (strB L1) ⟨#[93]⟩).run Tryz.prog W = .ok (.string (strB L2)) W := fun W => by rw [hL2]; exact str_addH W L1 [93] (by simp; omega)
  have b1 : ∀ W : World, (Op.stringOp .add (strB tag) ⟨#[40]⟩).run Tryz.prog W = .ok (.string (strB P1)) W := fun W => by rw [hP1]; exact str_addH W tag [40] (by simp; omega)
  have b2 : ∀ W : World, (Op.stringOp .add (strB P1) (strB F)).run Tryz.prog W = .ok (.string (strB P2)) W := fun W => by rw [hP2]; exact str_addH W P1 F (by omega)
  have b3 : ∀ W : World, (Op.stringOp .add (strB P2) ⟨#[41]⟩).run Tryz.prog W = .ok (.string (strB P3)) W := fun W => by rw [hP3]; exact str_addH W P2 [41] (by simp; omega)
  have HL1 : Hid (L1 = [91] ++ F) := hL1
  have HL2 : Hid (L2 = L1 ++ [93]) := hL2
  have HP1 : Hid (P1 = tag ++ [40]) := hP1
  have HP2 : Hid (P2 = P1 ++ F) := hP2
  have HP3 : Hid (P3 = P2 ++ [41]) := hP3
  clear hL1 hL2 hP1 hP2 hP3 l1 l2 l3
  go_enter Tryz.func33, Tryz.ntmps33
  go_wp2
  clear hw1' hw2' p0 p1 p2 h0 h1 t0 t1
  go_loopw [8, 9] (fun vs vi wr => ∃ i : Nat, i ≤ cs.length ∧ i ≤ 8 ∧ vi = .int .i64 i ∧ vs = .string (strB (joinT (txtV os d) (cs.take i))) ∧ Below w2.heap.size w2 wr) (fun _ vi _ => cs.length - (intOf vi).toNat)
  case atStart => exact ⟨0, Nat.zero_le _, Nat.zero_le _, rfl, by rw [List.take_zero]; rfl, Below.refl _ _⟩
  case round =>
    obtain ⟨i, hi, hi8, rfl, rfl, hbw⟩ := hrel
    have HB : Hid (Below w2.heap.size w2 wr) := hbw
    have hsw := hbw.size
    obtain ⟨g0, g1, -⟩ := cellsH2 ((hbw.block _ (by omega)).trans HO2.out)
    rw [hz] at g0 g1
    obtain ⟨k0, k1, -⟩ := cellsH2 ((hbw.block _ (by omega)).trans HH2.out)
    have hjl := HJ.out i hi8
    obtain ⟨J, hJ⟩ : ∃ J, J = joinT (txtV os d) (cs.take i) := ⟨_, rfl⟩
    rw [← hJ] at hjl ⊢
    have HJ1 : Hid (J = joinT (txtV os d) (cs.take i)) := hJ
    clear hbw hJ
    by_cases hlt : i < cs.length
    · have hi2 : (i : Int) < cs.length := by omega
      by_cases h8 : i = 8
      · subst h8
        obtain ⟨S1, hS1⟩ : ∃ S1, S1 = J ++ [44, 32] := ⟨_, rfl⟩
        have e1 : ∀ W : World, (Op.stringOp .add (strB J) ⟨#[44, 32]⟩).run Tryz.prog W = .ok (.string (strB S1)) W := fun W => by rw [hS1]; exact str_addH W J [44, 32] (by simp; omega)
        have e2 : ∀ W : World, (Op.stringOp .add (strB S1) ⟨#[46, 46, 46]⟩).run Tryz.prog W = .ok (.string (strB F)) W := fun W => by
          have : F = S1 ++ [46, 46, 46] := by rw [HF.out, if_pos hlt, hS1, HJ1.out]; simp
          rw [this]; exact str_addH W S1 [46, 46, 46] (by rw [hS1]; simp; omega)
        clear hS1 HJ1
        have HBw : Hid (Below w.heap.size w wr) := HB2.out.trans (HB.out.mono (by omega))
        by_cases htn : tag = []
        · subst htn
          have HRS : Hid (txtV os (d + 1) ⟨4, (j : Int), s⟩ = L2) := by show _ = _; rw [HRES.out, if_pos rfl, if_pos rfl, HL2.out, HL1.out]
          go_wp2
          go_ret
          rw [HRS.out]
          exact ⟨rfl, HBw.out⟩
        · have HRS : Hid (txtV os (d + 1) ⟨4, (j : Int), s⟩ = P3) := by show _ = _; rw [HRES.out, if_neg htn, if_neg htn, HP3.out, HP2.out, HP1.out]
          obtain ⟨c0, c1, rfl⟩ := List.exists_cons_of_ne_nil htn
          go_wp2
          go_ret
          rw [HRS.out]
          exact ⟨rfl, HBw.out⟩
      · have h8b : ((i : Int) == 8) = false := by rw [beq_eq_false_iff_ne]; omega
        have h8n : ¬ (i : Int) = 8 := by omega
        obtain ⟨be, oe, rfl, -, hle, q0, q1, q2⟩ := HEL.out i hlt
        obtain ⟨hcr, hcs⟩ := HCE.out cs[i] (List.getElem_mem hlt)
        have htl := HTL.out cs[i] (List.getElem_mem hlt)
        have HJT : Hid (joinT (txtV os d) (cs.take (i + 1)) = J ++ ((if i = 0 then [] else [44, 32]) ++ txtV os d cs[i])) := by show _ = _; rw [joinT_take _ _ _ hlt, ← HJ1.out]
        obtain ⟨y, hy⟩ : ∃ y, y = cs[i] := ⟨_, rfl⟩
        rw [← hy] at q0 q1 q2 hcr hcs htl HJT
        obtain ⟨TX, hTX⟩ : ∃ TX, TX = txtV os d y := ⟨_, rfl⟩
        rw [← hTX] at htl HJT
        have hbwr : Below w.heap.size w wr := HB2.out.trans (HB.out.mono (by omega))
        have hswr := hbwr.size
        have HC : Hid (∀ wx, Below wr.heap.size wr wx → Calls Tryz.prog 33 #[.agg #[.int .i64 M, .slice (some ⟨bo, oo, none⟩) os.length cap], vlV y, .int .i64 D0] wx fun e w'' => e = .returned (.string (strB TX)) ∧ Below wr.heap.size wr w'') := fun wx hx' => by
          have hbx : Below w.heap.size w wx := hbwr.trans (hx'.mono hswr)
          rw [HM.out, HD0.out, hTX]
          exact (hT S m os _ y wx (HIN.out.kept hbx.size fun q _ hq => hbx.block q hq) HOS.out hl hcr hcs).mono fun e w'' ⟨he, hbb⟩ => ⟨he, hx'.trans (hbb.mono hx'.size)⟩
        have r0 := (below_cell hbwr hle).trans q0
        have r1 := (below_cell hbwr hle).trans q1
        have r2 := (below_cell hbwr hle).trans q2
        have x0 := cls_cell (n := wr.heap.size) r0 (by simp only; omega)
        have x1 := cls_cell (n := wr.heap.size) r1 (by simp only; omega)
        have x2 := cls_cell (n := wr.heap.size) r2 (by simp only; omega)
        have x3 := cls_cell (n := wr.heap.size) k0 (by simp only; omega)
        have x4 := cls_cell (n := wr.heap.size) k1 (by simp only; omega)
        have x5 := cls_cell (n := wr.heap.size) g1 (by simp only; omega)
        obtain ⟨yk, yn, ys⟩ := y
        simp only at x0 x1 x2 HC
        clear q0 q1 q2 hcr hcs hy hTX HJ1 r0 r1 r2 hbwr a1 a2 b1 b2 b3
        by_cases hi0 : i = 0
        · subst hi0
          simp only [Nat.zero_mul, Nat.add_zero] at x0 x1 x2
          have e3 : ∀ W : World, (Op.stringOp .add (strB J) (strB TX)).run Tryz.prog W = .ok (.string (strB (J ++ TX))) W := fun W => str_addH W J TX (by omega)
          obtain ⟨J2, hJ2⟩ : ∃ J2, J2 = J ++ TX := ⟨_, rfl⟩
          rw [← hJ2] at e3
          have HJ2 : Hid (joinT (txtV os d) (cs.take (0 + 1)) = J2) := by show _ = _; rw [HJT.out, if_pos rfl, hJ2]; rfl
          have hi1 : (0 + 1 : Nat) = 1 := rfl
          clear hJ2 HJT
          go_wp2_with fail
          refine wp_region_cls (n := wr.heap.size) (w0 := wr) (Below.refl _ _) (by kernel_rfl) (by kernel_rfl) ?_
          iterate 9 (go_big_quiet_step (fail))
          go_big_quiet_step (exact cls_calls HC.out _)
          iterate 2 (go_big_quiet_step (fail))
          refine wpQuiet_nil ?_
          rintro _ ⟨c, rfl⟩
          have HBc : Hid (Below w2.heap.size w2 c.1) := HB.out.trans (c.2.mono hsw)
          clear x0 x1 x2 x3 x4 x5
          go_wp2
          exact ⟨⟨0 + 1, by omega, by omega, by go_num, by rw [HJ2.out], HBc.out⟩, by simp [intOf]; omega⟩
        · have hi3 : (0 : Int) < (i : Int) := by omega
          obtain ⟨S1, hS1⟩ : ∃ S1, S1 = J ++ [44, 32] := ⟨_, rfl⟩
          have e1 : ∀ W : World, (Op.stringOp .add (strB J) ⟨#[44, 32]⟩).run Tryz.prog W = .ok (.string (strB S1)) W := fun W => by rw [hS1]; exact str_addH W J [44, 32] (by simp; omega)
          have e3 : ∀ W : World, (Op.stringOp .add (strB S1) (strB TX)).run Tryz.prog W = .ok (.string (strB (S1 ++ TX))) W := fun W => str_addH W S1 TX (by rw [hS1]; simp; omega)
          obtain ⟨J2, hJ2⟩ : ∃ J2, J2 = S1 ++ TX := ⟨_, rfl⟩
          rw [← hJ2] at e3
          have HJ2 : Hid (joinT (txtV os d) (cs.take (i + 1)) = J2) := by show _ = _; rw [HJT.out, if_neg hi0, hJ2, hS1]; simp
          clear hJ2 HJT hS1
          go_wp2_with fail
          refine wp_region_cls (n := wr.heap.size) (w0 := wr) (Below.refl _ _) (by kernel_rfl) (by kernel_rfl) ?_
          iterate 9 (go_big_quiet_step (fail))
          go_big_quiet_step (exact cls_calls HC.out _)
          iterate 2 (go_big_quiet_step (fail))
          refine wpQuiet_nil ?_
          rintro _ ⟨c, rfl⟩
          have HBc : Hid (Below w2.heap.size w2 c.1) := HB.out.trans (c.2.mono hsw)
          clear x0 x1 x2 x3 x4 x5
          go_wp2
          exact ⟨⟨i + 1, by omega, by omega, by go_num, by rw [HJ2.out], HBc.out⟩, by simp [intOf]; omega⟩
    · obtain rfl : i = cs.length := by omega
      have hi2 : ¬ (cs.length : Int) < cs.length := by omega
      have hJF : J = F := by rw [HF.out, HJ1.out, if_neg (by omega), List.take_of_length_le (Nat.le_refl _), List.take_of_length_le hi8]; simp
      rw [hJF]
      clear hJF HJ1 hjl
      have HBw : Hid (Below w.heap.size w wr) := HB2.out.trans (HB.out.mono (by omega))
      by_cases htn : tag = []
      · subst htn
        have HRS : Hid (txtV os (d + 1) ⟨4, (j : Int), s⟩ = L2) := by show _ = _; rw [HRES.out, if_pos rfl, if_pos rfl, HL2.out, HL1.out]
        go_wp2
        go_ret
        rw [HRS.out]
        exact ⟨rfl, HBw.out⟩
      · have HRS : Hid (txtV os (d + 1) ⟨4, (j : Int), s⟩ = P3) := by show _ = _; rw [HRES.out, if_neg htn, if_neg htn, HP3.out, HP2.out, HP1.out]
        obtain ⟨c0, c1, rfl⟩ := List.exists_cons_of_ne_nil htn
        go_wp2
        go_ret
        rw [HRS.out]
        exact ⟨rfl, HBw.out⟩

theorem textAt_two : TextAt 2 := textAt_succ 1 (Nat.le_refl _) (textAt_succ 0 (by omega) textAt_zero)
end Go.Proofs.YtchpmnmngeebjaaGreatDoor
/- heap: the document's own Show. -/
namespace Go.Proofs.YtchpmnmngeebjaaGreatDoor
open Go.RowKit Go.Shelf

set_option maxRecDepth 100000 in
set_option maxHeartbeats 4000000 in
theorem refShow_any (S : Nat → Prop) (m : Nat) (os : List Ob) (v : Value) (x : Vl) (w : World) (hin : objsIn S w v os) (hos : ∀ o ∈ os, obB o (os.length : Int) = true ∧ smallO o ∧ o.2.length ≤ 1048576) (hl : os.length ≤ 1048576) (hx : smallV x) :
    Calls Tryz.prog 11 #[rhV m v, vlV x] w fun e w' => e = .returned (.string (strB (showB os x))) ∧ Below w.heap.size w w' := by
  obtain ⟨base, cap, rfl, hc1, hc2, -⟩ := hin.at
  obtain ⟨M, hM⟩ : ∃ M : Int, M = (m : Int) := ⟨_, rfl⟩
  rw [show rhV m (.slice base os.length cap) = .agg #[.int .i64 M, .slice base os.length cap] by rw [hM]]
  obtain ⟨w1, hw1⟩ : ∃ w1, w1 = textW w M (.slice base os.length cap) x := ⟨_, rfl⟩
  obtain ⟨hz, hb, hbh, hbx⟩ := textW_facts w M (.slice base os.length cap) x
  rw [← hw1] at hz hb hbh hbx
  obtain ⟨h0, h1, -⟩ := cellsH2 hbh
  obtain ⟨p0, p1, p2, -⟩ := cellsH3 hbx
  have cr := refRight_any x os.length w1 hx
  have HSB : Hid (showB os x = if rightV x os.length = true then (if 200 < (txtV os 2 x).length then (txtV os 2 x).take 197 ++ dotsB else txtV os 2 x) else []) := rfl
  have HB1 : Hid (Below w.heap.size w w1) := hb
  have HIN : Hid (objsIn S w (.slice base os.length cap) os) := hin
  have HOS : Hid (∀ o ∈ os, obB o (os.length : Int) = true ∧ smallO o ∧ o.2.length ≤ 1048576) := hos
  have HX : Hid (smallV x) := hx
  have HM : Hid (M = (m : Int)) := hM
  have HBH : Hid (w1.heap[w.heap.size]? = some (.cells #[.int .i64 M, .slice base os.length cap] 30 (0, 0))) := hbh
  have HBX : Hid (w1.heap[w.heap.size + 1]? = some (.cells #[.int .i64 x.k, .int .i64 x.n, .string (strB x.s)] 25 (0, 0))) := hbx
  have HTL : Hid ((txtV os 2 x).length ≤ 333000000) := txtV_len (fun o ho => (hos o ho).2.1) 2 x hx
  have hw1' := hw1.symm
  unfold textW at hw1'
  cases hr : rightV x os.length with
  | false =>
    rw [hr] at cr HSB
    obtain ⟨k, n, s⟩ := x
    simp only at p0 p1 p2 hw1'
    clear hin hos hx hM hbh hbx hb hw1 hr
    go_enter Tryz.func11, Tryz.ntmps11
    go_wp2_with fail
    refine cr.mono ?_
    clear cr
    rintro e w2 ⟨rfl, hb2⟩
    have HB2 : Hid (Below w.heap.size w w2) := HB1.out.trans (hb2.mono (by omega))
    clear hb2
    go_wp2
    go_ret
    rw [HSB.out]
    exact ⟨rfl, HB2.out⟩
  | true =>
    rw [hr] at cr HSB
    rw [if_pos rfl] at HSB
    have HR : Hid (rightV x os.length = true) := hr
    obtain ⟨T, hT⟩ : ∃ T, T = txtV os 2 x := ⟨_, rfl⟩
    rw [← hT] at HTL HSB
    have HT : Hid (T = txtV os 2 x) := hT
    obtain ⟨SB, hSB⟩ : ∃ SB, SB = showB os x := ⟨_, rfl⟩
    rw [← hSB] at HSB ⊢
    obtain ⟨k, n, s⟩ := x
    simp only at p0 p1 p2 hw1'
    clear hin hos hx hM hbh hbx hb hw1 hr hT hSB
    go_enter Tryz.func11, Tryz.ntmps11
    go_wp2_with fail
    refine cr.mono ?_
    clear cr
    rintro e w2 ⟨rfl, hb2⟩
    have hs2 := hb2.size
    have HB2 : Hid (Below w.heap.size w w2) := HB1.out.trans (hb2.mono (by omega))
    obtain ⟨h0', h1', -⟩ := cellsH2 ((hb2.block _ (by omega)).trans HBH.out)
    obtain ⟨p0', p1', p2', -⟩ := cellsH3 ((hb2.block _ (by omega)).trans HBX.out)
    have ct := textAt_two S m os (.slice base os.length cap) ⟨k, n, s⟩ w2 (HIN.out.kept HB2.out.size fun q _ hq => HB2.out.block q hq) HOS.out hl HR.out HX.out
    rw [← HT.out, show rhV m (.slice base os.length cap) = .agg #[.int .i64 M, .slice base os.length cap] by rw [HM.out]] at ct
    clear hb2 h0 h1 p0 p1 p2 hw1'
    go_wp2_with fail
    refine ct.mono ?_
    clear ct
    rintro e w3 ⟨rfl, hb3⟩
    have HB3 : Hid (Below w.heap.size w w3) := HB2.out.trans (hb3.mono HB2.out.size)
    have hTl := HTL.out
    have hTz : (strB T).size = T.length := rfl
    clear hb3 h0' h1' p0' p1' p2'
    by_cases h2 : 200 < T.length
    · have h2i : (200 : Int) < (T.length : Int) := by omega
      have hto : ∀ W : World, (Instr.slice 9 (.string (strB T)) none (some (.int .i64 197)) none).run Tryz.prog W = .ok (.string (strB (T.take 197))) W := fun W => str_to W T 197 (by omega)
      obtain ⟨T1, hT1⟩ : ∃ T1, T1 = T.take 197 := ⟨_, rfl⟩
      have ha : ∀ W : World, (Op.stringOp .add (strB T1) ⟨#[46, 46, 46]⟩).run Tryz.prog W = .ok (.string (strB SB)) W := fun W => by
        rw [HSB.out, if_pos h2, ← hT1]; exact str_addH W T1 dotsB (by rw [hT1, List.length_take]; simp [dotsB]; omega)
      rw [← hT1] at hto
      clear hT1
      go_wp2
      go_ret
      exact ⟨rfl, HB3.out⟩
    · have h2i : ¬ (200 : Int) < (T.length : Int) := by omega
      have HE : Hid (SB = T) := by show _ = _; rw [HSB.out, if_neg h2]
      go_wp2
      go_ret
      rw [HE.out]
      exact ⟨rfl, HB3.out⟩
end Go.Proofs.YtchpmnmngeebjaaGreatDoor
/- heap: the document's own object, Get, Len, Tag. -/
namespace Go.Proofs.YtchpmnmngeebjaaGreatDoor
open Go.RowKit Go.Shelf

theorem set2H_cells {w : World} {N : Nat} {x0 x1 : Value} {ty : TypeId} (h : w.heap[N]? = some (.cells #[x0, x1] ty (0, 0))) (x y : Value) :
    ((w.setCell ⟨N, 0, none⟩ x).setCell ⟨N, 1, none⟩ y).cell? ⟨N, 0, none⟩ = some x ∧ ((w.setCell ⟨N, 0, none⟩ x).setCell ⟨N, 1, none⟩ y).cell? ⟨N, 1, none⟩ = some y := by
  obtain ⟨a, b, -⟩ := cellsH2 (x0 := x) (x1 := y) (setCellH_block (j := 1) y (setCellH_block (j := 0) x h))
  exact ⟨a, b⟩

abbrev objW (w : World) (M : Int) (v : Value) (x : Vl) : World := (textW w M v x).alloc (.cells #[.string ⟨#[]⟩, .slice none 0 0] 71)
theorem objW_facts (w : World) (M : Int) (v : Value) (x : Vl) : (objW w M v x).heap.size = w.heap.size + 3 ∧ Below w.heap.size w (objW w M v x) ∧ (objW w M v x).heap[w.heap.size]? = some (.cells #[.int .i64 M, v] 30 (0, 0)) ∧ (objW w M v x).heap[w.heap.size + 1]? = some (.cells #[.int .i64 x.k, .int .i64 x.n, .string (strB x.s)] 25 (0, 0)) ∧ (objW w M v x).heap[w.heap.size + 2]? = some (.cells #[.string ⟨#[]⟩, .slice none 0 0] 71 (0, 0)) := by
  obtain ⟨h1, h2, h3, h4⟩ := textW_facts w M v x
  refine ⟨by simp [objW], h2.alloc (by omega) _, ?_, ?_, ?_⟩
  · rw [Below.heap_alloc _ _ _ (by omega)]; exact h3
  · rw [Below.heap_alloc _ _ _ (by omega)]; exact h4
  · have := World.alloc_heap_new (textW w M v x) (.cells #[.string ⟨#[]⟩, .slice none 0 0] 71)
    rwa [h1] at this

/-- The document's object of a value: none. -/
abbrev noRO : Value := .tuple #[.agg #[.string ⟨#[]⟩, .slice none 0 0], .bool false]

set_option maxRecDepth 100000 in
set_option maxHeartbeats 4000000 in
theorem refObj_no (S : Nat → Prop) (m : Nat) (os : List Ob) (v : Value) (x : Vl) (w : World) (hin : objsIn S w v os) (_hl : os.length ≤ 1048576) (hx : smallV x) (hr : refB os x = false) :
    Calls Tryz.prog 45 #[rhV m v, vlV x] w fun e w' => e = .returned noRO ∧ Below w.heap.size w w' := by
  obtain ⟨base, cap, rfl, hc1, hc2, -⟩ := hin.at
  obtain ⟨M, hM⟩ : ∃ M : Int, M = (m : Int) := ⟨_, rfl⟩
  rw [show rhV m (.slice base os.length cap) = .agg #[.int .i64 M, .slice base os.length cap] by rw [hM]]
  obtain ⟨w1, hw1⟩ : ∃ w1, w1 = objW w M (.slice base os.length cap) x := ⟨_, rfl⟩
  obtain ⟨hz, hb, hbh, hbx, hbo⟩ := objW_facts w M (.slice base os.length cap) x
  rw [← hw1] at hz hb hbh hbx hbo
  obtain ⟨h0, h1, -⟩ := cellsH2 hbh
  obtain ⟨p0, p1, p2, -⟩ := cellsH3 hbx
  have HW1 : Hid (w1 = objW w M (.slice base os.length cap) x) := hw1
  have hw1' := hw1.symm
  unfold objW textW at hw1'
  have cr := refRight_any x os.length w1 hx
  have HB1 : Hid (Below w.heap.size w w1) := hb
  have HBO : Hid (w1.heap[w.heap.size + 2]? = some (.cells #[.string ⟨#[]⟩, .slice none 0 0] 71 (0, 0))) := hbo
  obtain ⟨k, n, s⟩ := x
  simp only at p0 p1 p2 hw1'
  by_cases hk : k = 4
  · subst hk
    have hr2 : rightV ⟨4, n, s⟩ os.length = false := by unfold refB at hr; simpa using hr
    rw [hr2] at cr
    clear hin hx hr hr2 hM hw1 hb hbh hbx hbo
    go_enter Tryz.func45, Tryz.ntmps45
    go_wp2_with fail
    refine cr.mono ?_
    clear cr
    rintro e w2 ⟨rfl, hb2⟩
    have hs2 := hb2.size
    have bo2 := (hb2.block (w.heap.size + 2) (by omega)).trans HBO.out
    obtain ⟨q0, q1, qf⟩ := cellsH2 bo2
    have qf0 := qf 0
    have qf1 := qf 1
    obtain ⟨z0, z1⟩ := set2H_cells bo2 (.string ⟨#[]⟩) (.slice none 0 0)
    have HB2 : Hid (Below w.heap.size w ((w2.setCell ⟨w.heap.size + 2, 0, none⟩ (.string ⟨#[]⟩)).setCell ⟨w.heap.size + 2, 1, none⟩ (.slice none 0 0))) := ((HB1.out.trans (hb2.mono (by omega))).setCell (by simp only; omega) _).setCell (by simp only; omega) _
    clear hb2 bo2 qf h0 h1 p0 p1 p2 hw1'
    go_wp2
    exact bodyPost_ret (v := noRO) (by simp [results, Tryz.results45, go_sem, z0, z1]) rfl ⟨rfl, HB2.out⟩
  · have hkb : (k != 4) = true := by rw [bne_iff_ne]; exact hk
    have hkb2 : (k == 4) = false := by rw [beq_eq_false_iff_ne]; exact hk
    obtain ⟨q0, q1, qf⟩ := cellsH2 hbo
    have qf0 := qf 0
    have qf1 := qf 1
    obtain ⟨z0, z1⟩ := set2H_cells hbo (.string ⟨#[]⟩) (.slice none 0 0)
    have HB2 : Hid (Below w.heap.size w ((w1.setCell ⟨w.heap.size + 2, 0, none⟩ (.string ⟨#[]⟩)).setCell ⟨w.heap.size + 2, 1, none⟩ (.slice none 0 0))) := (hb.setCell (by simp only; omega) _).setCell (by simp only; omega) _
    clear hin hx hr hM hw1 hb hbh hbx hbo cr qf
    go_enter Tryz.func45, Tryz.ntmps45
    go_wp2
    exact bodyPost_ret (v := noRO) (by simp [results, Tryz.results45, go_sem, z0, z1]) rfl ⟨rfl, HB2.out⟩

set_option maxRecDepth 100000 in
set_option maxHeartbeats 4000000 in
theorem refObj_ok (S : Nat → Prop) (m : Nat) (os : List Ob) (v : Value) (j : Nat) (w : World) (hin : objsIn S w v os) (hl : os.length ≤ 1048576) (hj : j < os.length) :
    Calls Tryz.prog 45 #[rhV m v, vlV ⟨4, j, []⟩] w fun e w' => (∃ bu cu, e = .returned (.tuple #[.agg #[.string (strB (os[j]).1), .slice bu (os[j]).2.length cu], .bool true]) ∧ Hid (valsIn S w (.slice bu (os[j]).2.length cu) (os[j]).2)) ∧ Below w.heap.size w w' := by
  obtain ⟨base, cap, rfl, hc1, hc2, hat⟩ := hin.at
  obtain ⟨bo, oo, u, rfl, -, hlo, q0, q1, hvo⟩ := hat j hj
  obtain ⟨bu, cu, rfl, hu1, hu2, -⟩ := hvo.at
  obtain ⟨M, hM⟩ : ∃ M : Int, M = (m : Int) := ⟨_, rfl⟩
  rw [show rhV m (.slice (some ⟨bo, oo, none⟩) os.length cap) = .agg #[.int .i64 M, .slice (some ⟨bo, oo, none⟩) os.length cap] by rw [hM]]
  obtain ⟨w1, hw1⟩ : ∃ w1, w1 = objW w M (.slice (some ⟨bo, oo, none⟩) os.length cap) ⟨4, j, []⟩ := ⟨_, rfl⟩
  obtain ⟨hz, hb, hbh, hbx, hbo⟩ := objW_facts w M (.slice (some ⟨bo, oo, none⟩) os.length cap) ⟨4, j, []⟩
  rw [← hw1] at hz hb hbh hbx hbo
  obtain ⟨h0, h1, -⟩ := cellsH2 hbh
  obtain ⟨p0, p1, p2, -⟩ := cellsH3 hbx
  have HW1 : Hid (w1 = objW w M (.slice (some ⟨bo, oo, none⟩) os.length cap) ⟨4, j, []⟩) := hw1
  have hji : (j : Int) < (os.length : Int) := by omega
  have cr := refRight_any ⟨4, j, []⟩ os.length w1 ⟨by simp; omega, by simp⟩
  rw [show rightV ⟨4, (j : Int), []⟩ os.length = true by simp [rightV]; omega] at cr
  have HB1 : Hid (Below w.heap.size w w1) := hb
  have HBO : Hid (w1.heap[w.heap.size + 2]? = some (.cells #[.string ⟨#[]⟩, .slice none 0 0] 71 (0, 0))) := hbo
  have HBH : Hid (w1.heap[w.heap.size]? = some (.cells #[.int .i64 M, .slice (some ⟨bo, oo, none⟩) os.length cap] 30 (0, 0))) := hbh
  have HBX : Hid (w1.heap[w.heap.size + 1]? = some (.cells #[.int .i64 4, .int .i64 j, .string (strB [])] 25 (0, 0))) := hbx
  have HVO : Hid (valsIn S w (.slice bu (os[j]).2.length cu) (os[j]).2) := hvo
  obtain ⟨X, hX⟩ : ∃ X, X = os[j] := ⟨_, rfl⟩
  rw [← hX] at q0 q1 HVO ⊢
  have Q0 : Hid (w.cell? ⟨bo, oo + j * 2, none⟩ = some (.string (strB X.1))) := q0
  have Q1 : Hid (w.cell? ⟨bo, oo + j * 2 + 1, none⟩ = some (.slice bu X.2.length cu)) := q1
  clear hin hM hw1 hb hbh hbx hbo hat hvo hX q0 q1 hu1
  go_enter Tryz.func45, Tryz.ntmps45
  go_wp2_with fail
  rw [show ((w.alloc (.cells #[.int .i64 M, .slice (some ⟨bo, oo, none⟩) os.length cap] 30)).alloc (.cells #[.int .i64 4, .int .i64 j, .string ⟨#[]⟩] 25)).alloc (.cells #[.string ⟨#[]⟩, .slice none 0 0] 71) = w1 from HW1.out.symm]
  refine cr.mono ?_
  clear cr
  rintro e w2 ⟨rfl, hb2⟩
  have hs2 := hb2.size
  have bo2 := (hb2.block (w.heap.size + 2) (by omega)).trans HBO.out
  obtain ⟨y0, y1, yf⟩ := cellsH2 bo2
  have yf0 := yf 0
  have yf1 := yf 1
  obtain ⟨h0', h1', -⟩ := cellsH2 ((hb2.block w.heap.size (by omega)).trans HBH.out)
  obtain ⟨p0', p1', p2', -⟩ := cellsH3 ((hb2.block (w.heap.size + 1) (by omega)).trans HBX.out)
  have hB2 : Below w.heap.size w w2 := HB1.out.trans (hb2.mono (by omega))
  have t0 := (below_cell hB2 hlo).trans Q0.out
  have t1 := (below_cell hB2 hlo).trans Q1.out
  obtain ⟨z0, z1⟩ := set2H_cells bo2 (.string (strB X.1)) (.slice bu X.2.length cu)
  have HB2 : Hid (Below w.heap.size w ((w2.setCell ⟨w.heap.size + 2, 0, none⟩ (.string (strB X.1))).setCell ⟨w.heap.size + 2, 1, none⟩ (.slice bu X.2.length cu))) := (hB2.setCell (by simp only; omega) _).setCell (by simp only; omega) _
  clear hb2 bo2 yf h0 h1 p0 p1 p2 hB2
  go_wp2
  exact bodyPost_ret (v := .tuple #[.agg #[.string (strB X.1), .slice bu X.2.length cu], .bool true]) (by simp [results, Tryz.results45, go_sem, z0, z1]) rfl ⟨⟨bu, cu, rfl, HVO⟩, HB2.out⟩

set_option maxRecDepth 100000 in
set_option maxHeartbeats 4000000 in
theorem refLen_no (S : Nat → Prop) (m : Nat) (os : List Ob) (v : Value) (x : Vl) (w : World) (hin : objsIn S w v os) (hl : os.length ≤ 1048576) (hx : smallV x) (hr : refB os x = false) :
    Calls Tryz.prog 21 #[rhV m v, vlV x] w fun e w' => e = .returned (.tuple #[.int .i64 0, .int .i64 2]) ∧ Below w.heap.size w w' := by
  obtain ⟨M, hM⟩ : ∃ M : Int, M = (m : Int) := ⟨_, rfl⟩
  obtain ⟨w1, hw1⟩ : ∃ w1, w1 = textW w M v x := ⟨_, rfl⟩
  obtain ⟨hz, hb, hbh, hbx⟩ := textW_facts w M v x
  rw [← hw1] at hz hb hbh hbx
  obtain ⟨h0, h1, -⟩ := cellsH2 hbh
  obtain ⟨p0, p1, p2, -⟩ := cellsH3 hbx
  have co := refObj_no S m os v x w1 (hin.kept hb.size fun q _ hq => hb.block q hq) hl hx hr
  rw [show rhV m v = .agg #[.int .i64 M, v] by rw [hM]] at co ⊢
  have HB1 : Hid (Below w.heap.size w w1) := hb
  have hw1' := hw1.symm
  unfold textW at hw1'
  obtain ⟨k, n, s⟩ := x
  simp only at p0 p1 p2 hw1'
  clear hin hx hr hM hw1 hb hbh hbx
  go_enter Tryz.func21, Tryz.ntmps21
  go_wp2_with fail
  refine co.mono ?_
  clear co
  rintro e w2 ⟨rfl, hb2⟩
  have HB2 : Hid (Below w.heap.size w (w2.alloc (.cells #[.string ⟨#[]⟩, .slice none 0 0] 71))) := (HB1.out.trans (hb2.mono (by omega))).alloc (by have := hb2.size; omega) _
  clear hb2 h0 h1 p0 p1 p2 hw1'
  go_wp2
  go_ret2
  exact ⟨rfl, HB2.out⟩

set_option maxRecDepth 100000 in
set_option maxHeartbeats 4000000 in
theorem refLen_ok (S : Nat → Prop) (m : Nat) (os : List Ob) (v : Value) (j : Nat) (w : World) (hin : objsIn S w v os) (hl : os.length ≤ 1048576) (hj : j < os.length) :
    Calls Tryz.prog 21 #[rhV m v, vlV ⟨4, j, []⟩] w fun e w' => e = .returned (.tuple #[.int .i64 ((os[j]).2.length : Int), .int .i64 0]) ∧ Below w.heap.size w w' := by
  obtain ⟨M, hM⟩ : ∃ M : Int, M = (m : Int) := ⟨_, rfl⟩
  obtain ⟨w1, hw1⟩ : ∃ w1, w1 = textW w M v ⟨4, j, []⟩ := ⟨_, rfl⟩
  obtain ⟨hz, hb, hbh, hbx⟩ := textW_facts w M v ⟨4, j, []⟩
  rw [← hw1] at hz hb hbh hbx
  obtain ⟨h0, h1, -⟩ := cellsH2 hbh
  obtain ⟨p0, p1, p2, -⟩ := cellsH3 hbx
  have co := refObj_ok S m os v j w1 (hin.kept hb.size fun q _ hq => hb.block q hq) hl hj
  rw [show rhV m v = .agg #[.int .i64 M, v] by rw [hM]] at co ⊢
  have HB1 : Hid (Below w.heap.size w w1) := hb
  have HW1 : Hid (w1 = textW w M v ⟨4, j, []⟩) := hw1
  obtain ⟨X, hX⟩ : ∃ X, X = os[j] := ⟨_, rfl⟩
  rw [← hX] at co ⊢
  clear hin hM hw1 hb hbh hbx hX
  go_enter Tryz.func21, Tryz.ntmps21
  go_wp2_with fail
  rw [show (w.alloc (.cells #[.int .i64 M, v] 30)).alloc (.cells #[.int .i64 4, .int .i64 j, .string ⟨#[]⟩] 25) = w1 from HW1.out.symm]
  refine co.mono ?_
  clear co
  rintro e w2 ⟨⟨bu, cu, rfl, -⟩, hb2⟩
  have HB2 : Hid (Below w.heap.size w (w2.alloc (.cells #[.string (strB X.1), .slice bu X.2.length cu] 71))) := (HB1.out.trans (hb2.mono (by omega))).alloc (by have := hb2.size; omega) _
  clear hb2 h0 h1 p0 p1 p2
  go_wp2
  go_ret2
  exact ⟨rfl, HB2.out⟩

set_option maxRecDepth 100000 in
set_option maxHeartbeats 4000000 in
theorem refTag_no (S : Nat → Prop) (m : Nat) (os : List Ob) (v : Value) (x : Vl) (w : World) (hin : objsIn S w v os) (hl : os.length ≤ 1048576) (hx : smallV x) (hr : refB os x = false) :
    Calls Tryz.prog 23 #[rhV m v, vlV x] w fun e w' => e = .returned (.tuple #[.string ⟨#[]⟩, .int .i64 2]) ∧ Below w.heap.size w w' := by
  obtain ⟨M, hM⟩ : ∃ M : Int, M = (m : Int) := ⟨_, rfl⟩
  obtain ⟨w1, hw1⟩ : ∃ w1, w1 = textW w M v x := ⟨_, rfl⟩
  obtain ⟨hz, hb, hbh, hbx⟩ := textW_facts w M v x
  rw [← hw1] at hz hb hbh hbx
  obtain ⟨h0, h1, -⟩ := cellsH2 hbh
  obtain ⟨p0, p1, p2, -⟩ := cellsH3 hbx
  have co := refObj_no S m os v x w1 (hin.kept hb.size fun q _ hq => hb.block q hq) hl hx hr
  rw [show rhV m v = .agg #[.int .i64 M, v] by rw [hM]] at co ⊢
  have HB1 : Hid (Below w.heap.size w w1) := hb
  have hw1' := hw1.symm
  unfold textW at hw1'
  obtain ⟨k, n, s⟩ := x
  simp only at p0 p1 p2 hw1'
  clear hin hx hr hM hw1 hb hbh hbx
  go_enter Tryz.func23, Tryz.ntmps23
  go_wp2_with fail
  refine co.mono ?_
  clear co
  rintro e w2 ⟨rfl, hb2⟩
  have HB2 : Hid (Below w.heap.size w (w2.alloc (.cells #[.string ⟨#[]⟩, .slice none 0 0] 71))) := (HB1.out.trans (hb2.mono (by omega))).alloc (by have := hb2.size; omega) _
  clear hb2 h0 h1 p0 p1 p2 hw1'
  go_wp2
  go_ret2
  exact ⟨rfl, HB2.out⟩

set_option maxRecDepth 100000 in
set_option maxHeartbeats 4000000 in
theorem refTag_ok (S : Nat → Prop) (m : Nat) (os : List Ob) (v : Value) (j : Nat) (w : World) (hin : objsIn S w v os) (hl : os.length ≤ 1048576) (hj : j < os.length) :
    Calls Tryz.prog 23 #[rhV m v, vlV ⟨4, j, []⟩] w fun e w' => e = .returned (.tuple #[.string (strB (os[j]).1), .int .i64 0]) ∧ Below w.heap.size w w' := by
  obtain ⟨M, hM⟩ : ∃ M : Int, M = (m : Int) := ⟨_, rfl⟩
  obtain ⟨w1, hw1⟩ : ∃ w1, w1 = textW w M v ⟨4, j, []⟩ := ⟨_, rfl⟩
  obtain ⟨hz, hb, hbh, hbx⟩ := textW_facts w M v ⟨4, j, []⟩
  rw [← hw1] at hz hb hbh hbx
  obtain ⟨h0, h1, -⟩ := cellsH2 hbh
  obtain ⟨p0, p1, p2, -⟩ := cellsH3 hbx
  have co := refObj_ok S m os v j w1 (hin.kept hb.size fun q _ hq => hb.block q hq) hl hj
  rw [show rhV m v = .agg #[.int .i64 M, v] by rw [hM]] at co ⊢
  have HB1 : Hid (Below w.heap.size w w1) := hb
  have HW1 : Hid (w1 = textW w M v ⟨4, j, []⟩) := hw1
  obtain ⟨X, hX⟩ : ∃ X, X = os[j] := ⟨_, rfl⟩
  rw [← hX] at co ⊢
  clear hin hM hw1 hb hbh hbx hX
  go_enter Tryz.func23, Tryz.ntmps23
  go_wp2_with fail
  rw [show (w.alloc (.cells #[.int .i64 M, v] 30)).alloc (.cells #[.int .i64 4, .int .i64 j, .string ⟨#[]⟩] 25) = w1 from HW1.out.symm]
  refine co.mono ?_
  clear co
  rintro e w2 ⟨⟨bu, cu, rfl, -⟩, hb2⟩
  have HB2 : Hid (Below w.heap.size w (w2.alloc (.cells #[.string (strB X.1), .slice bu X.2.length cu] 71))) := (HB1.out.trans (hb2.mono (by omega))).alloc (by have := hb2.size; omega) _
  clear hb2 h0 h1 p0 p1 p2
  go_wp2
  go_ret2
  exact ⟨rfl, HB2.out⟩

abbrev rgetW (w : World) (M : Int) (v : Value) (x : Vl) : World := (textW w M v x).alloc (.cells #[.int .i64 0, .int .i64 0, .string ⟨#[]⟩] 25)
theorem rgetW_facts (w : World) (M : Int) (v : Value) (x : Vl) : (rgetW w M v x).heap.size = w.heap.size + 3 ∧ Below w.heap.size w (rgetW w M v x) ∧ (rgetW w M v x).heap[w.heap.size]? = some (.cells #[.int .i64 M, v] 30 (0, 0)) ∧ (rgetW w M v x).heap[w.heap.size + 1]? = some (.cells #[.int .i64 x.k, .int .i64 x.n, .string (strB x.s)] 25 (0, 0)) ∧ (rgetW w M v x).heap[w.heap.size + 2]? = some (.cells #[.int .i64 0, .int .i64 0, .string ⟨#[]⟩] 25 (0, 0)) := by
  obtain ⟨h1, h2, h3, h4⟩ := textW_facts w M v x
  refine ⟨by simp [rgetW], h2.alloc (by omega) _, ?_, ?_, ?_⟩
  · rw [Below.heap_alloc _ _ _ (by omega)]; exact h3
  · rw [Below.heap_alloc _ _ _ (by omega)]; exact h4
  · have := World.alloc_heap_new (textW w M v x) (.cells #[.int .i64 0, .int .i64 0, .string ⟨#[]⟩] 25)
    rwa [h1] at this

set_option maxRecDepth 100000 in
set_option maxHeartbeats 4000000 in
theorem refGet_no (S : Nat → Prop) (m : Nat) (os : List Ob) (v : Value) (x : Vl) (i : Int) (w : World) (hin : objsIn S w v os) (hl : os.length ≤ 1048576) (hx : smallV x) (hr : refB os x = false) :
    Calls Tryz.prog 20 #[rhV m v, vlV x, .int .i64 i] w fun e w' => e = .returned (.tuple #[vlV ⟨0, 0, []⟩, .int .i64 2]) ∧ Below w.heap.size w w' := by
  obtain ⟨M, hM⟩ : ∃ M : Int, M = (m : Int) := ⟨_, rfl⟩
  obtain ⟨w1, hw1⟩ : ∃ w1, w1 = rgetW w M v x := ⟨_, rfl⟩
  obtain ⟨hz, hb, hbh, hbx, hbr⟩ := rgetW_facts w M v x
  rw [← hw1] at hz hb hbh hbx hbr
  obtain ⟨h0, h1, -⟩ := cellsH2 hbh
  obtain ⟨p0, p1, p2, -⟩ := cellsH3 hbx
  have co := refObj_no S m os v x w1 (hin.kept hb.size fun q _ hq => hb.block q hq) hl hx hr
  rw [show rhV m v = .agg #[.int .i64 M, v] by rw [hM]] at co ⊢
  have HB1 : Hid (Below w.heap.size w w1) := hb
  have HBR : Hid (w1.heap[w.heap.size + 2]? = some (.cells #[.int .i64 0, .int .i64 0, .string ⟨#[]⟩] 25 (0, 0))) := hbr
  have HW1 : Hid (w1 = rgetW w M v x) := hw1
  obtain ⟨k, n, s⟩ := x
  simp only at p0 p1 p2
  clear hin hx hr hM hw1 hb hbh hbx hbr
  go_enter Tryz.func20, Tryz.ntmps20
  go_wp2_with fail
  rw [show ((w.alloc (.cells #[.int .i64 M, v] 30)).alloc (.cells #[.int .i64 k, .int .i64 n, .string (strB s)] 25)).alloc (.cells #[.int .i64 0, .int .i64 0, .string ⟨#[]⟩] 25) = w1 from HW1.out.symm]
  refine co.mono ?_
  clear co
  rintro e w3 ⟨rfl, hb3⟩
  have hs3 := hb3.size
  have b1 : (w3.alloc (.cells #[.string ⟨#[]⟩, .slice none 0 0] 71)).heap[w.heap.size + 2]? = some (.cells #[.int .i64 0, .int .i64 0, .string ⟨#[]⟩] 25 (0, 0)) := (Below.heap_alloc _ _ _ (by omega)).trans ((hb3.block _ (by omega)).trans HBR.out)
  have hB4 : Below w.heap.size w (w3.alloc (.cells #[.string ⟨#[]⟩, .slice none 0 0] 71)) := (HB1.out.trans (hb3.mono (by omega))).alloc (by omega) _
  obtain ⟨r0, r1, r2, rf⟩ := cellsH3 b1
  obtain ⟨z0, z1, z2⟩ := set3_cells b1 (.int .i64 0) (.int .i64 0) (.string ⟨#[]⟩)
  have HB5 : Hid (Below w.heap.size w ((((w3.alloc (.cells #[.string ⟨#[]⟩, .slice none 0 0] 71)).setCell ⟨w.heap.size + 2, 0, none⟩ (.int .i64 0)).setCell ⟨w.heap.size + 2, 1, none⟩ (.int .i64 0)).setCell ⟨w.heap.size + 2, 2, none⟩ (.string ⟨#[]⟩))) := set3_below hB4 (by omega) _ _ _
  clear b1 hb3 hB4 h0 h1 p0 p1 p2
  go_wp2
  exact bodyPost_ret (v := .tuple #[vlV ⟨0, 0, []⟩, .int .i64 2]) (by simp [results, Tryz.results20, go_sem, z0, z1, z2]) rfl ⟨rfl, HB5.out⟩

set_option maxRecDepth 100000 in
set_option maxHeartbeats 4000000 in
theorem refGet_none (S : Nat → Prop) (m : Nat) (os : List Ob) (v : Value) (j : Nat) (i : Int) (w : World) (hin : objsIn S w v os) (hl : os.length ≤ 1048576) (hj : j < os.length) (_hk : (os[j]).2.length ≤ 1048576) (hno : hasB i (os[j]).2.length = false) :
    Calls Tryz.prog 20 #[rhV m v, vlV ⟨4, j, []⟩, .int .i64 i] w fun e w' => e = .returned (.tuple #[vlV ⟨0, 0, []⟩, .int .i64 10]) ∧ Below w.heap.size w w' := by
  obtain ⟨M, hM⟩ : ∃ M : Int, M = (m : Int) := ⟨_, rfl⟩
  obtain ⟨w1, hw1⟩ : ∃ w1, w1 = rgetW w M v ⟨4, j, []⟩ := ⟨_, rfl⟩
  obtain ⟨hz, hb, hbh, hbx, hbr⟩ := rgetW_facts w M v ⟨4, j, []⟩
  rw [← hw1] at hz hb hbh hbx hbr
  obtain ⟨h0, h1, -⟩ := cellsH2 hbh
  obtain ⟨p0, p1, p2, -⟩ := cellsH3 hbx
  have co := refObj_ok S m os v j w1 (hin.kept hb.size fun q _ hq => hb.block q hq) hl hj
  rw [show rhV m v = .agg #[.int .i64 M, v] by rw [hM]] at co ⊢
  have HB1 : Hid (Below w.heap.size w w1) := hb
  have HBR : Hid (w1.heap[w.heap.size + 2]? = some (.cells #[.int .i64 0, .int .i64 0, .string ⟨#[]⟩] 25 (0, 0))) := hbr
  have HW1 : Hid (w1 = rgetW w M v ⟨4, j, []⟩) := hw1
  obtain ⟨X, hX⟩ : ∃ X, X = os[j] := ⟨_, rfl⟩
  rw [← hX] at co hno
  have hio : i < 0 ∨ (0 ≤ i ∧ (X.2.length : Int) ≤ i) := by unfold hasB at hno; have := of_decide_eq_false hno; omega
  clear hin hM hw1 hb hbh hbx hbr hX hno
  go_enter Tryz.func20, Tryz.ntmps20
  go_wp2_with fail
  rw [show ((w.alloc (.cells #[.int .i64 M, v] 30)).alloc (.cells #[.int .i64 4, .int .i64 j, .string ⟨#[]⟩] 25)).alloc (.cells #[.int .i64 0, .int .i64 0, .string ⟨#[]⟩] 25) = w1 from HW1.out.symm]
  refine co.mono ?_
  clear co
  rintro e w3 ⟨⟨bu, cu, rfl, -⟩, hb3⟩
  have hs3 := hb3.size
  obtain ⟨w4, hw4⟩ : ∃ w4, w4 = w3.alloc (.cells #[.string (strB X.1), .slice bu X.2.length cu] 71) := ⟨_, rfl⟩
  have b1 : w4.heap[w.heap.size + 2]? = some (.cells #[.int .i64 0, .int .i64 0, .string ⟨#[]⟩] 25 (0, 0)) := by rw [hw4]; exact (Below.heap_alloc _ _ _ (by omega)).trans ((hb3.block _ (by omega)).trans HBR.out)
  have hB4 : Below w.heap.size w w4 := by rw [hw4]; exact (HB1.out.trans (hb3.mono (by omega))).alloc (by omega) _
  have bo : w4.heap[w3.heap.size]? = some (.cells #[.string (strB X.1), .slice bu X.2.length cu] 71 (0, 0)) := by rw [hw4]; exact World.alloc_heap_new _ _
  obtain ⟨y0, y1, -⟩ := cellsH2 bo
  obtain ⟨r0, r1, r2, rf⟩ := cellsH3 b1
  obtain ⟨z0, z1, z2⟩ := set3_cells b1 (.int .i64 0) (.int .i64 0) (.string ⟨#[]⟩)
  have HB5 : Hid (Below w.heap.size w (((w4.setCell ⟨w.heap.size + 2, 0, none⟩ (.int .i64 0)).setCell ⟨w.heap.size + 2, 1, none⟩ (.int .i64 0)).setCell ⟨w.heap.size + 2, 2, none⟩ (.string ⟨#[]⟩))) := set3_below hB4 (by omega) _ _ _
  have hw4' := hw4.symm
  clear b1 hb3 hB4 h0 h1 p0 p1 p2 hw4 bo
  rcases hio with hneg | ⟨hpos, hge⟩
  · go_wp2
    exact bodyPost_ret (v := .tuple #[vlV ⟨0, 0, []⟩, .int .i64 10]) (by simp [results, Tryz.results20, go_sem, z0, z1, z2]) rfl ⟨rfl, HB5.out⟩
  · have hn0 : ¬ i < 0 := by omega
    go_wp2
    exact bodyPost_ret (v := .tuple #[vlV ⟨0, 0, []⟩, .int .i64 10]) (by simp [results, Tryz.results20, go_sem, z0, z1, z2]) rfl ⟨rfl, HB5.out⟩

set_option maxRecDepth 100000 in
set_option maxHeartbeats 4000000 in
theorem refGet_ok (S : Nat → Prop) (m : Nat) (os : List Ob) (v : Value) (j i : Nat) (w : World) (hin : objsIn S w v os) (hl : os.length ≤ 1048576) (hj : j < os.length) (hk : (os[j]).2.length ≤ 1048576) (hi : i < (os[j]).2.length) :
    Calls Tryz.prog 20 #[rhV m v, vlV ⟨4, j, []⟩, .int .i64 (i : Int)] w fun e w' => e = .returned (.tuple #[vlV (os[j]).2[i], .int .i64 0]) ∧ Below w.heap.size w w' := by
  obtain ⟨M, hM⟩ : ∃ M : Int, M = (m : Int) := ⟨_, rfl⟩
  obtain ⟨w1, hw1⟩ : ∃ w1, w1 = rgetW w M v ⟨4, j, []⟩ := ⟨_, rfl⟩
  obtain ⟨hz, hb, hbh, hbx, hbr⟩ := rgetW_facts w M v ⟨4, j, []⟩
  rw [← hw1] at hz hb hbh hbx hbr
  obtain ⟨h0, h1, -⟩ := cellsH2 hbh
  obtain ⟨p0, p1, p2, -⟩ := cellsH3 hbx
  have co := refObj_ok S m os v j w1 (hin.kept hb.size fun q _ hq => hb.block q hq) hl hj
  rw [show rhV m v = .agg #[.int .i64 M, v] by rw [hM]] at co ⊢
  have HB1 : Hid (Below w.heap.size w w1) := hb
  have HBR : Hid (w1.heap[w.heap.size + 2]? = some (.cells #[.int .i64 0, .int .i64 0, .string ⟨#[]⟩] 25 (0, 0))) := hbr
  have HW1 : Hid (w1 = rgetW w M v ⟨4, j, []⟩) := hw1
  obtain ⟨y, hy⟩ : ∃ y, y = (os[j]).2[i] := ⟨_, rfl⟩
  rw [← hy]
  have HY : Hid (y = (os[j]).2[i]) := hy
  obtain ⟨X, hX⟩ : ∃ X, X = os[j] := ⟨_, rfl⟩
  have HX : Hid (X = os[j]) := hX
  rw [← hX] at co hk
  have hi' : i < X.2.length := by rw [hX]; exact hi
  have HYX : Hid (y = X.2[i]) := by show _ = _; subst hX; exact hy
  have hii : (i : Int) < (X.2.length : Int) := by omega
  clear hin hM hw1 hb hbh hbx hbr hX hy
  go_enter Tryz.func20, Tryz.ntmps20
  go_wp2_with fail
  rw [show ((w.alloc (.cells #[.int .i64 M, v] 30)).alloc (.cells #[.int .i64 4, .int .i64 j, .string ⟨#[]⟩] 25)).alloc (.cells #[.int .i64 0, .int .i64 0, .string ⟨#[]⟩] 25) = w1 from HW1.out.symm]
  refine co.mono ?_
  clear co
  rintro e w3 ⟨⟨bu, cu, rfl, hv3⟩, hb3⟩
  have hs3 := hb3.size
  obtain ⟨w4, hw4⟩ : ∃ w4, w4 = w3.alloc (.cells #[.string (strB X.1), .slice bu X.2.length cu] 71) := ⟨_, rfl⟩
  have h14 : Below w1.heap.size w1 w4 := by rw [hw4]; exact hb3.alloc hs3 _
  have b1 : w4.heap[w.heap.size + 2]? = some (.cells #[.int .i64 0, .int .i64 0, .string ⟨#[]⟩] 25 (0, 0)) := (h14.block _ (by omega)).trans HBR.out
  have hB4 : Below w.heap.size w w4 := HB1.out.trans (h14.mono (by omega))
  have bo : w4.heap[w3.heap.size]? = some (.cells #[.string (strB X.1), .slice bu X.2.length cu] 71 (0, 0)) := by rw [hw4]; exact World.alloc_heap_new _ _
  obtain ⟨b9, c9, e9, -, -, hat⟩ := hv3.out.at
  simp only [Value.slice.injEq] at e9
  obtain ⟨rfl, -, rfl⟩ := e9
  obtain ⟨be, oe, rfl, -, hle, t0, t1, t2⟩ := hat i hi'
  rw [← HYX.out] at t0 t1 t2
  obtain ⟨y0, y1, -⟩ := cellsH2 bo
  have s0 := (below_cell h14 hle).trans t0
  have s1 := (below_cell h14 hle).trans t1
  have s2 := (below_cell h14 hle).trans t2
  obtain ⟨r0, r1, r2, rf⟩ := cellsH3 b1
  have rf0 := rf 0
  have rf1 := rf 1
  have rf2 := rf 2
  obtain ⟨z0, z1, z2⟩ := set3_cells b1 (.int .i64 y.k) (.int .i64 y.n) (.string (strB y.s))
  have HB5 : Hid (Below w.heap.size w (((w4.setCell ⟨w.heap.size + 2, 0, none⟩ (.int .i64 y.k)).setCell ⟨w.heap.size + 2, 1, none⟩ (.int .i64 y.n)).setCell ⟨w.heap.size + 2, 2, none⟩ (.string (strB y.s)))) := set3_below hB4 (by omega) _ _ _
  have hw4' := hw4.symm
  have hn0 : ¬ (i : Int) < 0 := by omega
  clear b1 hb3 hB4 h0 h1 p0 p1 p2 hw4 bo t0 t1 t2 hat hv3 h14 rf
  go_wp2
  exact bodyPost_ret (v := .tuple #[vlV y, .int .i64 0]) (by simp [results, Tryz.results20, go_sem, z0, z1, z2]) rfl ⟨rfl, HB5.out⟩
end Go.Proofs.YtchpmnmngeebjaaGreatDoor
/- heap: the document's own Alloc. -/
namespace Go.Proofs.YtchpmnmngeebjaaGreatDoor
open Go.RowKit Go.Shelf

theorem obB_partsH (o : Ob) (n : Int) : obB o n = (o.2.all (fun x => cellV x n) && (decide (o.1 = []) || nameQ o.1)) := by
  unfold obB tagB
  congr 1
  rw [← back_nameD]
  by_cases h : o.1 = [] <;> by_cases h2 : backB 1 0 o.1 <;> simp [h, h2]

theorem obsC_get {os : List Ob} {vs : List Value} {j : Nat} {u : Value} (hl : vs.length = os.length) (h : (obsC os vs)[j]? = some u) : ∃ i, ∃ hi : i < os.length, (j = i * 2 ∧ u = .string (strB (os[i]).1)) ∨ (j = i * 2 + 1 ∧ vs[i]? = some u) := by
  have hj : j < (obsC os vs).length := (List.getElem?_eq_some_iff.1 h).1
  rw [obsC_len os vs hl] at hj
  have hi : j / 2 < os.length := by omega
  obtain ⟨q0, q1⟩ := obsC_at os vs hl (j / 2) hi
  refine ⟨j / 2, hi, ?_⟩
  have hr : j % 2 = 0 ∨ j % 2 = 1 := by omega
  rcases hr with hr | hr
  · have e : j / 2 * 2 = j := by omega
    rw [e, h] at q0
    exact .inl ⟨e.symm, Option.some.inj q0⟩
  · have e : j / 2 * 2 + 1 = j := by omega
    rw [e, h] at q1
    exact .inr ⟨e.symm, q1.symm⟩

theorem obs_one {os : List Ob} {vs : List Value} (hl : vs.length = os.length) (hv : ∀ u ∈ vs, u.oneCell' = true) : ∀ u ∈ obsC os vs, u.oneCell' = true := by
  intro u hu
  obtain ⟨j, hj⟩ := List.getElem?_of_mem hu
  obtain ⟨i, hi, ⟨-, rfl⟩ | ⟨-, h⟩⟩ := obsC_get hl hj
  · rfl
  · exact hv u (List.mem_of_getElem? h)

/-- The cells of objects that lie there. -/
theorem objsIn.rows {S : Nat → Prop} {w : World} {v : Value} {os : List Ob} (h : objsIn S w v os) : ∃ us : List Value, us.length = os.length ∧ (∀ i (hi : i < os.length), ∃ u, us[i]? = some u ∧ valsIn S w u (os[i]).2) ∧ (∀ b o cap, v = .slice (some ⟨b, o, none⟩) os.length cap → ∀ j u, (obsC os us)[j]? = some u → b < w.heap.size ∧ w.cell? ⟨b, o + j, none⟩ = some u) := by
  obtain ⟨base, cap, rfl, -, -, hat⟩ := h.at
  have each : ∀ i, i < os.length → ∃ u : Value, (∀ hi : i < os.length, ∃ b o, base = some ⟨b, o, none⟩ ∧ b < w.heap.size ∧ w.cell? ⟨b, o + i * 2, none⟩ = some (.string (strB (os[i]).1)) ∧ w.cell? ⟨b, o + i * 2 + 1, none⟩ = some u ∧ valsIn S w u (os[i]).2) := fun i hi => by
    obtain ⟨b, o, u, e, -, hlt, c0, c1, hv⟩ := hat i hi
    exact ⟨u, fun _ => ⟨b, o, e, hlt, c0, c1, hv⟩⟩
  obtain ⟨f, hf⟩ := Deep.choose_lt each
  have hll : ((List.range os.length).map f).length = os.length := by simp
  refine ⟨(List.range os.length).map f, hll, fun i hi => ?_, fun b o cap' e j u hj => ?_⟩
  · obtain ⟨b, o, -, -, -, -, hv⟩ := hf i hi hi
    exact ⟨f i, by simp [hi], hv⟩
  · obtain ⟨i, hi, hcase⟩ := obsC_get hll hj
    obtain ⟨b', o', e', hlt, c0, c1, -⟩ := hf i hi hi
    simp only [Value.slice.injEq] at e
    rw [e.1] at e'
    simp only [Option.some.injEq, Addr.mk.injEq, and_true] at e'
    obtain ⟨rfl, rfl⟩ := e'
    rcases hcase with ⟨rfl, rfl⟩ | ⟨rfl, h9⟩
    · exact ⟨hlt, c0⟩
    · simp [hi] at h9
      subst h9
      exact ⟨hlt, by rw [← Nat.add_assoc]; exact c1⟩

/-- Values in a row take one cell each. -/
theorem vals_oneCell {S : Nat → Prop} {w : World} {u : Value} {l : List Vl} (h : valsIn S w u l) : u.oneCell' = true := by
  obtain ⟨base, cap, rfl, -⟩ := h
  rfl

/-- A row of objects that is owned, whose values lie where they lie. -/
theorem objsIn_own {S : Nat → Prop} {w : World} {B : Nat} {v : Value} {os : List Ob} {us : List Value} (hl : us.length = os.length) (h : w.ownsRow B 71 2 v os.length (obsC os us)) (hS : ∀ k, B ≤ k → S k) (hv : ∀ i (hi : i < os.length), ∃ u, us[i]? = some u ∧ valsIn S w u (os[i]).2) : objsIn S w v os := by
  rcases h.2 with ⟨e, h0⟩ | ⟨g, cap, cur, e, hg, hh, h1, h2, _, _⟩
  · exact ⟨none, 0, by rw [e, h0], by omega, Nat.zero_le _, .inl (List.length_eq_zero_iff.1 h0)⟩
  · refine ⟨_, cap, e, h1, h2, .inr ⟨g, 0, rfl, hS g hg, (Array.getElem?_eq_some_iff.1 hh).1, fun j hj => ?_⟩⟩
    obtain ⟨u, hu, ho⟩ := hv j hj
    obtain ⟨a0, a1⟩ := obsC_at os us hl j hj
    have key : ∀ q z, (obsC os us)[q]? = some z → w.cell? ⟨g, 0 + q, none⟩ = some z := fun q z hq => by
      have := h.cells (g := g) (by rw [e]; rfl) q z hq
      by_cases h0 : q = 0
      · subst h0; simpa [Addr.add] using this
      · simpa [Addr.add, h0] using this
    exact ⟨u, key _ _ a0, by have := key _ _ (a1.trans hu); rwa [← Nat.add_assoc] at this, ho⟩

theorem step_append_nil {P : Program} {ops : Array Oper} {o : Oper} {a : Act} {w : World} {K : Act → World → Prop} {Q : Exit → Act → World → Prop} {E : Prop} (s x : Operand) (t : TypeId)
    (ho : o.op = .call { callee := .builtin .append, args := #[s, x], argTypes := #[t, t] }) (hw : Region.wanted o (yielded ops a.tmps) = true)
    (base : Nat) (e : TypeId) (i : TypeInfo) (size : Nat) (ht : P.underlying t = some (.slice e)) (hi : P.info? e = some i)
    (v : Value) (n : Nat) (xs : List Value) (hs : a.eval s = v) (hown : w.ownsRow base e size v n xs) (hx : a.eval x = .slice none 0 0) (h : K (a.put o.dst v) w) :
    if Region.wanted o (yielded ops a.tmps) = true then Oper.wp P o a w K Q else E := by
  rw [if_pos hw]
  have hrun := run_append_owned_none (P := P) (w := w) base t o.type e i size ht hi _ _ _ hown
  unfold Oper.wp
  simp [execOp, ho, resolve, invoke, builtin, hs, hx, hrun, Result.andThen]
  exact h

/-- append of objects that lie there onto a row without any. -/
theorem step_append_objs {ops : Array Oper} {o : Oper} {a : Act} {w : World} {K : Act → World → Prop} {Q : Exit → Act → World → Prop} {E : Prop} (s x : Operand)
    (ho : o.op = .call { callee := .builtin .append, args := #[s, x], argTypes := #[28, 28] }) (hw : Region.wanted o (yielded ops a.tmps) = true)
    (base : Nat) (v : Value) (hs : a.eval s = v) (hown : w.ownsRow base 71 2 v 0 []) (hbase : base ≤ w.heap.size)
    (bL : Option Addr) (cL : Nat) (os : List Ob) (us : List Value) (hx : a.eval x = .slice bL os.length cL) (hform : Value.slice bL os.length cL = .slice none 0 0 ∨ ∃ ad n c, Value.slice bL os.length cL = .slice (some ad) n c) (hsp : ∀ ad, bL = some ad → 1 ≤ os.length → ∃ b o, ad = ⟨b, o, none⟩)
    (hl : us.length = os.length) (h1 : ∀ u ∈ obsC os us, u.oneCell' = true) (hc : ∀ b o cap, Value.slice bL os.length cL = .slice (some ⟨b, o, none⟩) os.length cap → ∀ j u, (obsC os us)[j]? = some u → w.cell? ⟨b, o + j, none⟩ = some u) (hn : os.length ≤ 4096)
    (h : ∀ v' w', w'.ownsRow base 71 2 v' os.length (obsC os us) → w.grownBy w' v.ownBlock → K (a.put o.dst v') w') :
    if Region.wanted o (yielded ops a.tmps) = true then Oper.wp Tryz.prog o a w K Q else E := by
  obtain ⟨i0, hi0, hz0, hz1, hz2⟩ := info_parts info_Obj
  rcases hform with hf | ⟨ad, n, c, hf⟩
  · simp only [Value.slice.injEq] at hf
    obtain ⟨rfl, h0, rfl⟩ := hf
    have hos : os = [] := List.length_eq_zero_iff.1 h0
    subst hos
    refine step_append_nil s x 28 ho hw base 71 i0 2 Tryz.underlying28 hi0 v 0 [] hs hown hx ?_
    refine h v w ?_ (grownBy_refl _ _)
    cases us with
    | nil => exact hown
    | cons => simp at hl
  · simp only [Value.slice.injEq] at hf
    obtain ⟨rfl, -, rfl⟩ := hf
    refine step_append_at s x 28 ho hw base 71 i0 _ 2 40 Tryz.underlying28 hi0 hz0 hz1 hz2 rfl (by decide) v 0 [] hs hown ad os.length cL (obsC os us) hx (by rw [obsC_len os us hl]) (fun j u hj => ?_) h1 (by unfold maxLen; omega) (by omega) hbase ?_
    · have hpos : 1 ≤ os.length := by
        have := (List.getElem?_eq_some_iff.1 hj).1
        rw [obsC_len os us hl] at this
        omega
      obtain ⟨b, o, rfl⟩ := hsp ad rfl hpos
      rw [addr_plain]
      exact hc b o cL rfl j u hj
    · intro v' w' ho' hg' _
      refine h v' w' ?_ hg'
      simpa using ho'
end Go.Proofs.YtchpmnmngeebjaaGreatDoor
/- heap: the document's own Alloc, whole. -/
namespace Go.Proofs.YtchpmnmngeebjaaGreatDoor
open Go.RowKit Go.Shelf

abbrev ralW (w : World) (M : Int) (v : Value) : World := ((w.alloc (.cells #[.int .i64 M, v] 30)).alloc (.cells #[.int .i64 0, .slice none 0 0] 30)).alloc (.cells #[.int .i64 0, .int .i64 0, .string ⟨#[]⟩] 25)
theorem ralW_facts (w : World) (M : Int) (v : Value) : (ralW w M v).heap.size = w.heap.size + 3 ∧ Below w.heap.size w (ralW w M v) ∧ (ralW w M v).heap[w.heap.size]? = some (.cells #[.int .i64 M, v] 30 (0, 0)) ∧ (ralW w M v).heap[w.heap.size + 1]? = some (.cells #[.int .i64 0, .slice none 0 0] 30 (0, 0)) ∧ (ralW w M v).heap[w.heap.size + 2]? = some (.cells #[.int .i64 0, .int .i64 0, .string ⟨#[]⟩] 25 (0, 0)) := by
  refine ⟨by simp, (((Below.refl _ w).alloc (Nat.le_refl _) _).alloc (by simp) _).alloc (by simp; omega) _, ?_, ?_, ?_⟩
  · rw [Below.heap_alloc _ _ _ (by simp; omega), Below.heap_alloc _ _ _ (by simp)]; exact World.alloc_heap_new _ _
  · rw [Below.heap_alloc _ _ _ (by simp)]
    have := World.alloc_heap_new (w.alloc (.cells #[.int .i64 M, v] 30)) (.cells #[.int .i64 0, .slice none 0 0] 30)
    simpa using this
  · have := World.alloc_heap_new ((w.alloc (.cells #[.int .i64 M, v] 30)).alloc (.cells #[.int .i64 0, .slice none 0 0] 30)) (.cells #[.int .i64 0, .int .i64 0, .string ⟨#[]⟩] 25)
    simpa using this

/-- What the document's Alloc answers. -/
def refAllocP (m : Nat) (os : List Ob) (o : Ob) (v : Value) (S : Nat → Prop) (w : World) (e : Ending) (w' : World) : Prop :=
  Below w.heap.size w w' ∧ ((obB o (os.length : Int) = false ∧ e = .returned (.tuple #[rhV m v, vlV ⟨0, 0, []⟩, .int .i64 2])) ∨
    (obB o (os.length : Int) = true ∧ m < os.length + (allV os).length + (1 + o.2.length) ∧ e = .returned (.tuple #[rhV m v, vlV ⟨0, 0, []⟩, .int .i64 12])) ∨
    (obB o (os.length : Int) = true ∧ ¬ m < os.length + (allV os).length + (1 + o.2.length) ∧ ∃ v', e = .returned (.tuple #[rhV m v', vlV ⟨4, os.length, []⟩, .int .i64 0]) ∧ objsIn (fun q => S q ∨ w.heap.size ≤ q) w' v' (os ++ [o]) ∧ ∃ ad n c, v' = .slice (some ad) n c))

/-- The two results' blocks, written. -/
theorem set5R {w : World} {R : Nat} {M : Int} {v : Value} {x0 x1 y0 y1 y2 : Value} (h1 : w.heap[R]? = some (.cells #[x0, x1] 30 (0, 0))) (h2 : w.heap[R + 1]? = some (.cells #[y0, y1, y2] 25 (0, 0))) (a b c : Value) :
    let W := ((((w.setCell ⟨R, 0, none⟩ (.int .i64 M)).setCell ⟨R, 1, none⟩ v).setCell ⟨R + 1, 0, none⟩ a).setCell ⟨R + 1, 1, none⟩ b).setCell ⟨R + 1, 2, none⟩ c
    W.cell? ⟨R, 0, none⟩ = some (.int .i64 M) ∧ W.cell? ⟨R, 1, none⟩ = some v ∧ W.cell? ⟨R + 1, 0, none⟩ = some a ∧ W.cell? ⟨R + 1, 1, none⟩ = some b ∧ W.cell? ⟨R + 1, 2, none⟩ = some c := by
  intro W
  have k1 := setCellH_block (j := 1) v (setCellH_block (j := 0) (.int .i64 M) h1)
  have k2 : ((w.setCell ⟨R, 0, none⟩ (.int .i64 M)).setCell ⟨R, 1, none⟩ v).heap[R + 1]? = some (.cells #[y0, y1, y2] 25 (0, 0)) := by
    rw [Below.heap_setCell _ _ _ _ (by simp), Below.heap_setCell _ _ _ _ (by simp)]; exact h2
  have k3 := setCellH_block (j := 2) c (setCellH_block (j := 1) b (setCellH_block (j := 0) a k2))
  obtain ⟨c0, c1, c2, -⟩ := cellsH3 (x0 := a) (x1 := b) (x2 := c) k3
  have k4 : W.heap[R]? = some (.cells #[.int .i64 M, v] 30 (0, 0)) := by
    show ((((w.setCell ⟨R, 0, none⟩ (.int .i64 M)).setCell ⟨R, 1, none⟩ v).setCell ⟨R + 1, 0, none⟩ a).setCell ⟨R + 1, 1, none⟩ b).setCell ⟨R + 1, 2, none⟩ c |>.heap[R]? = _
    rw [Below.heap_setCell _ _ _ _ (by simp), Below.heap_setCell _ _ _ _ (by simp), Below.heap_setCell _ _ _ _ (by simp)]; exact k1
  obtain ⟨d0, d1, -⟩ := cellsH2 k4
  exact ⟨d0, d1, c0, c1, c2⟩
theorem set5R_below {B R : Nat} {a w : World} (h : Below B a w) (hR : B ≤ R) (x0 x1 x2 x3 x4 : Value) : Below B a (((((w.setCell ⟨R, 0, none⟩ x0).setCell ⟨R, 1, none⟩ x1).setCell ⟨R + 1, 0, none⟩ x2).setCell ⟨R + 1, 1, none⟩ x3).setCell ⟨R + 1, 2, none⟩ x4) :=
  ((((h.setCell hR x0).setCell hR x1).setCell (by simp only; omega) x2).setCell (by simp only; omega) x3).setCell (by simp only; omega) x4

set_option maxRecDepth 100000 in
set_option maxHeartbeats 8000000 in
theorem refAlloc_any (S T : Nat → Prop) (m : Nat) (os : List Ob) (v : Value) (o : Ob) (vl : Value) (w : World) (hin : objsIn S w v os) (hlow : ∀ q, S q → q < w.heap.size) (hform : v = .slice none 0 0 ∨ ∃ ad n c, v = .slice (some ad) n c) (hv : valsIn T w vl o.2) (hvf : vl = .slice none 0 0 ∨ ∃ ad n c, vl = .slice (some ad) n c) (ho : smallO o) (hol : o.2.length ≤ 1048576) (hm : m ≤ 4096) (hu : os.length + (allV os).length ≤ 4096) :
    Calls Tryz.prog 27 #[rhV m v, .string (strB o.1), vl] w (refAllocP m os o v S w) := by
  obtain ⟨i0, hi0, hz0, hz1, hz2⟩ := info_parts info_Obj
  obtain ⟨bL, cL, rfl, hL1, hL2, -⟩ := hin.at
  obtain ⟨bu, cu, rfl, hu1, hu2, -⟩ := hv.at
  obtain ⟨M, hM⟩ : ∃ M : Int, M = (m : Int) := ⟨_, rfl⟩
  have HM : Hid (M = (m : Int)) := hM
  rw [show rhV m (.slice bL os.length cL) = .agg #[.int .i64 M, .slice bL os.length cL] by rw [hM]]
  obtain ⟨w1, hw1⟩ : ∃ w1, w1 = ralW w M (.slice bL os.length cL) := ⟨_, rfl⟩
  obtain ⟨hz, hb, hbh, hbr, hbv⟩ := ralW_facts w M (.slice bL os.length cL)
  rw [← hw1] at hz hb hbh hbr hbv
  obtain ⟨h0, h1, -⟩ := cellsH2 hbh
  have HW1 : Hid (w1 = ralW w M (.slice bL os.length cL)) := hw1
  have HB1 : Hid (Below w.heap.size w w1) := hb
  have HBH : Hid (w1.heap[w.heap.size]? = some (.cells #[.int .i64 M, .slice bL os.length cL] 30 (0, 0))) := hbh
  have HBR : Hid (w1.heap[w.heap.size + 1]? = some (.cells #[.int .i64 0, .slice none 0 0] 30 (0, 0))) := hbr
  have HBV : Hid (w1.heap[w.heap.size + 2]? = some (.cells #[.int .i64 0, .int .i64 0, .string ⟨#[]⟩] 25 (0, 0))) := hbv
  have HIN : Hid (objsIn S w (.slice bL os.length cL) os) := hin
  have HFM : Hid (Value.slice bL os.length cL = .slice none 0 0 ∨ ∃ ad n c, Value.slice bL os.length cL = .slice (some ad) n c) := hform
  have HV : Hid (valsIn T w (.slice bu o.2.length cu) o.2) := hv
  have HVF : Hid (Value.slice bu o.2.length cu = .slice none 0 0 ∨ ∃ ad n c, Value.slice bu o.2.length cu = .slice (some ad) n c) := hvf
  have hol9 : os.length ≤ 4096 := by omega
  have HLOW : Hid (∀ q, S q → q < w.heap.size) := hlow
  have hnm := refName_any o.1 w1 (by have := ho.1; omega)
  have hce := fun W (h : Below w1.heap.size w1 W) => refCells_any T o.2 (.slice bu o.2.length cu) (os.length : Int) W (hv.kept (Nat.le_trans hb.size h.size) fun k _ hk => (h.block k (by omega)).trans (hb.block k hk)) ho.2 hol
  have HOB : Hid (obB o (os.length : Int) = (o.2.all (fun x => cellV x (os.length : Int)) && (decide (o.1 = []) || nameQ o.1))) := obB_partsH o _
  obtain ⟨OBX, hOBX⟩ : ∃ OBX, OBX = obB o (os.length : Int) := ⟨_, rfl⟩
  have HOBX : Hid (OBX = obB o (os.length : Int)) := hOBX
  rw [← hOBX] at HOB
  obtain ⟨U, hU⟩ : ∃ U, U = os.length + (allV os).length := ⟨_, rfl⟩
  have HU : Hid (U = os.length + (allV os).length) := hU
  have hUl : U ≤ 4096 := by omega
  obtain ⟨tag, cs⟩ := o
  simp only at *
  obtain ⟨CB, hCB⟩ : ∃ CB, CB = cs.all (fun x => cellV x (os.length : Int)) := ⟨_, rfl⟩
  rw [← hCB] at HOB
  have HCE : Hid (∀ W, Below w1.heap.size w1 W → Calls Tryz.prog 51 #[.slice bu cs.length cu, .int .i64 (os.length : Int)] W fun e w' => e = .returned (.bool CB) ∧ Below W.heap.size W w') := by rw [hCB]; exact hce
  have htl : tag.length ≤ 1048576 := ho.1
  clear hin hlow hform hv hvf ho hu hce hOBX hCB hU hM hw1 hb hbh hbr hbv
  go_enter Tryz.func27, Tryz.ntmps27
  go_upto_region 1 with fail
  rw [show ((w.alloc (.cells #[.int .i64 M, .slice bL os.length cL] 30)).alloc (.cells #[.int .i64 0, .slice none 0 0] 30)).alloc (.cells #[.int .i64 0, .int .i64 0, .string ⟨#[]⟩] 25) = w1 from HW1.out.symm]
  go_cut [23] (fun t wx => t = .bool (!OBX) ∧ Below w1.heap.size w1 wx)
  case first =>
    by_cases htn : tag = []
    · subst htn
      have c := HCE.out w1 (Below.refl _ _)
      have HE : Hid (OBX = CB) := by show _ = _; rw [HOB.out]; simp
      clear hnm
      cases CB with
      | true =>
        go_wp2_with fail
        refine c.mono ?_
        clear c
        rintro e w3 ⟨rfl, hb3⟩
        have HB3 : Hid (Below w1.heap.size w1 w3) := hb3
        clear hb3
        go_wp2_with fail
        go_meet
        exact ⟨by rw [HE.out]; rfl, HB3.out⟩
      | false =>
        go_wp2_with fail
        refine c.mono ?_
        clear c
        rintro e w3 ⟨rfl, hb3⟩
        have HB3 : Hid (Below w1.heap.size w1 w3) := hb3
        clear hb3
        go_wp2_with fail
        go_meet
        exact ⟨by rw [HE.out]; rfl, HB3.out⟩
    · have HE : Hid (OBX = (CB && nameQ tag)) := by show _ = _; rw [HOB.out]; simp [htn]
      obtain ⟨c0, c9, rfl⟩ := List.exists_cons_of_ne_nil htn
      cases hq : nameQ (c0 :: c9) with
      | false =>
        rw [hq] at hnm HE
        clear hq
        go_wp2_with fail
        refine hnm.mono ?_
        clear hnm
        rintro e w3 ⟨rfl, hb3⟩
        have HB3 : Hid (Below w1.heap.size w1 w3) := hb3
        clear hb3
        go_wp2_with fail
        go_meet
        exact ⟨by rw [HE.out]; simp, HB3.out⟩
      | true =>
        rw [hq] at hnm HE
        clear hq
        go_wp2_with fail
        refine hnm.mono ?_
        clear hnm
        rintro e w3 ⟨rfl, hb3⟩
        have HB3 : Hid (Below w1.heap.size w1 w3) := hb3
        have s1 := (below_cell hb3 (by omega)).trans h1
        have c := HCE.out w3 hb3
        clear hb3 h0 h1
        cases CB with
        | true =>
          go_wp2_with fail
          refine c.mono ?_
          clear c
          rintro e w4 ⟨rfl, hb4⟩
          have HB4 : Hid (Below w1.heap.size w1 w4) := HB3.out.trans (hb4.mono HB3.out.size)
          clear hb4
          go_wp2_with fail
          go_meet
          exact ⟨by rw [HE.out]; rfl, HB4.out⟩
        | false =>
          go_wp2_with fail
          refine c.mono ?_
          clear c
          rintro e w4 ⟨rfl, hb4⟩
          have HB4 : Hid (Below w1.heap.size w1 w4) := HB3.out.trans (hb4.mono HB3.out.size)
          clear hb4
          go_wp2_with fail
          go_meet
          exact ⟨by rw [HE.out]; rfl, HB4.out⟩
  case rest =>
    obtain ⟨rfl, hbc⟩ := hcut
    have hsc := hbc.size
    have HBc : Hid (Below w1.heap.size w1 wc) := hbc
    obtain ⟨g0, g1, -⟩ := cellsH2 ((hbc.block w.heap.size (by omega)).trans HBH.out)
    clear hbc h0 h1 hnm HCE HOB
    cases OBX with
    | false =>
      obtain ⟨q0, q1, qf⟩ := cellsH2 ((HBc.out.block (w.heap.size + 1) (by omega)).trans HBR.out)
      obtain ⟨r0, r1, r2, rf⟩ := cellsH3 ((HBc.out.block (w.heap.size + 2) (by omega)).trans HBV.out)
      have qf0 := qf 0
      have qf1 := qf 1
      have rf0 := rf 0
      have rf1 := rf 1
      have rf2 := rf 2
      obtain ⟨z0, z1, z2, z3, z4⟩ := set5R (M := M) (v := .slice bL os.length cL) ((HBc.out.block (w.heap.size + 1) (by omega)).trans HBR.out) ((HBc.out.block (w.heap.size + 2) (by omega)).trans HBV.out) (.int .i64 0) (.int .i64 0) (.string ⟨#[]⟩)
      have HB9 := set5R_below (R := w.heap.size + 1) (HB1.out.trans (HBc.out.mono (by omega))) (by omega) (.int .i64 M) (.slice bL os.length cL) (.int .i64 0) (.int .i64 0) (.string ⟨#[]⟩)
      have HB9' : Hid (Below w.heap.size w _) := HB9
      clear HB9 qf rf
      go_wp2
      exact bodyPost_ret (v := .tuple #[.agg #[.int .i64 M, .slice bL os.length cL], vlV ⟨0, 0, []⟩, .int .i64 2]) (by simp [results, Tryz.results27, go_sem, z0, z1, z2, z3, z4]) rfl ⟨HB9'.out, .inl ⟨HOBX.out.symm, by rw [HM.out]⟩⟩
    | true =>
      have HC : Hid (∀ wx, Below wc.heap.size wc wx → Calls Tryz.prog 9 #[.agg #[.int .i64 M, .slice bL os.length cL]] wx fun e w'' => e = .returned (.int .i64 (U : Int)) ∧ Below wc.heap.size wc w'') := fun wx hx => by
        have hbx : Below w.heap.size w wx := HB1.out.trans ((HBc.out.trans (hx.mono hsc)).mono (by omega))
        rw [HM.out, HU.out]
        exact (refUsed_any S m os (.slice bL os.length cL) wx (HIN.out.kept hbx.size fun q _ hq => hbx.block q hq) (by have := HU.out; omega)).mono fun e w'' ⟨he, hb⟩ => ⟨he, hx.trans (hb.mono hx.size)⟩
      have x0 := cls_cell (n := wc.heap.size) g0 (by simp only; omega)
      have x1 := cls_cell (n := wc.heap.size) g1 (by simp only; omega)
      have hMb : 0 ≤ M ∧ M ≤ 4096 := by have := HM.out; omega
      have hMU : IntKind.i64.wrap (M - (U : Int)) = M - (U : Int) := by rw [IntKind.wrap_i64]; omega
      go_upto_region 3 with fail
      by_cases hfull : m < U + (1 + cs.length)
      · have hfi : M - (U : Int) ≤ (cs.length : Int) := by have := HM.out; omega
        refine wp_region_cls (n := wc.heap.size) (w0 := wc) (Below.refl _ _) (by kernel_rfl) (by kernel_rfl) ?_
        iterate 5 (go_big_quiet_step (fail))
        go_big_quiet_step (exact cls_calls HC.out _)
        iterate 2 (go_big_quiet_step (fail))
        refine wpQuiet_nil ?_
        rintro _ ⟨c, rfl⟩
        have HBd : Hid (Below w1.heap.size w1 c.1) := HBc.out.trans (c.2.mono hsc)
        have y0 := x0 c
        have y1 := x1 c
        clear x0 x1 g0 g1
        obtain ⟨q0, q1, qf⟩ := cellsH2 ((HBd.out.block (w.heap.size + 1) (by omega)).trans HBR.out)
        obtain ⟨r0, r1, r2, rf⟩ := cellsH3 ((HBd.out.block (w.heap.size + 2) (by omega)).trans HBV.out)
        have qf0 := qf 0
        have qf1 := qf 1
        have rf0 := rf 0
        have rf1 := rf 1
        have rf2 := rf 2
        obtain ⟨z0, z1, z2, z3, z4⟩ := set5R (M := M) (v := .slice bL os.length cL) ((HBd.out.block (w.heap.size + 1) (by omega)).trans HBR.out) ((HBd.out.block (w.heap.size + 2) (by omega)).trans HBV.out) (.int .i64 0) (.int .i64 0) (.string ⟨#[]⟩)
        have HB9 := set5R_below (R := w.heap.size + 1) (HB1.out.trans (HBd.out.mono (by omega))) (by omega) (.int .i64 M) (.slice bL os.length cL) (.int .i64 0) (.int .i64 0) (.string ⟨#[]⟩)
        have HB9' : Hid (Below w.heap.size w _) := HB9
        clear HB9 qf rf
        go_wp2
        exact bodyPost_ret (v := .tuple #[.agg #[.int .i64 M, .slice bL os.length cL], vlV ⟨0, 0, []⟩, .int .i64 12]) (by simp [results, Tryz.results27, go_sem, z0, z1, z2, z3, z4]) rfl ⟨HB9'.out, .inr (.inl ⟨HOBX.out.symm, by rw [← HU.out]; exact hfull, by rw [HM.out]⟩)⟩
      · have hfi : ¬ M - (U : Int) ≤ (cs.length : Int) := by have := HM.out; omega
        refine wp_region_cls (n := wc.heap.size) (w0 := wc) (Below.refl _ _) (by kernel_rfl) (by kernel_rfl) ?_
        iterate 5 (go_big_quiet_step (fail))
        go_big_quiet_step (exact cls_calls HC.out _)
        iterate 2 (go_big_quiet_step (fail))
        refine wpQuiet_nil ?_
        rintro _ ⟨c, rfl⟩
        obtain ⟨wd, hwd⟩ : ∃ wd, wd = c.1 := ⟨_, rfl⟩
        have hbd : Below w1.heap.size w1 wd := by rw [hwd]; exact HBc.out.trans (c.2.mono hsc)
        have y0 := x0 c
        have y1 := x1 c
        rw [← hwd] at y0 y1 ⊢
        have hsd := hbd.size
        have HBd : Hid (Below w1.heap.size w1 wd) := hbd
        have HBwd : Hid (Below w.heap.size w wd) := HB1.out.trans (hbd.mono (by omega))
        obtain ⟨us, husl, husv, husc⟩ := (HIN.out.kept HBwd.out.size fun q _ hq => HBwd.out.block q hq).rows
        have HUV : Hid (∀ i (hi : i < os.length), ∃ u, us[i]? = some u ∧ valsIn S wd u (os[i]).2) := husv
        have HUC : Hid (∀ b o cap, Value.slice bL os.length cL = .slice (some ⟨b, o, none⟩) os.length cap → ∀ j u, (obsC os us)[j]? = some u → b < wd.heap.size ∧ wd.cell? ⟨b, o + j, none⟩ = some u) := husc
        have HU1 : Hid (∀ u ∈ obsC os us, u.oneCell' = true) := obs_one husl fun u hu => by
          obtain ⟨j, hj⟩ := List.getElem?_of_mem hu
          have hjl : j < os.length := by rw [← husl]; exact (List.getElem?_eq_some_iff.1 hj).1
          obtain ⟨u', e', hv'⟩ := husv j hjl
          rw [hj] at e'
          cases e'
          exact vals_oneCell hv'
        have HUL : Hid (us.length = os.length) := husl
        have HVd : Hid (valsIn T wd (.slice bu cs.length cu) cs) := HV.out.kept HBwd.out.size fun q _ hq => HBwd.out.block q hq
        haveI hne : Nonempty (ClsP fun W => W.cell? ⟨w.heap.size, 0, none⟩ = some (.int .i64 M) ∧ W.cell? ⟨w.heap.size, 1, none⟩ = some (.slice bL os.length cL)) := ⟨⟨wd, y0, y1⟩⟩
        have X0 : ∀ c : ClsP fun W => W.cell? ⟨w.heap.size, 0, none⟩ = some (.int .i64 M) ∧ W.cell? ⟨w.heap.size, 1, none⟩ = some (.slice bL os.length cL), c.1.cell? ⟨w.heap.size, 0, none⟩ = some (.int .i64 M) := fun c => c.2.1
        have X1 : ∀ c : ClsP fun W => W.cell? ⟨w.heap.size, 0, none⟩ = some (.int .i64 M) ∧ W.cell? ⟨w.heap.size, 1, none⟩ = some (.slice bL os.length cL), c.1.cell? ⟨w.heap.size, 1, none⟩ = some (.slice bL os.length cL) := fun c => c.2.2
        clear x0 x1 g0 g1 hwd hbd husv husc husl HC c
        have hwlt : w.heap.size < wd.heap.size := by omega
        have HOW0 : Hid ((wd.alloc (.cells #[] 71)).drew.ownsRow wd.heap.size 71 2 (.slice (some ⟨wd.heap.size, 0, none⟩) 0 0) 0 []) := World.ownsRow_made wd #[] 0 (Nat.le_refl _) (Nat.zero_le _) rfl
        have HSP : Hid (∀ ad, bL = some ad → 1 ≤ os.length → ∃ b o, ad = ⟨b, o, none⟩) := fun ad e h1 => by
          obtain ⟨b9, c9, e9, -, -, hat⟩ := HIN.out.at
          simp only [Value.slice.injEq] at e9
          obtain ⟨b, o, u, e8, -⟩ := hat 0 (by omega)
          rw [← e9.1, e] at e8
          exact ⟨b, o, Option.some.inj e8⟩
        go_upto_region 5 with fail
        refine mix_begin (n := 20) (S := fun w' => ∃ c : ClsP fun W => W.cell? ⟨w.heap.size, 0, none⟩ = some (.int .i64 M) ∧ W.cell? ⟨w.heap.size, 1, none⟩ = some (.slice bL os.length cL), w' = c.1) (by kernel_rfl) rfl rfl ?_
        refine mix_seg (fuel := 10) (fuel' := 20) (idx := [0, 1, 3, 4, 6, 7, 13, 14, 15, 16]) (by kernel_rfl) rfl rfl rfl (fun _ _ _ _ _ h => h) ⟨⟨wd.drew, y0, y1⟩, rfl⟩ ?_
        show wpQuiet _ _ _ _ [_, _, _, _, _, _, _, _, _, _] _
        iterate 10 (go_big_quiet_step (fail))
        refine wpQuiet_nil ?_
        refine mix_loud (fuel := 9) (fuel' := 10) (i := 2) rfl (by kernel_rfl) rfl rfl (by rfl) ?_
        intro K hK
        go_simp
        refine hK.out _ _ ⟨⟨(wd.alloc (.cells #[] 71)).drew, (show (wd.alloc (.cells #[] 71)).cell? ⟨w.heap.size, 0, none⟩ = _ from Lib.cell?_alloc_some _ y0), (show (wd.alloc (.cells #[] 71)).cell? ⟨w.heap.size, 1, none⟩ = _ from Lib.cell?_alloc_some _ y1)⟩, rfl⟩ ?_
        clear hK K
        refine mix_law (fuel := 8) (fuel' := 9) (i := 5) rfl (by kernel_rfl) rfl rfl (by rfl) ?_
        intro K hK
        refine step_append_objs (.tmp 38) (.tmp 40) rfl (by rfl) wd.heap.size _ rfl HOW0.out (by simp) bL cL os us rfl HFM.out HSP.out HUL.out HU1.out (fun b o cap e j u hj => (show (wd.alloc (.cells #[] 71)).cell? _ = _ from Lib.cell?_alloc_some _ (HUC.out b o cap e j u hj).2)) hol9 ?_
        intro v5 w5 hown5 hg5
        have hk5 : ∀ q, q < wd.heap.size → w5.heap[q]? = wd.heap[q]? := fun q hq => (hg5.block q (by simp; omega) (fun e => by have e' : some q = some wd.heap.size := e; have := Option.some.inj e'; omega)).trans (Below.heap_alloc wd _ q hq)
        have hs5 : wd.heap.size ≤ w5.heap.size := by have := hg5.size; simp at this; omega
        have u0 := (World.cell?_of_block (hk5 _ hwlt)).trans y0
        have u1 := (World.cell?_of_block (hk5 _ hwlt)).trans y1
        have HOS5 : Hid (w5.os = wd.os ∧ w5.tape = wd.tape ∧ w5.output = wd.output) := ⟨hg5.os, hg5.tape, hg5.output⟩
        refine hK.out _ _ ⟨⟨w5, u0, u1⟩, rfl⟩ ?_
        clear hK K
        (try simp only [Act.put, List.setIfInBounds_toArray, List.set_cons_zero, List.set_cons_succ])
        refine mix_loud (fuel := 7) (fuel' := 8) (i := 8) rfl (by kernel_rfl) rfl rfl (by rfl) ?_
        intro K hK
        go_simp
        have hbd5 : Below wd.heap.size wd w5 := ⟨HOS5.out.1, HOS5.out.2.1, HOS5.out.2.2, hs5, hk5⟩
        refine (refOwn06_any T cs _ w5 (HVd.out.kept hs5 fun q _ hq => hk5 q hq) HVF.out hol).mono ?_
        rintro e w6 ⟨v6, rfl, HO6, hb6⟩
        have hs6 := hb6.size
        obtain ⟨b6, c6, rfl, -, -⟩ := own_val HO6.out
        have hbd6 : Below wd.heap.size wd w6 := hbd5.trans (hb6.mono hs5)
        have u2 := (below_cell hbd6 hwlt).trans y0
        have u3 := (below_cell hbd6 hwlt).trans y1
        have hown6 : w6.ownsRow wd.heap.size 71 2 v5 os.length (obsC os us) := own_blocks hown5 fun k _ hk => hb6.block k hk
        (try go_simp)
        refine hK.out _ _ ⟨⟨w6, u2, u3⟩, rfl⟩ ?_
        clear hK K
        (try simp only [Act.put, List.setIfInBounds_toArray, List.set_cons_zero, List.set_cons_succ])
        refine mix_seg (fuel := 6) (fuel' := 7) (idx := [9]) (by kernel_rfl) rfl rfl rfl (fun _ _ _ _ _ h => h) ⟨⟨w6, u2, u3⟩, rfl⟩ ?_
        show wpQuiet _ _ _ _ [_] _
        iterate 1 (go_big_quiet_step (fail))
        refine wpQuiet_nil ?_
        refine mix_loud (fuel := 5) (fuel' := 6) (i := 10) rfl (by kernel_rfl) rfl rfl (by rfl) ?_
        intro K hK
        go_simp
        refine hK.out _ _ ⟨⟨_, Lib.cell?_alloc_some _ u2, Lib.cell?_alloc_some _ u3⟩, rfl⟩ ?_
        clear hK K
        (try simp only [Act.put, List.setIfInBounds_toArray, List.set_cons_zero, List.set_cons_succ])
        refine mix_law (fuel := 4) (fuel' := 5) (i := 11) rfl (by kernel_rfl) rfl rfl (by rfl) ?_
        intro K hK
        refine step_append_at (.tmp 41) (.tmp 46) 28 rfl (by rfl) wd.heap.size 71 i0 _ 2 40 Tryz.underlying28 hi0 hz0 hz1 hz2 rfl (by decide) _ os.length _ rfl (hown6.alloc _) ⟨w6.heap.size, 0, none⟩ 1 1 [.string (strB tag), .slice b6 cs.length c6] rfl rfl (cells_new _ _ _) (by simp [Value.oneCell']) (by unfold maxLen; omega) (by omega) (by simp; omega) ?_
        intro v8 w8 hown8 hg8 hat8
        have hk8 : ∀ q, q < wd.heap.size → w8.heap[q]? = wd.heap[q]? := fun q hq => (hg8.block q (by simp; omega) (fun e => by have := (hown6.lt q e.symm).1; omega)).trans ((Below.heap_alloc w6 _ q (by omega)).trans (hbd6.block q hq))
        have hs8 : wd.heap.size ≤ w8.heap.size := by have := hg8.size; simp at this; omega
        have hbd8 : Below wd.heap.size wd w8 := ⟨hg8.os.trans hbd6.os, hg8.tape.trans hbd6.tape, hg8.output.trans hbd6.output, hs8, hk8⟩
        have u4 := (below_cell hbd8 hwlt).trans y0
        have u5 := (below_cell hbd8 hwlt).trans y1
        have HVN : Hid (valsIn (fun q => wd.heap.size ≤ q) w8 (.slice b6 cs.length c6) cs) := by
          have h9 : w8.ownsRow w5.heap.size 25 3 (.slice b6 cs.length c6) cs.length (vlC cs) := own_blocks HO6.out fun k hk hlt => by
            rw [hg8.block k (by simp; omega) (fun e => ?_), Below.heap_alloc _ _ _ hlt]
            obtain ⟨cur, hc⟩ := own_type hown6 e.symm
            obtain ⟨cur', hc'⟩ := own_type HO6.out hk
            rw [hc] at hc'
            simp at hc'
          exact (valsIn_own h9).wide fun k hk => by have := hk.1; omega
        have HNEW : Hid (objsIn (fun q => S q ∨ wd.heap.size ≤ q) w8 v8 (os ++ [(tag, cs)])) := objsIn_own (us := us ++ [.slice b6 cs.length c6]) (by simp [HUL.out]) (by rw [List.length_append, List.length_singleton, obsC_snoc _ _ _ _ HUL.out]; exact hown8) (fun k hk => .inr hk) (fun i hi => by
          rw [List.length_append, List.length_singleton] at hi
          rcases Nat.lt_or_ge i os.length with hlt | hge
          · obtain ⟨u, hu, hv⟩ := HUV.out i hlt
            refine ⟨u, by rw [List.getElem?_append_left (by rw [HUL.out]; exact hlt)]; exact hu, ?_⟩
            rw [List.getElem_append_left hlt]
            exact (hv.kept hs8 fun q hq _ => hk8 q (by have := HLOW.out q hq; omega)).wide fun q hq => .inl hq
          · obtain rfl : i = os.length := by omega
            refine ⟨.slice b6 cs.length c6, by rw [← HUL.out]; simp, ?_⟩
            rw [List.getElem_append_right (Nat.le_refl _)]
            simp only [Nat.sub_self, List.getElem_cons_zero]
            exact HVN.out.wide fun k hk => .inr hk)
        have hbk1 := (hk8 (w.heap.size + 1) (by omega)).trans ((HBd.out.block (w.heap.size + 1) (by omega)).trans HBR.out)
        have hbk2 := (hk8 (w.heap.size + 2) (by omega)).trans ((HBd.out.block (w.heap.size + 2) (by omega)).trans HBV.out)
        obtain ⟨q0, q1, qf⟩ := cellsH2 hbk1
        obtain ⟨r0, r1, r2, rf⟩ := cellsH3 hbk2
        have qf0 := qf 0
        have qf1 := qf 1
        have rf0 := rf 0
        have rf1 := rf 1
        have rf2 := rf 2
        obtain ⟨z0, z1, z2, z3, z4⟩ := set5R (M := M) (v := v8) hbk1 hbk2 (.int .i64 4) (.int .i64 (os.length : Int)) (.string ⟨#[]⟩)
        have HB9 : Hid (Below w.heap.size w (((((w8.setCell ⟨w.heap.size + 1, 0, none⟩ (.int .i64 M)).setCell ⟨w.heap.size + 1, 1, none⟩ v8).setCell ⟨w.heap.size + 1 + 1, 0, none⟩ (.int .i64 4)).setCell ⟨w.heap.size + 1 + 1, 1, none⟩ (.int .i64 (os.length : Int))).setCell ⟨w.heap.size + 1 + 1, 2, none⟩ (.string ⟨#[]⟩))) := set5R_below (R := w.heap.size + 1) (HBwd.out.trans (hbd8.mono (by omega))) (by omega) _ _ _ _ _
        have hcell : ∀ (W : World) (R j : Nat) (z : Value), R ≠ w.heap.size → (W.cell? ⟨w.heap.size, 0, none⟩ = some (.int .i64 M) ∧ W.cell? ⟨w.heap.size, 1, none⟩ = some (.slice bL os.length cL)) → ((W.setCell ⟨R, j, none⟩ z).cell? ⟨w.heap.size, 0, none⟩ = some (.int .i64 M) ∧ (W.setCell ⟨R, j, none⟩ z).cell? ⟨w.heap.size, 1, none⟩ = some (.slice bL os.length cL)) := fun W R j z hR h => ⟨(World.cell?_of_block (Below.heap_setCell _ _ _ _ (by simpa using fun e => hR e.symm))).trans h.1, (World.cell?_of_block (Below.heap_setCell _ _ _ _ (by simpa using fun e => hR e.symm))).trans h.2⟩
        obtain ⟨b8, c8, rfl, -, -⟩ := own_val hown8
        have HF8 : Hid (∃ ad n c, Value.slice b8 (os.length + 1) c8 = .slice (some ad) n c) := by
          rcases hown8.2 with ⟨-, h0⟩ | ⟨g, cap, cur, e, -⟩
          · omega
          · exact ⟨_, _, _, e⟩
        have HNEW9 : Hid (objsIn (fun q => S q ∨ w.heap.size ≤ q) (((((w8.setCell ⟨w.heap.size + 1, 0, none⟩ (.int .i64 M)).setCell ⟨w.heap.size + 1, 1, none⟩ (.slice b8 (os.length + 1) c8)).setCell ⟨w.heap.size + 1 + 1, 0, none⟩ (.int .i64 4)).setCell ⟨w.heap.size + 1 + 1, 1, none⟩ (.int .i64 (os.length : Int))).setCell ⟨w.heap.size + 1 + 1, 2, none⟩ (.string ⟨#[]⟩)) (.slice b8 (os.length + 1) c8) (os ++ [(tag, cs)])) := (HNEW.out.kept (by simp) fun q hq _ => by
          have hne1 : q ≠ w.heap.size + 1 := by rcases hq with h | h; have := HLOW.out q h; omega; omega
          have hne2 : q ≠ w.heap.size + 1 + 1 := by rcases hq with h | h; have := HLOW.out q h; omega; omega
          rw [Below.heap_setCell _ _ _ _ (by simpa using hne2), Below.heap_setCell _ _ _ _ (by simpa using hne2), Below.heap_setCell _ _ _ _ (by simpa using hne2), Below.heap_setCell _ _ _ _ (by simpa using hne1), Below.heap_setCell _ _ _ _ (by simpa using hne1)]).wide fun q _ h => by rcases h with h | h; exact .inl h; right; omega
        clear hown8 hg8 hat8 hbk1 hbk2 qf rf
        refine hK.out _ _ ⟨⟨w8, u4, u5⟩, rfl⟩ ?_
        clear hK K
        (try simp only [Act.put, List.setIfInBounds_toArray, List.set_cons_zero, List.set_cons_succ])
        refine mix_seg (fuel := 3) (fuel' := 4) (idx := [12]) (by kernel_rfl) rfl rfl rfl (fun _ _ _ _ _ h => h) ⟨⟨w8, u4, u5⟩, rfl⟩ ?_
        show wpQuiet _ _ _ _ [_] _
        iterate 1 (go_big_quiet_step (fail))
        refine wpQuiet_nil ?_
        refine mix_loud (fuel := 2) (fuel' := 3) (i := 17) rfl (by kernel_rfl) rfl rfl (by rfl) ?_
        intro K hK
        go_simp
        refine hK.out _ _ ⟨⟨_, hcell _ _ _ _ (by omega) (hcell _ _ _ _ (by omega) ⟨u4, u5⟩)⟩, rfl⟩ ?_
        clear hK K
        (try simp only [Act.put, List.setIfInBounds_toArray, List.set_cons_zero, List.set_cons_succ])
        refine mix_loud (fuel := 1) (fuel' := 2) (i := 18) rfl (by kernel_rfl) rfl rfl (by rfl) ?_
        intro K hK
        go_simp
        refine hK.out _ _ ⟨⟨_, hcell _ _ _ _ (by omega) (hcell _ _ _ _ (by omega) (hcell _ _ _ _ (by omega) (hcell _ _ _ _ (by omega) (hcell _ _ _ _ (by omega) ⟨u4, u5⟩))))⟩, rfl⟩ ?_
        clear hK K
        (try simp only [Act.put, List.setIfInBounds_toArray, List.set_cons_zero, List.set_cons_succ])
        refine mix_seg (fuel := 0) (fuel' := 1) (idx := [19]) (by kernel_rfl) rfl rfl rfl (fun _ _ _ _ _ h => h) ⟨⟨_, hcell _ _ _ _ (by omega) (hcell _ _ _ _ (by omega) (hcell _ _ _ _ (by omega) (hcell _ _ _ _ (by omega) (hcell _ _ _ _ (by omega) ⟨u4, u5⟩))))⟩, rfl⟩ ?_
        show wpQuiet _ _ _ _ [_] _
        iterate 1 (go_big_quiet_step (fail))
        refine wpQuiet_nil ?_
        refine mix_done (by kernel_rfl) ?_
        go_wp2
        exact bodyPost_ret (v := .tuple #[.agg #[.int .i64 M, .slice b8 (os.length + 1) c8], vlV ⟨4, os.length, []⟩, .int .i64 0]) (by simp [results, Tryz.results27, go_sem, z0, z1, z2, z3, z4]) rfl ⟨HB9.out, .inr (.inr ⟨HOBX.out.symm, by rw [← HU.out]; exact hfull, _, by rw [HM.out], HNEW9.out, HF8.out⟩)⟩
end Go.Proofs.YtchpmnmngeebjaaGreatDoor
/- heap: the document's own Set. -/
namespace Go.Proofs.YtchpmnmngeebjaaGreatDoor
open Go.RowKit Go.Shelf

abbrev rsetW (w : World) (M : Int) (v : Value) (x y : Vl) : World := ((textW w M v x).alloc (.cells #[.int .i64 y.k, .int .i64 y.n, .string (strB y.s)] 25)).alloc (.cells #[.int .i64 0, .slice none 0 0] 30)
theorem rsetW_facts (w : World) (M : Int) (v : Value) (x y : Vl) : (rsetW w M v x y).heap.size = w.heap.size + 4 ∧ Below w.heap.size w (rsetW w M v x y) ∧ (rsetW w M v x y).heap[w.heap.size]? = some (.cells #[.int .i64 M, v] 30 (0, 0)) ∧ (rsetW w M v x y).heap[w.heap.size + 1]? = some (.cells #[.int .i64 x.k, .int .i64 x.n, .string (strB x.s)] 25 (0, 0)) ∧ (rsetW w M v x y).heap[w.heap.size + 2]? = some (.cells #[.int .i64 y.k, .int .i64 y.n, .string (strB y.s)] 25 (0, 0)) ∧ (rsetW w M v x y).heap[w.heap.size + 3]? = some (.cells #[.int .i64 0, .slice none 0 0] 30 (0, 0)) := by
  obtain ⟨h1, h2, h3, h4⟩ := textW_facts w M v x
  have e1 : ((textW w M v x).alloc (.cells #[.int .i64 y.k, .int .i64 y.n, .string (strB y.s)] 25)).heap.size = w.heap.size + 3 := by simp
  refine ⟨by simp, (h2.alloc (by omega) _).alloc (by omega) _, ?_, ?_, ?_, ?_⟩
  · rw [Below.heap_alloc _ _ _ (by omega), Below.heap_alloc _ _ _ (by omega)]; exact h3
  · rw [Below.heap_alloc _ _ _ (by omega), Below.heap_alloc _ _ _ (by omega)]; exact h4
  · rw [Below.heap_alloc _ _ _ (by omega)]
    have := World.alloc_heap_new (textW w M v x) (.cells #[.int .i64 y.k, .int .i64 y.n, .string (strB y.s)] 25)
    rwa [h1] at this
  · have := World.alloc_heap_new ((textW w M v x).alloc (.cells #[.int .i64 y.k, .int .i64 y.n, .string (strB y.s)] 25)) (.cells #[.int .i64 0, .slice none 0 0] 30)
    rwa [e1] at this

/-- What the document's Set answers. -/
def refSetP (m : Nat) (os : List Ob) (x : Vl) (i : Int) (y : Vl) (v : Value) (S : Nat → Prop) (w : World) (e : Ending) (w' : World) : Prop :=
  Below w.heap.size w w' ∧ ((setE os x i y ≠ 0 ∧ e = .returned (.tuple #[rhV m v, .int .i64 (setE os x i y)])) ∨
    (setE os x i y = 0 ∧ ∃ v', e = .returned (.tuple #[rhV m v', .int .i64 0]) ∧ objsIn (fun q => S q ∨ w.heap.size ≤ q) w' v' (setR os x i y) ∧ ∃ ad n c, v' = .slice (some ad) n c))

set_option maxRecDepth 100000 in
set_option maxHeartbeats 4000000 in
theorem refSet_no (S : Nat → Prop) (m : Nat) (os : List Ob) (v : Value) (x y : Vl) (i : Int) (w : World) (hin : objsIn S w v os) (hl : os.length ≤ 1048576) (hx : smallV x) (hr : refB os x = false) :
    Calls Tryz.prog 19 #[rhV m v, vlV x, .int .i64 i, vlV y] w (refSetP m os x i y v S w) := by
  have hE : setE os x i y = 2 := by unfold setE; rw [hr]; rfl
  obtain ⟨M, hM⟩ : ∃ M : Int, M = (m : Int) := ⟨_, rfl⟩
  have HM : Hid (M = (m : Int)) := hM
  obtain ⟨bL, cL, rfl, -⟩ := hin.at
  obtain ⟨w1, hw1⟩ : ∃ w1, w1 = rsetW w M (.slice bL os.length cL) x y := ⟨_, rfl⟩
  obtain ⟨hz, hb, hbh, hbx, hby, hbr⟩ := rsetW_facts w M (.slice bL os.length cL) x y
  rw [← hw1] at hz hb hbh hbx hby hbr
  obtain ⟨h0, h1, -⟩ := cellsH2 hbh
  obtain ⟨p0, p1, p2, -⟩ := cellsH3 hbx
  have co := refObj_no S m os (.slice bL os.length cL) x w1 (hin.kept hb.size fun q _ hq => hb.block q hq) hl hx hr
  rw [show rhV m (.slice bL os.length cL) = .agg #[.int .i64 M, .slice bL os.length cL] by rw [hM]] at co ⊢
  have HB1 : Hid (Below w.heap.size w w1) := hb
  have HBR : Hid (w1.heap[w.heap.size + 3]? = some (.cells #[.int .i64 0, .slice none 0 0] 30 (0, 0))) := hbr
  have HBH : Hid (w1.heap[w.heap.size]? = some (.cells #[.int .i64 M, .slice bL os.length cL] 30 (0, 0))) := hbh
  have HW1 : Hid (w1 = rsetW w M (.slice bL os.length cL) x y) := hw1
  have HE : Hid (setE os x i y = 2) := hE
  obtain ⟨k, n, s⟩ := x
  obtain ⟨yk, yn, ys⟩ := y
  simp only at p0 p1 p2
  clear hin hx hr hM hw1 hb hbh hbx hbr hby hE
  go_enter Tryz.func19, Tryz.ntmps19
  go_wp2_with fail
  rw [show (((w.alloc (.cells #[.int .i64 M, .slice bL os.length cL] 30)).alloc (.cells #[.int .i64 k, .int .i64 n, .string (strB s)] 25)).alloc (.cells #[.int .i64 yk, .int .i64 yn, .string (strB ys)] 25)).alloc (.cells #[.int .i64 0, .slice none 0 0] 30) = w1 from HW1.out.symm]
  refine co.mono ?_
  clear co
  rintro e w3 ⟨rfl, hb3⟩
  have hs3 := hb3.size
  obtain ⟨w4, hw4⟩ : ∃ w4, w4 = w3.alloc (.cells #[.string ⟨#[]⟩, .slice none 0 0] 71) := ⟨_, rfl⟩
  have h14 : Below w1.heap.size w1 w4 := by rw [hw4]; exact hb3.alloc hs3 _
  have b1 := (h14.block (w.heap.size + 3) (by omega)).trans HBR.out
  obtain ⟨r0, r1, rf⟩ := cellsH2 b1
  obtain ⟨g0, g1, -⟩ := cellsH2 ((h14.block w.heap.size (by omega)).trans HBH.out)
  have rf0 := rf 0
  have rf1 := rf 1
  obtain ⟨z0, z1⟩ := set2H_cells b1 (.int .i64 M) (.slice bL os.length cL)
  have HB5 : Hid (Below w.heap.size w ((w4.setCell ⟨w.heap.size + 3, 0, none⟩ (.int .i64 M)).setCell ⟨w.heap.size + 3, 1, none⟩ (.slice bL os.length cL))) := ((HB1.out.trans (h14.mono (by omega))).setCell (by simp only; omega) _).setCell (by simp only; omega) _
  clear b1 hb3 h14 h0 h1 p0 p1 p2 rf
  subst hw4
  go_wp2
  exact bodyPost_ret (v := .tuple #[.agg #[.int .i64 M, .slice bL os.length cL], .int .i64 2]) (by simp [results, Tryz.results19, go_sem, z0, z1]) rfl ⟨HB5.out, .inl ⟨by rw [HE.out]; decide, by rw [HE.out, HM.out]⟩⟩

set_option maxRecDepth 100000 in
set_option maxHeartbeats 8000000 in
theorem refSet_bad (S : Nat → Prop) (m : Nat) (os : List Ob) (v : Value) (j : Nat) (y : Vl) (i : Int) (w : World) (hin : objsIn S w v os) (hl : os.length ≤ 1048576) (hj : j < os.length) (hy : smallV y) (hno : cellV y os.length = false ∨ cellV y os.length = true ∧ hasB i (os[j]).2.length = false) :
    Calls Tryz.prog 19 #[rhV m v, vlV ⟨4, j, []⟩, .int .i64 i, vlV y] w (refSetP m os ⟨4, j, []⟩ i y v S w) := by
  have hrb : refB os ⟨4, (j : Int), []⟩ = true := by simp [refB, rightV]; omega
  have eo : ((os[((j : Int)).toNat]?).getD ([], [])) = os[j] := by simp [hj]
  obtain ⟨E, hE⟩ : ∃ E, E = setE os ⟨4, (j : Int), []⟩ i y := ⟨_, rfl⟩
  have hEv : E = if cellV y os.length = true then 10 else 2 := by
    rw [hE]
    unfold setE
    rw [if_pos hrb, eo]
    rcases hno with h | ⟨h, h2⟩
    · rw [h]; rfl
    · rw [h, h2]; rfl
  have HNE : Hid (E ≠ 0) := by show _ ≠ _; rw [hEv]; split <;> decide
  have HE : Hid (E = setE os ⟨4, (j : Int), []⟩ i y) := hE
  have HEV : Hid (E = if cellV y os.length = true then 10 else 2) := hEv
  have HCV : Hid (cellV y os.length = (decide (y.k ≠ 0) && rightV y os.length)) := rfl
  obtain ⟨M, hM⟩ : ∃ M : Int, M = (m : Int) := ⟨_, rfl⟩
  have HM : Hid (M = (m : Int)) := hM
  obtain ⟨bL, cL, rfl, -⟩ := hin.at
  obtain ⟨w1, hw1⟩ : ∃ w1, w1 = rsetW w M (.slice bL os.length cL) ⟨4, j, []⟩ y := ⟨_, rfl⟩
  obtain ⟨hz, hb, hbh, hbx, hby, hbr⟩ := rsetW_facts w M (.slice bL os.length cL) ⟨4, j, []⟩ y
  rw [← hw1] at hz hb hbh hbx hby hbr
  obtain ⟨h0, h1, -⟩ := cellsH2 hbh
  obtain ⟨p0, p1, p2, -⟩ := cellsH3 hbx
  have co := refObj_ok S m os (.slice bL os.length cL) j w1 (hin.kept hb.size fun q _ hq => hb.block q hq) hl hj
  rw [show rhV m (.slice bL os.length cL) = .agg #[.int .i64 M, .slice bL os.length cL] by rw [hM]] at co ⊢
  have HB1 : Hid (Below w.heap.size w w1) := hb
  have HBR : Hid (w1.heap[w.heap.size + 3]? = some (.cells #[.int .i64 0, .slice none 0 0] 30 (0, 0))) := hbr
  have HBH : Hid (w1.heap[w.heap.size]? = some (.cells #[.int .i64 M, .slice bL os.length cL] 30 (0, 0))) := hbh
  have HBY : Hid (w1.heap[w.heap.size + 2]? = some (.cells #[.int .i64 y.k, .int .i64 y.n, .string (strB y.s)] 25 (0, 0))) := hby
  have HW1 : Hid (w1 = rsetW w M (.slice bL os.length cL) ⟨4, j, []⟩ y) := hw1
  have HY : Hid (smallV y) := hy
  obtain ⟨X, hX⟩ : ∃ X, X = os[j] := ⟨_, rfl⟩
  rw [← hX] at co hno
  have hio : cellV y os.length = true → i < 0 ∨ (0 ≤ i ∧ (X.2.length : Int) ≤ i) := fun hc => by
    rcases hno with h | ⟨-, h⟩
    · rw [h] at hc; cases hc
    · unfold hasB at h; have := of_decide_eq_false h; omega
  have HIO : Hid (cellV y os.length = true → i < 0 ∨ (0 ≤ i ∧ (X.2.length : Int) ≤ i)) := hio
  obtain ⟨yk, yn, ys⟩ := y
  clear hin hM hw1 hb hbh hbx hbr hby hX hno hy hE hEv hio eo hrb
  go_enter Tryz.func19, Tryz.ntmps19
  go_wp2_with fail
  rw [show (((w.alloc (.cells #[.int .i64 M, .slice bL os.length cL] 30)).alloc (.cells #[.int .i64 4, .int .i64 j, .string ⟨#[]⟩] 25)).alloc (.cells #[.int .i64 yk, .int .i64 yn, .string (strB ys)] 25)).alloc (.cells #[.int .i64 0, .slice none 0 0] 30) = w1 from HW1.out.symm]
  refine co.mono ?_
  clear co
  rintro e w3 ⟨⟨bu, cu, rfl, -⟩, hb3⟩
  have hs3 := hb3.size
  obtain ⟨w4, hw4⟩ : ∃ w4, w4 = w3.alloc (.cells #[.string (strB X.1), .slice bu X.2.length cu] 71) := ⟨_, rfl⟩
  have hs4 : w4.heap.size = w3.heap.size + 1 := by rw [hw4]; simp
  have h14 : Below w1.heap.size w1 w4 := by rw [hw4]; exact hb3.alloc hs3 _
  have bo : w4.heap[w3.heap.size]? = some (.cells #[.string (strB X.1), .slice bu X.2.length cu] 71 (0, 0)) := by rw [hw4]; exact World.alloc_heap_new _ _
  obtain ⟨g0, g1, -⟩ := cellsH2 ((h14.block w.heap.size (by omega)).trans HBH.out)
  obtain ⟨t0, t1, t2, -⟩ := cellsH3 ((h14.block (w.heap.size + 2) (by omega)).trans HBY.out)
  have cr := refRight_any ⟨yk, yn, ys⟩ os.length w4 HY.out
  have HBO : Hid (w4.heap[w3.heap.size]? = some (.cells #[.string (strB X.1), .slice bu X.2.length cu] 71 (0, 0))) := bo
  have H14 : Hid (Below w1.heap.size w1 w4) := h14
  have hw4' := hw4.symm
  clear hb3 h14 h0 h1 p0 p1 p2 hw4 bo
  go_wp2_with fail
  refine cr.mono ?_
  clear cr
  rintro e w5 ⟨rfl, hb5⟩
  have hs5 := hb5.size
  have h15 : Below w1.heap.size w1 w5 := H14.out.trans (hb5.mono H14.out.size)
  have b1 := (h15.block (w.heap.size + 3) (by omega)).trans HBR.out
  obtain ⟨r0, r1, rf⟩ := cellsH2 b1
  obtain ⟨g0', g1', -⟩ := cellsH2 ((h15.block w.heap.size (by omega)).trans HBH.out)
  obtain ⟨t0', t1', t2', -⟩ := cellsH3 ((h15.block (w.heap.size + 2) (by omega)).trans HBY.out)
  obtain ⟨o0, o1, -⟩ := cellsH2 ((hb5.block w3.heap.size (by omega)).trans HBO.out)
  have rf0 := rf 0
  have rf1 := rf 1
  obtain ⟨z0, z1⟩ := set2H_cells b1 (.int .i64 M) (.slice bL os.length cL)
  have HB5 : Hid (Below w.heap.size w ((w5.setCell ⟨w.heap.size + 3, 0, none⟩ (.int .i64 M)).setCell ⟨w.heap.size + 3, 1, none⟩ (.slice bL os.length cL))) := ((HB1.out.trans (h15.mono (by omega))).setCell (by simp only; omega) _).setCell (by simp only; omega) _
  clear b1 hb5 h15 rf g0 g1 t0 t1 t2 hw4'
  cases hr : rightV ⟨yk, yn, ys⟩ os.length with
  | false =>
    have HE2 : Hid (E = 2) := by show _ = _; rw [HEV.out, HCV.out, hr]; simp
    clear hr
    go_wp2
    exact bodyPost_ret (v := .tuple #[.agg #[.int .i64 M, .slice bL os.length cL], .int .i64 2]) (by simp [results, Tryz.results19, go_sem, z0, z1]) rfl ⟨HB5.out, .inl ⟨by rw [← HE.out]; exact HNE.out, by rw [← HE.out, HE2.out, HM.out]⟩⟩
  | true =>
    by_cases hk0 : yk = 0
    · subst hk0
      have HE2 : Hid (E = 2) := by show _ = _; rw [HEV.out, HCV.out, hr]; simp
      clear hr
      go_wp2
      exact bodyPost_ret (v := .tuple #[.agg #[.int .i64 M, .slice bL os.length cL], .int .i64 2]) (by simp [results, Tryz.results19, go_sem, z0, z1]) rfl ⟨HB5.out, .inl ⟨by rw [← HE.out]; exact HNE.out, by rw [← HE.out, HE2.out, HM.out]⟩⟩
    · have hkb : (yk == 0) = false := by rw [beq_eq_false_iff_ne]; exact hk0
      have hcv : cellV ⟨yk, yn, ys⟩ os.length = true := by rw [HCV.out, hr]; simp [hk0]
      have HE2 : Hid (E = 10) := by show _ = _; rw [HEV.out, if_pos hcv]
      have hi9 := HIO.out hcv
      clear hr hcv
      rcases hi9 with hneg | ⟨hpos, hge⟩
      · go_wp2
        exact bodyPost_ret (v := .tuple #[.agg #[.int .i64 M, .slice bL os.length cL], .int .i64 10]) (by simp [results, Tryz.results19, go_sem, z0, z1]) rfl ⟨HB5.out, .inl ⟨by rw [← HE.out]; exact HNE.out, by rw [← HE.out, HE2.out, HM.out]⟩⟩
      · have hn0 : ¬ i < 0 := by omega
        go_wp2
        exact bodyPost_ret (v := .tuple #[.agg #[.int .i64 M, .slice bL os.length cL], .int .i64 10]) (by simp [results, Tryz.results19, go_sem, z0, z1]) rfl ⟨HB5.out, .inl ⟨by rw [← HE.out]; exact HNE.out, by rw [← HE.out, HE2.out, HM.out]⟩⟩
end Go.Proofs.YtchpmnmngeebjaaGreatDoor
/- heap: rows of objects into whose cells anything was written: the rows stand yet. -/
namespace Go.Proofs.YtchpmnmngeebjaaGreatDoor
open Go.RowKit Go.Shelf

/-- All but the blocks from A up to C is kept; of these the rows of objects are kept, too, and the rows of values are rows of values, as long. -/
structure Shp (A C : Nat) (w wr : World) : Prop where
  kept : KeptS (fun q => A ≤ q ∧ q < C) w wr
  obj : ∀ (q : Nat) (cur : Array Value), w.heap[q]? = some (.cells cur 71 (0, 0)) → wr.heap[q]? = some (.cells cur 71 (0, 0))
  val : ∀ (q : Nat) (cur : Array Value), w.heap[q]? = some (.cells cur 25 (0, 0)) → ∃ cur', wr.heap[q]? = some (.cells cur' 25 (0, 0)) ∧ cur'.size = cur.size

theorem Shp.refl (A C : Nat) (w : World) : Shp A C w w := ⟨KeptS.refl _ _, fun _ _ h => h, fun _ cur h => ⟨cur, h, rfl⟩⟩
theorem Shp.on {A C : Nat} {w wr wx : World} (h : Shp A C w wr) (hb : Below wr.heap.size wr wx) : Shp A C w wx := by
  have hlt : ∀ {q : Nat} {o : Obj}, wr.heap[q]? = some o → q < wr.heap.size := fun h => (Array.getElem?_eq_some_iff.1 h).1
  refine ⟨h.kept.trans (KeptS.of (S := fun _ => False) hb) (fun _ _ h => h.elim), fun q cur hq => ?_, fun q cur hq => ?_⟩
  · have h1 := h.obj q cur hq
    exact (hb.block q (hlt h1)).trans h1
  · obtain ⟨c', h1, h2⟩ := h.val q cur hq
    exact ⟨c', (hb.block q (hlt h1)).trans h1, h2⟩
theorem Shp.set {A C : Nat} {w wr : World} (h : Shp A C w wr) {g j : Nat} {cur : Array Value} (hg : wr.heap[g]? = some (.cells cur 25 (0, 0))) (hA : A ≤ g) (hC : g < C) (v : Value) : Shp A C w (wr.setCell ⟨g, j, none⟩ v) := by
  refine ⟨h.kept.set v (fun _ => ⟨hA, hC⟩), fun q c hq => ?_, fun q c hq => ?_⟩
  · have h1 := h.obj q c hq
    rw [Below.heap_setCell _ _ _ _ (fun e => ?_)]
    · exact h1
    · simp only at e
      subst e
      rw [hg] at h1
      simp at h1
  · obtain ⟨c', h1, h2⟩ := h.val q c hq
    by_cases e : q = g
    · subst e
      rw [hg] at h1
      simp only [Option.some.injEq, Obj.cells.injEq, and_true] at h1
      subst h1
      exact ⟨_, setCellH_block v hg, by simp [h2]⟩
    · exact ⟨c', (Below.heap_setCell _ _ _ _ (by simpa using e)).trans h1, h2⟩
/-- A value is laid there. -/
theorem Shp.set3 {A C : Nat} {w wr : World} (h : Shp A C w wr) {g j0 j1 j2 : Nat} {cur : Array Value} (hg : wr.heap[g]? = some (.cells cur 25 (0, 0))) (hA : A ≤ g) (hC : g < C) (v0 v1 v2 : Value) : Shp A C w (((wr.setCell ⟨g, j0, none⟩ v0).setCell ⟨g, j1, none⟩ v1).setCell ⟨g, j2, none⟩ v2) := by
  have h0 := setCellH_block (j := j0) v0 hg
  have h1 := setCellH_block (j := j1) v1 h0
  exact (((h.set hg hA hC v0).set h0 hA hC v1).set h1 hA hC v2)
/-- A cell of such a row. -/
theorem val_cell {w : World} {g : Nat} {cur : Array Value} {ty : TypeId} (hg : w.heap[g]? = some (.cells cur ty (0, 0))) : (∀ j, j < cur.size → ∃ u, w.cell? ⟨g, j, none⟩ = some u) ∧ ∀ j, w.frozen? ⟨g, j, none⟩ = false := by
  refine ⟨fun j hj => ?_, fun j => ?_⟩
  · exact ⟨cur[j], by simp only [World.cell?, hg]; simp [hj]⟩
  · simp only [World.frozen?, hg]; simp
/-- The row of an owned row of values, one of which is there. -/
theorem own_block {w : World} {B e sz n : Nat} {v : Value} {xs : List Value} (h : w.ownsRow B e sz v n xs) (hn : 1 ≤ n) : ∃ g cap cur, v = .slice (some ⟨g, 0, none⟩) n cap ∧ B ≤ g ∧ w.heap[g]? = some (.cells cur e (0, 0)) ∧ n * sz ≤ cur.size := by
  rcases h.2 with ⟨-, h0⟩ | ⟨g, cap, cur, rfl, hg, hh, h1, h2, h3, h4⟩
  · omega
  · refine ⟨g, cap, cur, rfl, hg, hh, ?_⟩
    have e1 := h.1
    have e2 := congrArg List.length h4
    rw [List.length_take] at e2
    simp at e2
    omega
end Go.Proofs.YtchpmnmngeebjaaGreatDoor
/- heap: the document's own Set, where it sets. -/
namespace Go.Proofs.YtchpmnmngeebjaaGreatDoor
open Go.RowKit Go.Shelf

theorem cellSet_same {w : World} {a : Addr} {u v : Value} (h : w.cell? a = some u) : (w.setCell a v).cell? a = some v := by
  first | exact World.cell?_setCell_same _ _ _ h | exact World.cell?_setCell_same' _ _ _ (by rw [h]; rfl)
theorem cellSet_other {w : World} {a b : Addr} {v : Value} (h : a ≠ b) : (w.setCell a v).cell? b = w.cell? b := by
  first | exact World.cell?_setCell_other _ _ _ h | exact World.cell?_setCell_other _ _ _ _ h

theorem val_cellR {w : World} {g : Nat} {cur : Array Value} {ty : TypeId} (hg : w.heap[g]? = some (.cells cur ty (0, 0))) : (∀ j, j < cur.size → ∃ u, w.cell? ⟨g, j, none⟩ = some u) ∧ ∀ j, w.frozen? ⟨g, j, none⟩ = false := by
  refine ⟨fun j hj => ?_, fun j => ?_⟩
  · exact ⟨cur[j], by simp only [World.cell?, hg]; simp [hj]⟩
  · simp only [World.frozen?, hg]; simp

/-- A row of objects in which one has another row of values. -/
theorem objsIn_set {S T : Nat → Prop} {w : World} {g cp : Nat} {os : List Ob} {us : List Value} {j i : Nat} {y : Vl} {u : Value} (hl : us.length = os.length) (hcp : os.length ≤ cp) (hcp2 : cp ≤ maxLen) (hg : T g) (hgl : g < w.heap.size) (hST : ∀ q, S q → T q)
    (hc : ∀ p z, (obsC os us)[p]? = some z → p ≠ j * 2 + 1 → w.cell? ⟨g, p, none⟩ = some z) (hcj : w.cell? ⟨g, j * 2 + 1, none⟩ = some u) (hv : ∀ q (hq : q < os.length), q ≠ j → ∃ z, us[q]? = some z ∧ valsIn S w z (os[q]).2) (hj : j < os.length) (hu : valsIn T w u ((os[j]).2.set i y)) :
    objsIn T w (.slice (some ⟨g, 0, none⟩) os.length cp) (setOs os j i y) := by
  have hlen := setOs_len os j i y
  refine ⟨_, cp, by rw [hlen], by rw [hlen]; exact hcp, hcp2, .inr ⟨g, 0, rfl, hg, hgl, fun q hq => ?_⟩⟩
  have hq' : q < os.length := by rw [← hlen]; exact hq
  obtain ⟨a0, a1⟩ := obsC_at os us hl q hq'
  have e := setOs_at os j i y q
  rw [List.getElem?_eq_getElem hq, List.getElem?_eq_getElem hq'] at e
  have c0 := hc _ _ a0 (by omega)
  by_cases hqj : q = j
  · subst hqj
    rw [if_pos rfl] at e
    simp only [Option.map_some, Option.some.injEq] at e
    rw [e]
    exact ⟨u, by rw [Nat.zero_add]; exact c0, by rw [Nat.zero_add]; exact hcj, hu⟩
  · rw [if_neg hqj] at e
    simp only [Option.some.injEq] at e
    rw [e]
    obtain ⟨z, hz, hvz⟩ := hv q hq' hqj
    exact ⟨z, by rw [Nat.zero_add]; exact c0, by rw [Nat.zero_add]; exact hc _ _ (a1.trans hz) (by omega), hvz.wide hST⟩

set_option maxRecDepth 100000 in
set_option maxHeartbeats 8000000 in
theorem refSet_ok (S : Nat → Prop) (m : Nat) (os : List Ob) (v : Value) (j i : Nat) (y : Vl) (w : World) (hin : objsIn S w v os) (hlow : ∀ q, S q → q < w.heap.size) (hl : os.length ≤ 4096) (hj : j < os.length) (hi : i < (os[j]).2.length) (hkl : (os[j]).2.length ≤ 1048576) (hy : smallV y) (hcv : cellV y os.length = true) :
    Calls Tryz.prog 19 #[rhV m v, vlV ⟨4, j, []⟩, .int .i64 (i : Int), vlV y] w (refSetP m os ⟨4, j, []⟩ i y v S w) := by
  obtain ⟨i0, hi0, hz0, hz1, hz2⟩ := info_parts info_Obj
  have hrb : refB os ⟨4, (j : Int), []⟩ = true := by simp [refB, rightV]; omega
  have eo : ((os[((j : Int)).toNat]?).getD ([], [])) = os[j] := by simp [hj]
  have hE : setE os ⟨4, (j : Int), []⟩ i y = 0 := by
    unfold setE
    rw [if_pos hrb, if_pos hcv, eo, if_pos (by simp [hasB]; omega)]
  have hR : setR os ⟨4, (j : Int), []⟩ i y = setOs os j i y := by unfold setR; rw [if_pos hE]; simp
  have HE : Hid (setE os ⟨4, (j : Int), []⟩ i y = 0) := hE
  have HR : Hid (setR os ⟨4, (j : Int), []⟩ i y = setOs os j i y) := hR
  have hcp := hcv
  unfold cellV at hcp
  rw [Bool.and_eq_true] at hcp
  have hyk : y.k ≠ 0 := of_decide_eq_true hcp.1
  have hyr : rightV y os.length = true := hcp.2
  obtain ⟨M, hM⟩ : ∃ M : Int, M = (m : Int) := ⟨_, rfl⟩
  have HM : Hid (M = (m : Int)) := hM
  obtain ⟨bL, cL, rfl, -⟩ := hin.at
  obtain ⟨w1, hw1⟩ : ∃ w1, w1 = rsetW w M (.slice bL os.length cL) ⟨4, j, []⟩ y := ⟨_, rfl⟩
  obtain ⟨hz, hb, hbh, hbx, hby, hbr⟩ := rsetW_facts w M (.slice bL os.length cL) ⟨4, j, []⟩ y
  rw [← hw1] at hz hb hbh hbx hby hbr
  obtain ⟨h0, h1, -⟩ := cellsH2 hbh
  obtain ⟨p0, p1, p2, -⟩ := cellsH3 hbx
  have co := refObj_ok S m os (.slice bL os.length cL) j w1 (hin.kept hb.size fun q _ hq => hb.block q hq) (by omega) hj
  rw [show rhV m (.slice bL os.length cL) = .agg #[.int .i64 M, .slice bL os.length cL] by rw [hM]] at co ⊢
  have HB1 : Hid (Below w.heap.size w w1) := hb
  have HBR : Hid (w1.heap[w.heap.size + 3]? = some (.cells #[.int .i64 0, .slice none 0 0] 30 (0, 0))) := hbr
  have HBH : Hid (w1.heap[w.heap.size]? = some (.cells #[.int .i64 M, .slice bL os.length cL] 30 (0, 0))) := hbh
  have HBY : Hid (w1.heap[w.heap.size + 2]? = some (.cells #[.int .i64 y.k, .int .i64 y.n, .string (strB y.s)] 25 (0, 0))) := hby
  have HW1 : Hid (w1 = rsetW w M (.slice bL os.length cL) ⟨4, j, []⟩ y) := hw1
  have HY : Hid (smallV y) := hy
  have HBX : Hid (w1.heap[w.heap.size + 1]? = some (.cells #[.int .i64 4, .int .i64 j, .string (strB [])] 25 (0, 0))) := hbx
  have HIN : Hid (objsIn S w (.slice bL os.length cL) os) := hin
  have HLOW : Hid (∀ q, S q → q < w.heap.size) := hlow
  obtain ⟨X, hX⟩ : ∃ X, X = os[j] := ⟨_, rfl⟩
  have HX : Hid (X = os[j]) := hX
  rw [← hX] at co hi hkl
  have hii : (i : Int) < (X.2.length : Int) := by omega
  have hjj : (j : Int) < (os.length : Int) := by omega
  have hi0n : decide ((i : Int) < 0) = false := decide_eq_false (by omega)
  have hi1n : decide (X.2.length ≤ i) = false := decide_eq_false (by omega)
  have hi2n : decide ((X.2.length : Int) ≤ (i : Int)) = false := decide_eq_false (by omega)
  obtain ⟨yk, yn, ys⟩ := y
  simp only at hyk
  have hkb : (yk == 0) = false := by rw [beq_eq_false_iff_ne]; exact hyk
  have HYR : Hid (rightV ⟨yk, yn, ys⟩ os.length = true) := hyr
  clear hin hlow hM hw1 hb hbh hbx hbr hby hX hy hE hR hcv hcp hrb eo hyr hyk
  go_enter Tryz.func19, Tryz.ntmps19
  go_wp2_with fail
  rw [show (((w.alloc (.cells #[.int .i64 M, .slice bL os.length cL] 30)).alloc (.cells #[.int .i64 4, .int .i64 j, .string ⟨#[]⟩] 25)).alloc (.cells #[.int .i64 yk, .int .i64 yn, .string (strB ys)] 25)).alloc (.cells #[.int .i64 0, .slice none 0 0] 30) = w1 from HW1.out.symm]
  refine co.mono ?_
  clear co
  rintro e w3 ⟨⟨bu, cu, rfl, hv3⟩, hb3⟩
  have hs3 := hb3.size
  obtain ⟨w4, hw4⟩ : ∃ w4, w4 = w3.alloc (.cells #[.string (strB X.1), .slice bu X.2.length cu] 71) := ⟨_, rfl⟩
  have hs4 : w4.heap.size = w3.heap.size + 1 := by rw [hw4]; simp
  have h14 : Below w1.heap.size w1 w4 := by rw [hw4]; exact hb3.alloc hs3 _
  have bo : w4.heap[w3.heap.size]? = some (.cells #[.string (strB X.1), .slice bu X.2.length cu] 71 (0, 0)) := by rw [hw4]; exact World.alloc_heap_new _ _
  obtain ⟨g0, g1, -⟩ := cellsH2 ((h14.block w.heap.size (by omega)).trans HBH.out)
  obtain ⟨t0, t1, t2, -⟩ := cellsH3 ((h14.block (w.heap.size + 2) (by omega)).trans HBY.out)
  have cr := refRight_any ⟨yk, yn, ys⟩ os.length w4 HY.out
  rw [HYR.out] at cr
  have HBO : Hid (w4.heap[w3.heap.size]? = some (.cells #[.string (strB X.1), .slice bu X.2.length cu] 71 (0, 0))) := bo
  have H14 : Hid (Below w1.heap.size w1 w4) := h14
  have HV3 : Hid (valsIn S w1 (.slice bu X.2.length cu) X.2) := hv3.out
  have hw4' := hw4.symm
  clear hb3 h14 h0 h1 p0 p1 p2 hw4 bo hv3
  go_wp2_with fail
  refine cr.mono ?_
  clear cr
  rintro e w5 ⟨rfl, hb5⟩
  have hs5 := hb5.size
  have h15 : Below w1.heap.size w1 w5 := H14.out.trans (hb5.mono H14.out.size)
  have hw5 : Below w.heap.size w w5 := HB1.out.trans (h15.mono (by omega))
  have H15 : Hid (Below w1.heap.size w1 w5) := h15
  have HW5 : Hid (Below w.heap.size w w5) := hw5
  obtain ⟨g0', g1', -⟩ := cellsH2 ((h15.block w.heap.size (by omega)).trans HBH.out)
  obtain ⟨t0', t1', t2', -⟩ := cellsH3 ((h15.block (w.heap.size + 2) (by omega)).trans HBY.out)
  obtain ⟨o0, o1, -⟩ := cellsH2 ((hb5.block w3.heap.size (by omega)).trans HBO.out)
  have HBO5 : Hid (w5.heap[w3.heap.size]? = some (.cells #[.string (strB X.1), .slice bu X.2.length cu] 71 (0, 0))) := (hb5.block w3.heap.size (by omega)).trans HBO.out
  obtain ⟨us, husl, husv, husc⟩ := (HIN.out.kept hw5.size fun q _ hq => hw5.block q hq).rows
  have HUV : Hid (∀ q (hq : q < os.length), ∃ u, us[q]? = some u ∧ valsIn S w5 u (os[q]).2) := husv
  have HUL : Hid (us.length = os.length) := husl
  have hone : ∀ u ∈ obsC os us, u.oneCell' = true := obs_one husl fun u hu => by
    obtain ⟨p, hp⟩ := List.getElem?_of_mem hu
    have hpl : p < os.length := by rw [← husl]; exact (List.getElem?_eq_some_iff.1 hp).1
    obtain ⟨u', e', hv'⟩ := husv p hpl
    rw [hp] at e'
    cases e'
    exact vals_oneCell hv'
  obtain ⟨bb, oo, rfl⟩ : ∃ bb oo, bL = some ⟨bb, oo, none⟩ := by
    obtain ⟨b9, c9, e9, -, -, hat⟩ := HIN.out.at
    simp only [Value.slice.injEq] at e9
    obtain ⟨b, o, u, e8, -⟩ := hat j hj
    exact ⟨b, o, by rw [e9.1, e8]⟩
  have hl0 : (w5.alloc (.cells #[] 71)).ownsRow w5.heap.size 71 2 (.slice (some ⟨w5.heap.size, 0, none⟩) 0 0) 0 [] := World.ownsRow_made w5 #[] 0 (Nat.le_refl _) (Nat.zero_le _) rfl
  have hnews : ∀ p u, (obsC os us)[p]? = some u → (w5.alloc (.cells #[] 71)).cell? ((⟨bb, oo, none⟩ : Addr).add p) = some u := fun p u hp => by
    rw [addr_plain]
    exact Lib.cell?_alloc_some _ (husc bb oo cL rfl p u hp).2
  have hol : (obsC os us).length = os.length * 2 := obsC_len os us husl
  have k1 : (w5.alloc (.cells #[] 71)).cell? ⟨w.heap.size, 1, none⟩ = some (.slice (some ⟨bb, oo, none⟩) os.length cL) := Lib.cell?_alloc_some _ g1'
  clear hb5 h15 hw5 g0 g1 t0 t1 t2 hw4' husv husc husl
  go_wp2_with (
    at_builtin
    refine wpList_append_own_at _ rfl _ _ 28 rfl w5.heap.size 71 i0 _ 2 40 Tryz.underlying28 hi0 hz0 hz1 hz2 rfl (by decide) _ _ _ rfl hl0 ⟨bb, oo, none⟩ os.length cL (obsC os us) rfl hol hnews hone (by unfold maxLen; omega) (by omega) (by simp) ?_
    intro v6 w6 hown6 hg6 _ hat6
    have hs6 : w5.heap.size ≤ w6.heap.size := by have := hg6.size; simp at this; omega
    have hk6 : ∀ q, q < w5.heap.size → w6.heap[q]? = w5.heap[q]? := fun q hq => (hg6.block q (by simp; omega) (fun e => by have e' : some q = some w5.heap.size := e; have := Option.some.inj e'; omega)).trans (Below.heap_alloc w5 _ q hq)
    have h56 : Below w5.heap.size w5 w6 := ⟨hg6.os, hg6.tape, hg6.output, hs6, hk6⟩
    rw [Nat.zero_add, List.nil_append] at hown6
    obtain ⟨g6, k6, cur6, rfl, hg6b, hbk6, -⟩ := own_block hown6 (by omega)
    obtain ⟨b6', c6', e6', hk61, hk62⟩ := own_val hown6
    simp only [Value.slice.injEq] at e6'
    obtain ⟨-, -, rfl⟩ := e6'
    obtain ⟨o0', o1', -⟩ := cellsH2 ((h56.block w3.heap.size (by omega)).trans HBO5.out))
  have H56 : Hid (Below w5.heap.size w5 w6) := h56
  have HO6 : Hid (w6.ownsRow w5.heap.size 71 2 (.slice (some ⟨g6, 0, none⟩) os.length k6) os.length (obsC os us)) := hown6
  have hv6 : valsIn S w6 (.slice bu X.2.length cu) X.2 := (HV3.out.kept H15.out.size fun q hq _ => H15.out.block q (by have := HLOW.out q hq; omega)).kept hs6 fun q hq _ => hk6 q (by have := HLOW.out q hq; have := HW5.out.size; omega)
  obtain ⟨be, oe, rfl⟩ : ∃ be oe, bu = some ⟨be, oe, none⟩ := by
    obtain ⟨b9, c9, e9, -, -, hat⟩ := hv6.at
    simp only [Value.slice.injEq] at e9
    obtain ⟨b, o, e8, -⟩ := hat i hi
    exact ⟨b, o, by rw [e9.1, e8]⟩
  have cw := refOwn06_any S X.2 (.slice (some ⟨be, oe, none⟩) X.2.length cu) w6 hv6 (.inr ⟨_, _, _, rfl⟩) hkl
  clear hown6 hg6 hat6 h56 hv6 k1 hnews hone hol hl0 g0' g1' t0' t1' t2' o0 o1
  go_wp2_with fail
  refine cw.mono ?_
  clear cw
  rintro e w7 ⟨v7, rfl, ho7, hb7⟩
  have hs7 := hb7.size
  obtain ⟨g7, k7, cur7, rfl, hg7b, hbk7, hcur7⟩ := own_block ho7.out (by omega)
  have hne67 : g6 ≠ g7 := fun e => by
    subst e
    have h1 := (hb7.block g6 (Array.getElem?_eq_some_iff.1 hbk6).1).trans hbk6
    rw [hbk7] at h1
    simp at h1
  have h57 : Below w5.heap.size w5 w7 := H56.out.trans (hb7.mono hs6)
  have h17 : Below w1.heap.size w1 w7 := H15.out.trans (h57.mono H15.out.size)
  obtain ⟨u0, v0⟩ := (val_cellR hbk7).1 (i * 3) (by omega)
  obtain ⟨u1, v1⟩ := (val_cellR hbk7).1 (i * 3 + 1) (by omega)
  obtain ⟨u2, v2⟩ := (val_cellR hbk7).1 (i * 3 + 2) (by omega)
  have f0 := (val_cellR hbk7).2 (i * 3)
  have f1 := (val_cellR hbk7).2 (i * 3 + 1)
  have f2 := (val_cellR hbk7).2 (i * 3 + 2)
  obtain ⟨t0, t1, t2, -⟩ := cellsH3 ((h17.block (w.heap.size + 2) (by omega)).trans HBY.out)
  obtain ⟨w8, hw8⟩ : ∃ w8, w8 = ((w7.setCell ⟨g7, i * 3, none⟩ (.int .i64 yk)).setCell ⟨g7, i * 3 + 1, none⟩ (.int .i64 yn)).setCell ⟨g7, i * 3 + 2, none⟩ (.string (strB ys)) := ⟨_, rfl⟩
  have hk8 : ∀ q, q ≠ g7 → w8.heap[q]? = w7.heap[q]? := fun q hq => by
    rw [hw8, Below.heap_setCell _ _ _ _ (by simpa using hq), Below.heap_setCell _ _ _ _ (by simpa using hq), Below.heap_setCell _ _ _ _ (by simpa using hq)]
  have hs8 : w8.heap.size = w7.heap.size := by rw [hw8]; simp
  have ho8 : w8.ownsRow 0 25 3 (.slice (some ⟨g7, 0, none⟩) X.2.length k7) X.2.length (vlC (X.2.set i ⟨yk, yn, ys⟩)) := by rw [hw8]; exact own_set3 (own_base0 ho7.out (Nat.zero_le _)) i hi ⟨yk, yn, ys⟩
  have HW8 : Hid (w8 = ((w7.setCell ⟨g7, i * 3, none⟩ (.int .i64 yk)).setCell ⟨g7, i * 3 + 1, none⟩ (.int .i64 yn)).setCell ⟨g7, i * 3 + 2, none⟩ (.string (strB ys))) := hw8
  have HB8 : Hid (Below w.heap.size w w8) := by
    show Below _ _ _
    rw [hw8]
    exact (((HB1.out.trans (h17.mono (by omega))).setCell (by simp only; omega) _).setCell (by simp only; omega) _).setCell (by simp only; omega) _
  have HO8 : Hid (w8.ownsRow 0 25 3 (.slice (some ⟨g7, 0, none⟩) X.2.length k7) X.2.length (vlC (X.2.set i ⟨yk, yn, ys⟩))) := ho8
  have HK8 : Hid (∀ q, q ≠ g7 → w8.heap[q]? = w7.heap[q]?) := hk8
  have H57 : Hid (Below w5.heap.size w5 w7) := h57
  have H17 : Hid (Below w1.heap.size w1 w7) := h17
  have HO7 : Hid (w7.ownsRow w5.heap.size 71 2 (.slice (some ⟨g6, 0, none⟩) os.length k6) os.length (obsC os us)) := own_blocks HO6.out fun k _ hk => hb7.block k hk
  clear hw8 ho8 hk8 h57 h17 hb7 ho7 o0' o1'
  go_upto_region 9 with fail
  rw [← HW8.out]
  clear v0 v1 v2 f0 f1 f2 t0 t1 t2
  have hbx8 := (HK8.out (w.heap.size + 1) (by omega)).trans ((H17.out.block (w.heap.size + 1) (by omega)).trans HBX.out)
  obtain ⟨-, p1, -⟩ := cellsH3 hbx8
  have hbo8 := (HK8.out w3.heap.size (by omega)).trans ((H57.out.block w3.heap.size (by omega)).trans HBO5.out)
  obtain ⟨o0, -, -⟩ := cellsH2 hbo8
  have hg68 : w8.heap[g6]? = w7.heap[g6]? := HK8.out g6 hne67
  have hc8 : ∀ p z, (obsC os us)[p]? = some z → w8.cell? ⟨g6, p, none⟩ = some z := fun p z hp => by
    obtain ⟨g9, c9, e9, -, -, -, hcl⟩ := row_cells HO7.out (by omega)
    simp only [Value.slice.injEq, Option.some.injEq, Addr.mk.injEq, and_true, true_and] at e9
    obtain ⟨rfl, rfl⟩ := e9
    exact (World.cell?_of_block hg68).trans (hcl p z hp)
  obtain ⟨a0, a1⟩ := obsC_at os us HUL.out j hj
  have d0 := hc8 _ _ a0
  obtain ⟨uj, huj, -⟩ := HUV.out j hj
  have d1 := hc8 _ _ (a1.trans huj)
  have hbk8 : ∃ cur8, w8.heap[g6]? = some (.cells cur8 71 (0, 0)) := by
    obtain ⟨g9, c9, cur9, e9, -, h9, -⟩ := own_block HO7.out (by omega)
    simp only [Value.slice.injEq, Option.some.injEq, Addr.mk.injEq, and_true, true_and] at e9
    obtain ⟨rfl, rfl⟩ := e9
    exact ⟨cur9, hg68.trans h9⟩
  obtain ⟨cur8, hbk8⟩ := hbk8
  have f0 := (val_cellR hbk8).2 (j * 2)
  have f1 := (val_cellR hbk8).2 (j * 2 + 1)
  obtain ⟨w9, hw9⟩ : ∃ w9, w9 = (w8.setCell ⟨g6, j * 2, none⟩ (.string (strB X.1))).setCell ⟨g6, j * 2 + 1, none⟩ (.slice (some ⟨g7, 0, none⟩) X.2.length k7) := ⟨_, rfl⟩
  have hk9 : ∀ q, q ≠ g6 → w9.heap[q]? = w8.heap[q]? := fun q hq => by
    rw [hw9, Below.heap_setCell _ _ _ _ (by simpa using hq), Below.heap_setCell _ _ _ _ (by simpa using hq)]
  have hs9 : w9.heap.size = w8.heap.size := by rw [hw9]; simp
  have hcj : w9.cell? ⟨g6, j * 2 + 1, none⟩ = some (.slice (some ⟨g7, 0, none⟩) X.2.length k7) := by
    rw [hw9]
    refine cellSet_same (u := uj) ?_
    rw [cellSet_other (by simp)]
    exact d1
  have hc9 : ∀ p z, (obsC os us)[p]? = some z → p ≠ j * 2 + 1 → w9.cell? ⟨g6, p, none⟩ = some z := fun p z hp hne => by
    rw [hw9, cellSet_other (by intro e; simp only [Addr.mk.injEq] at e; omega)]
    by_cases hp0 : p = j * 2
    · subst hp0
      rw [a0] at hp
      simp only [Option.some.injEq] at hp
      subst hp
      rw [← HX.out]
      exact cellSet_same d0
    · rw [cellSet_other (by intro e; simp only [Addr.mk.injEq] at e; omega)]
      exact hc8 p z hp
  have hg6l : g6 < w9.heap.size := by rw [hs9]; exact (Array.getElem?_eq_some_iff.1 hbk8).1
  have hu9 : valsIn (fun q => S q ∨ w5.heap.size ≤ q) w9 (.slice (some ⟨g7, 0, none⟩) X.2.length k7) (X.2.set i ⟨yk, yn, ys⟩) := by
    have h1 : w9.ownsRow 0 25 3 (.slice (some ⟨g7, 0, none⟩) X.2.length k7) X.2.length (vlC (X.2.set i ⟨yk, yn, ys⟩)) := own_blocks HO8.out fun k hk _ => hk9 k (fun e => by
      have e' : some k = some g7 := hk.symm
      have := Option.some.inj e'
      omega)
    refine (valsIn_own h1).wide fun k hk => .inr ?_
    have e' : some k = some g7 := hk.2.symm
    have := Option.some.inj e'
    have := H56.out.size
    omega
  have HOB9 : Hid (objsIn (fun q => S q ∨ w5.heap.size ≤ q) w9 (.slice (some ⟨g6, 0, none⟩) os.length k6) (setOs os j i ⟨yk, yn, ys⟩)) := objsIn_set (S := S) HUL.out hk61 hk62 (.inr hg6b) hg6l (fun q hq => .inl hq) hc9 hcj (fun q hq _ => by
    obtain ⟨z, hz, hvz⟩ := HUV.out q hq
    refine ⟨z, hz, hvz.kept (by have := H57.out.size; omega) fun p hp _ => ?_⟩
    have hpl := HLOW.out p hp
    have := HW5.out.size
    rw [hk9 p (by omega), HK8.out p (by omega), H57.out.block p (by omega)]) hj (by rw [← HX.out]; exact hu9)
  have HB9 : Hid (Below w.heap.size w w9) := by
    show Below _ _ _
    rw [hw9]
    exact (HB8.out.setCell (by have := HW5.out.size; simp only; omega) _).setCell (by have := HW5.out.size; simp only; omega) _
  have HW9 : Hid (w9 = (w8.setCell ⟨g6, j * 2, none⟩ (.string (strB X.1))).setCell ⟨g6, j * 2 + 1, none⟩ (.slice (some ⟨g7, 0, none⟩) X.2.length k7)) := hw9
  have HK9 : Hid (∀ q, q ≠ g6 → w9.heap[q]? = w8.heap[q]?) := hk9
  clear hw9 hk9 hc9 hcj hu9 hc8 a0 a1 huj hbx8 hbo8
  go_upto_region 10 with fail
  rw [← HW9.out]
  clear d0 d1 f0 f1 p1 o0
  have hR9 : ∀ q, q < w5.heap.size → w9.heap[q]? = w5.heap[q]? := fun q hq => by
    rw [HK9.out q (by omega), HK8.out q (by omega), H57.out.block q hq]
  have b1 := (hR9 (w.heap.size + 3) (by omega)).trans ((H15.out.block (w.heap.size + 3) (by omega)).trans HBR.out)
  obtain ⟨r0, r1, rf⟩ := cellsH2 b1
  have rf0 := rf 0
  have rf1 := rf 1
  obtain ⟨m0, -, -⟩ := cellsH2 ((hR9 w.heap.size (by omega)).trans ((H15.out.block w.heap.size (by omega)).trans HBH.out))
  obtain ⟨z0, z1⟩ := set2H_cells b1 (.int .i64 M) (.slice (some ⟨g6, 0, none⟩) os.length k6)
  have HBE : Hid (Below w.heap.size w ((w9.setCell ⟨w.heap.size + 3, 0, none⟩ (.int .i64 M)).setCell ⟨w.heap.size + 3, 1, none⟩ (.slice (some ⟨g6, 0, none⟩) os.length k6))) := (HB9.out.setCell (by simp only; omega) _).setCell (by simp only; omega) _
  have HOE : Hid (objsIn (fun q => S q ∨ w.heap.size ≤ q) ((w9.setCell ⟨w.heap.size + 3, 0, none⟩ (.int .i64 M)).setCell ⟨w.heap.size + 3, 1, none⟩ (.slice (some ⟨g6, 0, none⟩) os.length k6)) (.slice (some ⟨g6, 0, none⟩) os.length k6) (setOs os j i ⟨yk, yn, ys⟩)) := (HOB9.out.kept (by simp) fun q hq _ => by
    have hne : q ≠ w.heap.size + 3 := by rcases hq with h | h; have := HLOW.out q h; omega; omega
    rw [Below.heap_setCell _ _ _ _ (by simpa using hne), Below.heap_setCell _ _ _ _ (by simpa using hne)]).wide fun q _ h => by rcases h with h | h; exact .inl h; right; omega
  clear b1 rf hR9
  go_wp2
  exact bodyPost_ret (v := .tuple #[.agg #[.int .i64 M, .slice (some ⟨g6, 0, none⟩) os.length k6], .int .i64 0]) (by simp [results, Tryz.results19, go_sem, z0, z1]) rfl ⟨HBE.out, .inr ⟨HE.out, _, by rw [HM.out], by rw [HR.out]; exact HOE.out, _, _, _, rfl⟩⟩
end Go.Proofs.YtchpmnmngeebjaaGreatDoor
/- heap: Len and Tag. -/
namespace Go.Proofs.YtchpmnmngeebjaaGreatDoor
open Go.RowKit Go.Shelf

abbrev lenW (w : World) (v : Vl) : World := w.alloc (.cells #[.int .i64 v.k, .int .i64 v.n, .string (strB v.s)] 25)

set_option maxRecDepth 100000 in
set_option maxHeartbeats 4000000 in
theorem len_no {S : Nat → Prop} {most : Nat} {os : List Ob} {h : Nat} {vo vc : Value} (v : Vl) (w : World) (H : HpIn S w most os h vo vc) (hv : smallV v) (ht : TabsP w) (hno : refB os v = false) :
    Calls Tryz.prog 22 #[.pointer (some ⟨h, 0, none⟩), vlV v] w fun e w' => e = .returned (.tuple #[.int .i64 0, .int .i64 2]) ∧ Below w.heap.size w w' := by
  obtain ⟨w2, hw2⟩ : ∃ w2, w2 = lenW w v := ⟨_, rfl⟩
  have hz : w2.heap.size = w.heap.size + 1 := by rw [hw2]; simp
  have hb2 : Below w.heap.size w w2 := by rw [hw2]; exact (Below.refl _ _).alloc (Nat.le_refl _) _
  have b0 : w2.heap[w.heap.size]? = some (.cells #[.int .i64 v.k, .int .i64 v.n, .string (strB v.s)] 25 (0, 0)) := by rw [hw2]; exact World.alloc_heap_new _ _
  have cf := find_no v w2 (H.below hb2) hv (ht.below hb2 (Nat.le_refl _)) (refB_no hno)
  obtain ⟨p0, p1, p2, -⟩ := cellsH3 b0
  have HB2 : Hid (Below w.heap.size w w2) := hb2
  obtain ⟨k, m, s⟩ := v
  have hw2' := hw2.symm
  unfold lenW at hw2'
  unfold noO at cf
  clear H hb2 b0 hw2 ht hno hv
  go_enter Tryz.func22, Tryz.ntmps22
  go_wp2_with fail
  refine cf.mono ?_
  clear cf
  rintro e w3 ⟨rfl, hb3⟩
  have hs3 := hb3.size
  obtain ⟨w4, hw4⟩ : ∃ w4, w4 = w3.alloc (.cells #[.string ⟨#[]⟩, .int .i64 0, .int .i64 0] 79) := ⟨_, rfl⟩
  have HB4 : Hid (Below w.heap.size w w4) := by rw [hw4]; exact (HB2.out.trans (hb3.mono (by omega))).alloc (by omega) _
  have HW4 : Hid (w4 = w3.alloc (.cells #[.string ⟨#[]⟩, .int .i64 0, .int .i64 0] 79)) := hw4
  have cs := size_any ⟨#[]⟩ 0 0 0 (by omega) (by omega) (by simp) w4
  clear hb3 hw4 hw2' p0 p1 p2
  go_wp2_with fail
  rw [← HW4.out]
  refine cs.mono ?_
  clear cs
  rintro e w5 ⟨rfl, hb5⟩
  have HB5 : Hid (Below w.heap.size w w5) := HB4.out.trans (hb5.mono HB4.out.size)
  clear hb5
  go_wp2
  go_ret2
  exact ⟨rfl, HB5.out⟩

set_option maxRecDepth 100000 in
set_option maxHeartbeats 4000000 in
theorem len_ok {S : Nat → Prop} {most : Nat} {os : List Ob} {h : Nat} {vo vc : Value} (j : Nat) (hj : j < os.length) (w : World) (H : HpIn S w most os h vo vc) (ht : TabsP w) :
    Calls Tryz.prog 22 #[.pointer (some ⟨h, 0, none⟩), vlV ⟨4, j, []⟩] w fun e w' => e = .returned (.tuple #[.int .i64 ((os[j]).2.length : Int), .int .i64 0]) ∧ Below w.heap.size w w' := by
  obtain ⟨hcut, -⟩ := allV_cut os j hj
  have huse := H.use
  have hmay := H.may
  obtain ⟨w2, hw2⟩ : ∃ w2, w2 = lenW w ⟨4, j, []⟩ := ⟨_, rfl⟩
  have hz : w2.heap.size = w.heap.size + 1 := by rw [hw2]; simp
  have hb2 : Below w.heap.size w w2 := by rw [hw2]; exact (Below.refl _ _).alloc (Nat.le_refl _) _
  have b0 : w2.heap[w.heap.size]? = some (.cells #[.int .i64 4, .int .i64 j, .string (strB [])] 25 (0, 0)) := by rw [hw2]; exact World.alloc_heap_new _ _
  have cf := find_ok j hj w2 (H.below hb2) (ht.below hb2 (Nat.le_refl _))
  obtain ⟨p0, p1, p2, -⟩ := cellsH3 b0
  have HB2 : Hid (Below w.heap.size w w2) := hb2
  have HW2 : Hid (w2 = lenW w ⟨4, j, []⟩) := hw2
  obtain ⟨tg, fr, up, hfo, hfr, hup, hln⟩ : ∃ (tg : ByteArray) (fr up : Int), foundO os j hj = .agg #[.string tg, .int .i64 fr, .int .i64 up] ∧ 0 ≤ fr ∧ up ≤ 9223372036854775000 ∧ up - fr = ((os[j]).2.length : Int) := ⟨_, _, _, rfl, by omega, by omega, by omega⟩
  rw [hfo] at cf
  obtain ⟨n, hn⟩ : ∃ n, n = (os[j]).2.length := ⟨_, rfl⟩
  rw [← hn] at hln ⊢
  clear H hb2 b0 hw2 ht hfo hn hcut huse hmay
  go_enter Tryz.func22, Tryz.ntmps22
  go_wp2_with fail
  rw [show w.alloc (.cells #[.int .i64 4, .int .i64 j, .string ⟨#[]⟩] 25) = w2 from HW2.out.symm]
  refine cf.mono ?_
  clear cf
  rintro e w3 ⟨rfl, hb3⟩
  have hs3 := hb3.size
  obtain ⟨w4, hw4⟩ : ∃ w4, w4 = w3.alloc (.cells #[.string tg, .int .i64 fr, .int .i64 up] 79) := ⟨_, rfl⟩
  have HB4 : Hid (Below w.heap.size w w4) := by rw [hw4]; exact (HB2.out.trans (hb3.mono (by omega))).alloc (by omega) _
  have HW4 : Hid (w4 = w3.alloc (.cells #[.string tg, .int .i64 fr, .int .i64 up] 79)) := hw4
  have cs := size_any tg fr up n hfr hup hln w4
  clear hb3 hw4 p0 p1 p2 hln hup hfr
  go_wp2_with fail
  rw [← HW4.out]
  refine cs.mono ?_
  clear cs
  rintro e w5 ⟨rfl, hb5⟩
  have HB5 : Hid (Below w.heap.size w w5) := HB4.out.trans (hb5.mono HB4.out.size)
  clear hb5
  go_wp2
  go_ret2
  exact ⟨rfl, HB5.out⟩

set_option maxRecDepth 100000 in
set_option maxHeartbeats 4000000 in
theorem tag_no {S : Nat → Prop} {most : Nat} {os : List Ob} {h : Nat} {vo vc : Value} (v : Vl) (w : World) (H : HpIn S w most os h vo vc) (hv : smallV v) (ht : TabsP w) (hno : refB os v = false) :
    Calls Tryz.prog 24 #[.pointer (some ⟨h, 0, none⟩), vlV v] w fun e w' => e = .returned (.tuple #[.string ⟨#[]⟩, .int .i64 2]) ∧ Below w.heap.size w w' := by
  obtain ⟨w2, hw2⟩ : ∃ w2, w2 = lenW w v := ⟨_, rfl⟩
  have hz : w2.heap.size = w.heap.size + 1 := by rw [hw2]; simp
  have hb2 : Below w.heap.size w w2 := by rw [hw2]; exact (Below.refl _ _).alloc (Nat.le_refl _) _
  have b0 : w2.heap[w.heap.size]? = some (.cells #[.int .i64 v.k, .int .i64 v.n, .string (strB v.s)] 25 (0, 0)) := by rw [hw2]; exact World.alloc_heap_new _ _
  have cf := find_no v w2 (H.below hb2) hv (ht.below hb2 (Nat.le_refl _)) (refB_no hno)
  obtain ⟨p0, p1, p2, -⟩ := cellsH3 b0
  have HB2 : Hid (Below w.heap.size w w2) := hb2
  obtain ⟨k, m, s⟩ := v
  have hw2' := hw2.symm
  unfold lenW at hw2'
  unfold noO at cf
  clear H hb2 b0 hw2 ht hno hv
  go_enter Tryz.func24, Tryz.ntmps24
  go_wp2_with fail
  refine cf.mono ?_
  clear cf
  rintro e w3 ⟨rfl, hb3⟩
  have hs3 := hb3.size
  obtain ⟨w4, hw4⟩ : ∃ w4, w4 = w3.alloc (.cells #[.string ⟨#[]⟩, .int .i64 0, .int .i64 0] 79) := ⟨_, rfl⟩
  have HB4 : Hid (Below w.heap.size w w4) := by rw [hw4]; exact (HB2.out.trans (hb3.mono (by omega))).alloc (by omega) _
  have HW4 : Hid (w4 = w3.alloc (.cells #[.string ⟨#[]⟩, .int .i64 0, .int .i64 0] 79)) := hw4
  have cs := clone_str [] w4 (by simp)
  rw [show strB [] = ⟨#[]⟩ from rfl] at cs
  clear hb3 hw4 hw2' p0 p1 p2
  go_wp2_with fail
  rw [← HW4.out]
  refine cs.mono ?_
  clear cs
  rintro e w5 ⟨rfl, hb5⟩
  have HB5 : Hid (Below w.heap.size w w5) := HB4.out.trans (hb5.mono HB4.out.size)
  clear hb5
  go_wp2
  go_ret2
  exact ⟨rfl, HB5.out⟩

set_option maxRecDepth 100000 in
set_option maxHeartbeats 4000000 in
theorem tag_ok {S : Nat → Prop} {most : Nat} {os : List Ob} {h : Nat} {vo vc : Value} (j : Nat) (hj : j < os.length) (w : World) (H : HpIn S w most os h vo vc) (ht : TabsP w) :
    Calls Tryz.prog 24 #[.pointer (some ⟨h, 0, none⟩), vlV ⟨4, j, []⟩] w fun e w' => e = .returned (.tuple #[.string (strB (os[j]).1), .int .i64 0]) ∧ Below w.heap.size w w' := by
  have hsm := (H.ok _ (List.getElem_mem hj)).2.1
  obtain ⟨w2, hw2⟩ : ∃ w2, w2 = lenW w ⟨4, j, []⟩ := ⟨_, rfl⟩
  have hz : w2.heap.size = w.heap.size + 1 := by rw [hw2]; simp
  have hb2 : Below w.heap.size w w2 := by rw [hw2]; exact (Below.refl _ _).alloc (Nat.le_refl _) _
  have b0 : w2.heap[w.heap.size]? = some (.cells #[.int .i64 4, .int .i64 j, .string (strB [])] 25 (0, 0)) := by rw [hw2]; exact World.alloc_heap_new _ _
  have cf := find_ok j hj w2 (H.below hb2) (ht.below hb2 (Nat.le_refl _))
  obtain ⟨p0, p1, p2, -⟩ := cellsH3 b0
  have HB2 : Hid (Below w.heap.size w w2) := hb2
  have HW2 : Hid (w2 = lenW w ⟨4, j, []⟩) := hw2
  obtain ⟨fr, up, hfo⟩ : ∃ (fr up : Int), foundO os j hj = .agg #[.string (strB (os[j]).1), .int .i64 fr, .int .i64 up] := ⟨_, _, rfl⟩
  rw [hfo] at cf
  obtain ⟨tg, htg⟩ : ∃ tg, tg = (os[j]).1 := ⟨_, rfl⟩
  rw [← htg] at cf hsm ⊢
  clear H hb2 b0 hw2 ht hfo htg
  go_enter Tryz.func24, Tryz.ntmps24
  go_wp2_with fail
  rw [show w.alloc (.cells #[.int .i64 4, .int .i64 j, .string ⟨#[]⟩] 25) = w2 from HW2.out.symm]
  refine cf.mono ?_
  clear cf
  rintro e w3 ⟨rfl, hb3⟩
  have hs3 := hb3.size
  obtain ⟨w4, hw4⟩ : ∃ w4, w4 = w3.alloc (.cells #[.string (strB tg), .int .i64 fr, .int .i64 up] 79) := ⟨_, rfl⟩
  have HB4 : Hid (Below w.heap.size w w4) := by rw [hw4]; exact (HB2.out.trans (hb3.mono (by omega))).alloc (by omega) _
  have HW4 : Hid (w4 = w3.alloc (.cells #[.string (strB tg), .int .i64 fr, .int .i64 up] 79)) := hw4
  have cs := clone_str tg w4 (by omega)
  clear hb3 hw4 p0 p1 p2
  go_wp2_with fail
  rw [← HW4.out]
  refine cs.mono ?_
  clear cs
  rintro e w5 ⟨rfl, hb5⟩
  have HB5 : Hid (Below w.heap.size w w5) := HB4.out.trans (hb5.mono HB4.out.size)
  clear hb5
  go_wp2
  go_ret2
  exact ⟨rfl, HB5.out⟩
end Go.Proofs.YtchpmnmngeebjaaGreatDoor
/- heap: the document's own Set, Get, Len, Tag, whole. -/
namespace Go.Proofs.YtchpmnmngeebjaaGreatDoor
open Go.RowKit Go.Shelf

theorem refSet_any (S : Nat → Prop) (m : Nat) (os : List Ob) (v : Value) (x y : Vl) (i : Int) (w : World) (hin : objsIn S w v os) (hlow : ∀ q, S q → q < w.heap.size) (hl : os.length ≤ 4096) (hk : ∀ o ∈ os, o.2.length ≤ 1048576) (hx : smallV x) (hy : smallV y) :
    Calls Tryz.prog 19 #[rhV m v, vlV x, .int .i64 i, vlV y] w (refSetP m os x i y v S w) := by
  cases hr : refB os x with
  | false => exact refSet_no S m os v x y i w hin (by omega) hx hr
  | true =>
    obtain ⟨j, hj, rfl⟩ := refB_form hr
    cases hc : cellV y os.length with
    | false => exact refSet_bad S m os v j y i w hin (by omega) hj hy (.inl hc)
    | true =>
      cases hh : hasB i (os[j]).2.length with
      | false => exact refSet_bad S m os v j y i w hin (by omega) hj hy (.inr ⟨hc, hh⟩)
      | true =>
        have hi : 0 ≤ i ∧ i < (os[j]).2.length := by unfold hasB at hh; exact of_decide_eq_true hh
        obtain ⟨q, rfl⟩ : ∃ q : Nat, i = q := ⟨i.toNat, by omega⟩
        exact refSet_ok S m os v j q y w hin hlow hl hj (by omega) (hk _ (List.getElem_mem hj)) hy hc

/-- What Get answers. -/
def getR (os : List Ob) (x : Vl) (i : Int) : Vl × Int :=
  if refB os x = true then (if hasB i ((os[x.n.toNat]?).getD ([], [])).2.length = true then ((((os[x.n.toNat]?).getD ([], [])).2[i.toNat]?).getD ⟨0, 0, []⟩, 0) else (⟨0, 0, []⟩, 10)) else (⟨0, 0, []⟩, 2)
/-- What Len, and Tag, answer. -/
def lenR (os : List Ob) (x : Vl) : Int × Int := if refB os x = true then ((((os[x.n.toNat]?).getD ([], [])).2.length : Int), 0) else (0, 2)
def tagR (os : List Ob) (x : Vl) : List UInt8 × Int := if refB os x = true then (((os[x.n.toNat]?).getD ([], [])).1, 0) else ([], 2)

theorem getR_parts (os : List Ob) (x : Vl) (i : Int) : (refB os x = false ∧ getR os x i = (⟨0, 0, []⟩, 2)) ∨ (∃ (j : Nat) (hj : j < os.length), x = ⟨4, j, []⟩ ∧ ((hasB i (os[j]).2.length = false ∧ getR os x i = (⟨0, 0, []⟩, 10)) ∨ (∃ (q : Nat) (hq : q < (os[j]).2.length), i = q ∧ getR os x i = ((os[j]).2[q], 0)))) := by
  cases hr : refB os x with
  | false => exact .inl ⟨rfl, by unfold getR; rw [hr]; rfl⟩
  | true =>
    obtain ⟨j, hj, rfl⟩ := refB_form hr
    have eo : ((os[((j : Int)).toNat]?).getD ([], [])) = os[j] := by simp [hj]
    refine .inr ⟨j, hj, rfl, ?_⟩
    cases hh : hasB i (os[j]).2.length with
    | false =>
      refine .inl ⟨rfl, ?_⟩
      unfold getR
      rw [if_pos hr]
      simp only [eo, hh]
      rfl
    | true =>
      have hi : 0 ≤ i ∧ i < (os[j]).2.length := by unfold hasB at hh; exact of_decide_eq_true hh
      obtain ⟨q, rfl⟩ : ∃ q : Nat, i = q := ⟨i.toNat, by omega⟩
      have hq : q < (os[j]).2.length := by omega
      refine .inr ⟨q, hq, rfl, ?_⟩
      unfold getR
      rw [if_pos hr]
      simp only [eo, hh]
      simp [hq]

theorem getH_any {S : Nat → Prop} {most : Nat} {os : List Ob} {h : Nat} {vo vc : Value} (x : Vl) (i : Int) (w : World) (H : HpIn S w most os h vo vc) (hx : smallV x) (ht : TabsP w) :
    Calls Tryz.prog 17 #[.pointer (some ⟨h, 0, none⟩), vlV x, .int .i64 i] w fun e w' => e = .returned (.tuple #[vlV (getR os x i).1, .int .i64 (getR os x i).2]) ∧ Below w.heap.size w w' := by
  rcases getR_parts os x i with ⟨hr, e⟩ | ⟨j, hj, rfl, ⟨hh, e⟩ | ⟨q, hq, rfl, e⟩⟩
  · rw [e]; exact get_no x i w H hx ht hr
  · rw [e]; exact get_none j hj i w H ht hh
  · rw [e]; exact get_ok j hj q hq w H ht
theorem refGetH_any (S : Nat → Prop) (m : Nat) (os : List Ob) (v : Value) (x : Vl) (i : Int) (w : World) (hin : objsIn S w v os) (hl : os.length ≤ 1048576) (hk : ∀ o ∈ os, o.2.length ≤ 1048576) (hx : smallV x) :
    Calls Tryz.prog 20 #[rhV m v, vlV x, .int .i64 i] w fun e w' => e = .returned (.tuple #[vlV (getR os x i).1, .int .i64 (getR os x i).2]) ∧ Below w.heap.size w w' := by
  rcases getR_parts os x i with ⟨hr, e⟩ | ⟨j, hj, rfl, ⟨hh, e⟩ | ⟨q, hq, rfl, e⟩⟩
  · rw [e]; exact refGet_no S m os v x i w hin hl hx hr
  · rw [e]; exact refGet_none S m os v j i w hin hl hj (hk _ (List.getElem_mem hj)) hh
  · rw [e]; exact refGet_ok S m os v j q w hin hl hj (hk _ (List.getElem_mem hj)) hq
theorem lenH_any {S : Nat → Prop} {most : Nat} {os : List Ob} {h : Nat} {vo vc : Value} (x : Vl) (w : World) (H : HpIn S w most os h vo vc) (hx : smallV x) (ht : TabsP w) :
    Calls Tryz.prog 22 #[.pointer (some ⟨h, 0, none⟩), vlV x] w fun e w' => e = .returned (.tuple #[.int .i64 (lenR os x).1, .int .i64 (lenR os x).2]) ∧ Below w.heap.size w w' := by
  cases hr : refB os x with
  | false => rw [show lenR os x = (0, 2) by unfold lenR; rw [hr]; rfl]; exact len_no x w H hx ht hr
  | true =>
    obtain ⟨j, hj, rfl⟩ := refB_form hr
    rw [show lenR os ⟨4, (j : Int), []⟩ = (((os[j]).2.length : Int), 0) by unfold lenR; rw [if_pos hr]; simp [hj]]
    exact len_ok j hj w H ht
theorem refLen_any (S : Nat → Prop) (m : Nat) (os : List Ob) (v : Value) (x : Vl) (w : World) (hin : objsIn S w v os) (hl : os.length ≤ 1048576) (hx : smallV x) :
    Calls Tryz.prog 21 #[rhV m v, vlV x] w fun e w' => e = .returned (.tuple #[.int .i64 (lenR os x).1, .int .i64 (lenR os x).2]) ∧ Below w.heap.size w w' := by
  cases hr : refB os x with
  | false => rw [show lenR os x = (0, 2) by unfold lenR; rw [hr]; rfl]; exact refLen_no S m os v x w hin hl hx hr
  | true =>
    obtain ⟨j, hj, rfl⟩ := refB_form hr
    rw [show lenR os ⟨4, (j : Int), []⟩ = (((os[j]).2.length : Int), 0) by unfold lenR; rw [if_pos hr]; simp [hj]]
    exact refLen_ok S m os v j w hin hl hj
theorem tagH_any {S : Nat → Prop} {most : Nat} {os : List Ob} {h : Nat} {vo vc : Value} (x : Vl) (w : World) (H : HpIn S w most os h vo vc) (hx : smallV x) (ht : TabsP w) :
    Calls Tryz.prog 24 #[.pointer (some ⟨h, 0, none⟩), vlV x] w fun e w' => e = .returned (.tuple #[.string (strB (tagR os x).1), .int .i64 (tagR os x).2]) ∧ Below w.heap.size w w' := by
  cases hr : refB os x with
  | false => rw [show tagR os x = ([], 2) by unfold tagR; rw [hr]; rfl]; exact tag_no x w H hx ht hr
  | true =>
    obtain ⟨j, hj, rfl⟩ := refB_form hr
    rw [show tagR os ⟨4, (j : Int), []⟩ = ((os[j]).1, 0) by unfold tagR; rw [if_pos hr]; simp [hj]]
    exact tag_ok j hj w H ht
theorem refTag_any (S : Nat → Prop) (m : Nat) (os : List Ob) (v : Value) (x : Vl) (w : World) (hin : objsIn S w v os) (hl : os.length ≤ 1048576) (hx : smallV x) :
    Calls Tryz.prog 23 #[rhV m v, vlV x] w fun e w' => e = .returned (.tuple #[.string (strB (tagR os x).1), .int .i64 (tagR os x).2]) ∧ Below w.heap.size w w' := by
  cases hr : refB os x with
  | false => rw [show tagR os x = ([], 2) by unfold tagR; rw [hr]; rfl]; exact refTag_no S m os v x w hin hl hx hr
  | true =>
    obtain ⟨j, hj, rfl⟩ := refB_form hr
    rw [show tagR os ⟨4, (j : Int), []⟩ = ((os[j]).1, 0) by unfold tagR; rw [if_pos hr]; simp [hj]]
    exact refTag_ok S m os v j w hin hl hj
end Go.Proofs.YtchpmnmngeebjaaGreatDoor
