import Derived.Test.YtchpmnmngeebjaaDoorHMake
import Derived.Test.YtchpmnmngeebjaaDoorXRefs
import Derived.Test.YtchpmnmngeebjaaDoorHDone
import Derived.Test.YtchpmnmngeebjaaDoorHSame
import Derived.Test.YtchpmnmngeebjaaDoorHLoad
import Derived.Test.YtchpmnmngeebjaaDoorWMix
import Derived.Test.YtchpmnmngeebjaaDoorHShowMath
/- heap: the document's own words of values: is one right, are cells. -/
namespace Go.Proofs.YtchpmnmngeebjaaDoor
open Go.RowKit Go.Shelf

theorem back_str (s : List UInt8) : backB 3 0 s ↔ plainQ s = true := by
  have h := tkB_refT 3 0 s (by omega)
  unfold tkB refT at h
  constructor
  · intro hb
    rw [if_pos hb] at h
    by_cases hp : plainQ s = true
    · exact hp
    · simp [hp] at h
  · intro hp
    by_cases hb : backB 3 0 s
    · exact hb
    · rw [if_neg hb] at h; simp [hp] at h
theorem back_strD (s : List UInt8) : decide (backB 3 0 s) = plainQ s := by
  cases h : plainQ s with
  | true => exact decide_eq_true ((back_str s).2 h)
  | false => exact decide_eq_false fun hb => by rw [(back_str s).1 hb] at h; cases h
theorem back_nameD (s : List UInt8) : decide (backB 1 0 s) = nameQ s := by
  have hb : backB 1 0 s ↔ nameQ s = true := by rw [back_plain (by omega) (by omega)]; simp
  cases h : nameQ s with
  | true => exact decide_eq_true (hb.2 h)
  | false => exact decide_eq_false fun h9 => by rw [hb.1 h9] at h; cases h

set_option maxRecDepth 100000 in
set_option maxHeartbeats 4000000 in
theorem refRight_any (v : Vl) (n : Int) (w : World) (hv : smallV v) :
    Calls Tryd.prog 8 #[vlV v, .int .i64 n] w fun e w' => e = .returned (.bool (rightV v n)) ∧ Below w.heap.size w w' := by
  obtain ⟨k, m, s⟩ := v
  have hs1 : s.length ≤ 1048576 := hv.2
  clear hv
  by_cases h0 : k = 0
  · subst h0
    by_cases hm : m = 0
    · subst hm
      by_cases hs : s = []
      · subst hs
        have HR : Hid (rightV ⟨0, 0, []⟩ n = true) := show _ = _ by simp [rightV]
        go_enter Tryd.func8, Tryd.ntmps8
        go_wp2
        go_ret
        rw [HR.out]
        exact ⟨rfl, (Below.refl _ w).alloc (Nat.le_refl _) _⟩
      · obtain ⟨a, t, rfl⟩ := List.exists_cons_of_ne_nil hs
        have HR : Hid (rightV ⟨0, 0, a :: t⟩ n = false) := show _ = _ by simp [rightV]
        go_enter Tryd.func8, Tryd.ntmps8
        go_wp2
        go_ret
        rw [HR.out]
        exact ⟨rfl, (Below.refl _ w).alloc (Nat.le_refl _) _⟩
    · have hmb : (m == 0) = false := by rw [beq_eq_false_iff_ne]; exact hm
      have HR : Hid (rightV ⟨0, m, s⟩ n = false) := show _ = _ by simp [rightV, hm]
      go_enter Tryd.func8, Tryd.ntmps8
      go_wp2
      go_ret
      rw [HR.out]
      exact ⟨rfl, (Below.refl _ w).alloc (Nat.le_refl _) _⟩
  have hk0 : (k == 0) = false := by rw [beq_eq_false_iff_ne]; exact h0
  by_cases h1 : k = 1
  · subst h1
    clear hk0
    by_cases hs : s = []
    · subst hs
      have HR : Hid (rightV ⟨1, m, []⟩ n = true) := show _ = _ by simp [rightV]
      go_enter Tryd.func8, Tryd.ntmps8
      go_wp2
      go_ret
      rw [HR.out]
      exact ⟨rfl, (Below.refl _ w).alloc (Nat.le_refl _) _⟩
    · obtain ⟨a, t, rfl⟩ := List.exists_cons_of_ne_nil hs
      have HR : Hid (rightV ⟨1, m, a :: t⟩ n = false) := show _ = _ by simp [rightV]
      go_enter Tryd.func8, Tryd.ntmps8
      go_wp2
      go_ret
      rw [HR.out]
      exact ⟨rfl, (Below.refl _ w).alloc (Nat.le_refl _) _⟩
  have hk1 : (k == 1) = false := by rw [beq_eq_false_iff_ne]; exact h1
  by_cases h2 : k = 2
  · subst h2
    clear hk0 hk1
    by_cases hs : s = []
    · subst hs
      by_cases hm : m = 0
      · subst hm
        have HR : Hid (rightV ⟨2, 0, []⟩ n = true) := show _ = _ by simp [rightV, *]
        go_enter Tryd.func8, Tryd.ntmps8
        go_wp2
        go_ret
        rw [HR.out]
        exact ⟨rfl, (Below.refl _ w).alloc (Nat.le_refl _) _⟩
      have hm0 : (m == 0) = false := by rw [beq_eq_false_iff_ne]; exact hm
      by_cases hm1 : m = 1
      · subst hm1
        clear hm0
        have HR : Hid (rightV ⟨2, 1, []⟩ n = true) := show _ = _ by simp [rightV, *]
        go_enter Tryd.func8, Tryd.ntmps8
        go_wp2
        go_ret
        rw [HR.out]
        exact ⟨rfl, (Below.refl _ w).alloc (Nat.le_refl _) _⟩
      have hm2 : (m == 1) = false := by rw [beq_eq_false_iff_ne]; exact hm1
      have HR : Hid (rightV ⟨2, m, []⟩ n = false) := show _ = _ by simp [rightV, *]
      go_enter Tryd.func8, Tryd.ntmps8
      go_wp2
      go_ret
      rw [HR.out]
      exact ⟨rfl, (Below.refl _ w).alloc (Nat.le_refl _) _⟩
    · obtain ⟨a, t, rfl⟩ := List.exists_cons_of_ne_nil hs
      have HR : Hid (rightV ⟨2, m, a :: t⟩ n = false) := show _ = _ by simp [rightV, *]
      go_enter Tryd.func8, Tryd.ntmps8
      go_wp2
      go_ret
      rw [HR.out]
      exact ⟨rfl, (Below.refl _ w).alloc (Nat.le_refl _) _⟩
  have hk2 : (k == 2) = false := by rw [beq_eq_false_iff_ne]; exact h2
  by_cases h3 : k = 3
  · subst h3
    clear hk0 hk1 hk2
    by_cases hm : m = 0
    · subst hm
      obtain ⟨w1, hw1⟩ : ∃ w1, w1 = w.alloc (.cells #[.int .i64 3, .int .i64 0, .string (strB s)] 25) := ⟨_, rfl⟩
      have hb1 : Below w.heap.size w w1 := by rw [hw1]; exact (Below.refl _ w).alloc (Nat.le_refl _) _
      have hz1 : w1.heap.size = w.heap.size + 1 := by rw [hw1]; simp
      have c := refPlain_any s w1 (by omega)
      have HB1 : Hid (Below w.heap.size w w1) := hb1
      have HR : Hid (rightV ⟨3, 0, s⟩ n = plainQ s) := show _ = _ by rw [← back_strD]; simp [rightV]
      generalize plainQ s = b at *
      rw [hw1] at c
      clear hb1
      go_enter Tryd.func8, Tryd.ntmps8
      go_wp2_with fail
      refine c.mono ?_
      clear c
      rw [← hw1]
      rintro e w2 ⟨rfl, rfl⟩
      have HB2 : Hid (Below w.heap.size w w1) := HB1.out
      clear hw1
      cases b with
      | true =>
        go_wp2
        go_ret
        rw [HR.out]
        exact ⟨rfl, HB2.out⟩
      | false =>
        go_wp2
        go_ret
        rw [HR.out]
        exact ⟨rfl, HB2.out⟩
    · have hmb : (m == 0) = false := by rw [beq_eq_false_iff_ne]; exact hm
      have HR : Hid (rightV ⟨3, m, s⟩ n = false) := show _ = _ by simp [rightV, hm]
      go_enter Tryd.func8, Tryd.ntmps8
      go_wp2
      go_ret
      rw [HR.out]
      exact ⟨rfl, (Below.refl _ w).alloc (Nat.le_refl _) _⟩
  have hk3 : (k == 3) = false := by rw [beq_eq_false_iff_ne]; exact h3
  by_cases h4 : k = 4
  · subst h4
    clear hk0 hk1 hk2 hk3
    by_cases hs : s = []
    · subst hs
      by_cases hm : 0 ≤ m
      · by_cases hn : m < n
        · have HR : Hid (rightV ⟨4, m, []⟩ n = true) := show _ = _ by simp [rightV, hm, hn]
          go_enter Tryd.func8, Tryd.ntmps8
          go_wp2
          go_ret
          rw [HR.out]
          exact ⟨rfl, (Below.refl _ w).alloc (Nat.le_refl _) _⟩
        · have HR : Hid (rightV ⟨4, m, []⟩ n = false) := show _ = _ by simp [rightV]; omega
          go_enter Tryd.func8, Tryd.ntmps8
          go_wp2
          go_ret
          rw [HR.out]
          exact ⟨rfl, (Below.refl _ w).alloc (Nat.le_refl _) _⟩
      · have HR : Hid (rightV ⟨4, m, []⟩ n = false) := show _ = _ by simp [rightV]; omega
        go_enter Tryd.func8, Tryd.ntmps8
        go_wp2
        go_ret
        rw [HR.out]
        exact ⟨rfl, (Below.refl _ w).alloc (Nat.le_refl _) _⟩
    · obtain ⟨a, t, rfl⟩ := List.exists_cons_of_ne_nil hs
      have HR : Hid (rightV ⟨4, m, a :: t⟩ n = false) := show _ = _ by simp [rightV, *]
      go_enter Tryd.func8, Tryd.ntmps8
      go_wp2
      go_ret
      rw [HR.out]
      exact ⟨rfl, (Below.refl _ w).alloc (Nat.le_refl _) _⟩
  have hk4 : (k == 4) = false := by rw [beq_eq_false_iff_ne]; exact h4
  have HR : Hid (rightV ⟨k, m, s⟩ n = false) := show _ = _ by simp [rightV, h0, h1, h2, h3, h4]
  go_enter Tryd.func8, Tryd.ntmps8
  go_wp2
  go_ret
  rw [HR.out]
  exact ⟨rfl, (Below.refl _ w).alloc (Nat.le_refl _) _⟩
end Go.Proofs.YtchpmnmngeebjaaDoor
/- heap: the document's own words: cells, New, Used, own. -/
namespace Go.Proofs.YtchpmnmngeebjaaDoor
open Go.RowKit Go.Shelf

set_option maxRecDepth 100000 in
set_option maxHeartbeats 4000000 in
theorem refCells_any (S : Nat → Prop) (l : List Vl) (v : Value) (n : Int) (w : World) (hv : valsIn S w v l) (hs : ∀ x ∈ l, smallV x) (hl : l.length ≤ 1048576) :
    Calls Tryd.prog 28 #[v, .int .i64 n] w fun e w' => e = .returned (.bool (l.all fun x => cellV x n)) ∧ Below w.heap.size w w' := by
  obtain ⟨base, cap, rfl, hc1, hc2, hat⟩ := hv.at
  have HAT : Hid (∀ i (hi : i < l.length), ∃ b o, base = some ⟨b, o, none⟩ ∧ S b ∧ b < w.heap.size ∧ w.cell? ⟨b, o + i * 3, none⟩ = some (.int .i64 (l[i]).k) ∧ w.cell? ⟨b, o + i * 3 + 1, none⟩ = some (.int .i64 (l[i]).n) ∧ w.cell? ⟨b, o + i * 3 + 2, none⟩ = some (.string (strB (l[i]).s))) := hat
  have HS : Hid (∀ x ∈ l, smallV x) := hs
  clear hv hat hs
  go_enter Tryd.func28, Tryd.ntmps28
  go_wp2
  go_loopw [5] (fun vi wr => ∃ i : Nat, i ≤ l.length ∧ vi = .int .i64 i ∧ (∀ j (h : j < l.length), j < i → cellV l[j] n = true) ∧ Below w.heap.size w wr) (fun vi _ => l.length - (intOf vi).toNat)
  case atStart => exact ⟨0, Nat.zero_le _, rfl, fun j _ h => by omega, Below.refl _ _⟩
  case round =>
    obtain ⟨i, hi, rfl, hall, hbw⟩ := hrel
    have HA : Hid (∀ j (h : j < l.length), j < i → cellV l[j] n = true) := hall
    have HB : Hid (Below w.heap.size w wr) := hbw
    have hsw := hbw.size
    clear hall hbw
    by_cases hlt : i < l.length
    · obtain ⟨b, o, rfl, -, hbl, q0, q1, q2⟩ := HAT.out i hlt
      have hi2 : (i : Int) < l.length := by omega
      have r0 := (below_cell HB.out hbl).trans q0
      have r1 := (below_cell HB.out hbl).trans q1
      have r2 := (below_cell HB.out hbl).trans q2
      have hxs := HS.out l[i] (List.getElem_mem hlt)
      obtain ⟨x, hx⟩ : ∃ x, x = l[i] := ⟨_, rfl⟩
      have HX : Hid (x = l[i]) := hx
      rw [← hx] at r0 r1 r2 hxs
      have c := refRight_any x n wr hxs
      have HCV : Hid (cellV x n = (decide (x.k ≠ 0) && rightV x n)) := rfl
      clear q0 q1 q2 hx hxs
      cases hr : rightV x n with
      | false =>
        rw [hr] at c
        have HC : Hid (l.all (fun v => cellV v n) = false) := all_take_false hlt (by rw [← HX.out, HCV.out, hr]; simp)
        clear hr HX HCV
        obtain ⟨xk, xn, xs⟩ := x
        go_wp2_with fail
        refine c.mono ?_
        clear c
        rintro e w3 ⟨rfl, hb3⟩
        have HB3 : Hid (Below w.heap.size w w3) := HB.out.trans (hb3.mono hsw)
        clear hb3
        go_wp2
        go_ret
        rw [HC.out]
        exact ⟨rfl, HB3.out⟩
      | true =>
        rw [hr] at c
        rw [hr] at HCV
        clear hr
        obtain ⟨xk, xn, xs⟩ := x
        simp only at r0 r1 r2
        go_wp2_with fail
        refine c.mono ?_
        clear c
        rintro e w3 ⟨rfl, hb3⟩
        have HB3 : Hid (Below w.heap.size w w3) := HB.out.trans (hb3.mono hsw)
        have hk3 := (below_cell hb3 (by omega)).trans r0
        clear hb3 r0 r1 r2
        by_cases h0 : xk = 0
        · subst h0
          have HC : Hid (l.all (fun v => cellV v n) = false) := all_take_false hlt (by rw [← HX.out, HCV.out]; rfl)
          clear HX HCV
          go_wp2
          go_ret
          rw [HC.out]
          exact ⟨rfl, HB3.out⟩
        · have hkb : (xk == 0) = false := by rw [beq_eq_false_iff_ne]; exact h0
          have HC : Hid (cellV l[i] n = true) := by show _ = _; rw [← HX.out, HCV.out]; simp [h0]
          clear HX HCV
          go_wp2
          refine ⟨⟨i + 1, by omega, by go_num, fun j hj hji => ?_, HB3.out⟩, by simp [intOf]; omega⟩
          by_cases h : j < i
          · exact HA.out j hj h
          · obtain rfl : j = i := by omega
            exact HC.out
    · obtain rfl : i = l.length := by omega
      have hi2 : ¬ (l.length : Int) < l.length := by omega
      have HC : Hid (l.all (fun v => cellV v n) = true) := show _ = _ by
        rw [List.all_eq_true]
        intro x hx
        obtain ⟨j, hj, rfl⟩ := List.getElem_of_mem hx
        exact HA.out j hj hj
      go_wp2
      go_ret
      rw [HC.out]
      exact ⟨rfl, HB.out⟩

/-- The document's heap. -/
abbrev rhV (m : Nat) (v : Value) : Value := .agg #[.int .i64 (m : Int), v]

set_option maxRecDepth 100000 in
set_option maxHeartbeats 1000000 in
theorem refNew_any (m : Int) (w : World) :
    Calls Tryd.prog 26 #[.int .i64 m] w fun e w' => e = .returned (rhV (mostN m) (.slice none 0 0)) ∧ Below w.heap.size w w' := by
  have HM : Hid (((mostN m : Nat) : Int) = max 0 (min m 4096)) := by show _ = _; rw [mostN_int]; omega
  go_enter Tryd.func26, Tryd.ntmps26
  go_wp2
  exact bodyPost_ret (v := .agg #[.int .i64 (max 0 (min m 4096)), .slice none 0 0]) (by simp [results, Tryd.results26, go_sem]) rfl ⟨by rw [← HM.out], (Below.refl _ w).alloc (Nat.le_refl _) _⟩

theorem allV_take_le (os : List Ob) (i : Nat) : (allV (os.take i)).length ≤ (allV os).length := by
  have e : os = os.take i ++ os.drop i := (List.take_append_drop i os).symm
  have : (allV os).length = (allV (os.take i)).length + (allV (os.drop i)).length := by
    conv => lhs; rw [e]
    unfold allV
    rw [List.flatMap_append, List.length_append]
  omega

set_option maxRecDepth 100000 in
set_option maxHeartbeats 4000000 in
theorem refUsed_any (S : Nat → Prop) (m : Nat) (os : List Ob) (v : Value) (w : World) (hv : objsIn S w v os) (hu : os.length + (allV os).length ≤ 4398046511104) :
    Calls Tryd.prog 13 #[rhV m v] w fun e w' => e = .returned (.int .i64 ((os.length + (allV os).length : Nat) : Int)) ∧ Below w.heap.size w w' := by
  obtain ⟨base, cap, rfl, hc1, hc2, hat⟩ := hv.at
  have HAT : Hid (∀ i (hi : i < os.length), ∃ b o u, base = some ⟨b, o, none⟩ ∧ S b ∧ b < w.heap.size ∧ w.cell? ⟨b, o + i * 2, none⟩ = some (.string (strB (os[i]).1)) ∧ w.cell? ⟨b, o + i * 2 + 1, none⟩ = some u ∧ valsIn S w u (os[i]).2) := hat
  have HAL : Hid (∀ i, (allV (os.take i)).length ≤ (allV os).length) := allV_take_le os
  have HSN : Hid (∀ i (h : i < os.length), (allV (os.take (i + 1))).length = (allV (os.take i)).length + (os[i]).2.length) := fun i h => by
    rw [List.take_succ_eq_append_getElem h, allV_snoc, List.length_append]
  obtain ⟨M, hM⟩ : ∃ M : Int, M = (m : Int) := ⟨_, rfl⟩
  rw [show rhV m (.slice base os.length cap) = .agg #[.int .i64 M, .slice base os.length cap] by rw [hM]]
  obtain ⟨w1, hw1⟩ : ∃ w1, w1 = w.alloc (.cells #[.int .i64 M, .slice base os.length cap] 31) := ⟨_, rfl⟩
  have hb1 : Below w.heap.size w w1 := by rw [hw1]; exact (Below.refl _ w).alloc (Nat.le_refl _) _
  have hz1 : w1.heap.size = w.heap.size + 1 := by rw [hw1]; simp
  have hbk : w1.heap[w.heap.size]? = some (.cells #[.int .i64 M, .slice base os.length cap] 31 (0, 0)) := by rw [hw1]; exact World.alloc_heap_new _ _
  obtain ⟨-, p1, -⟩ := cellsH2 hbk
  have HP1 : Hid (w1.cell? ⟨w.heap.size, 1, none⟩ = some (.slice base os.length cap)) := p1
  have HB1 : Hid (Below w.heap.size w w1) := hb1
  have HUS : Hid (os.length + (allV os).length ≤ 4398046511104) := hu
  clear hv hat hb1 hbk p1 hM hu
  go_enter Tryd.func13, Tryd.ntmps13
  go_wp2
  rw [← hw1]
  clear hw1
  go_loopw [3, 4] (fun vn vi wr => ∃ i : Nat, i ≤ os.length ∧ vi = .int .i64 i ∧ vn = .int .i64 ((i + (allV (os.take i)).length : Nat) : Int) ∧ Below w1.heap.size w1 wr) (fun _ vi _ => os.length - (intOf vi).toNat)
  case atStart => exact ⟨0, Nat.zero_le _, rfl, by simp [allV], Below.refl _ _⟩
  case round =>
    obtain ⟨i, hi, rfl, rfl, hbw⟩ := hrel
    have HB : Hid (Below w1.heap.size w1 wr) := hbw
    have hsw := hbw.size
    have pr := (below_cell hbw (by omega)).trans HP1.out
    have hal := HAL.out i
    have hus := HUS.out
    clear hbw
    by_cases hlt : i < os.length
    · have hi2 : (i : Int) < os.length := by omega
      obtain ⟨ba, oa, ua, rfl, -, hla, q0, q1, hva⟩ := HAT.out i hlt
      obtain ⟨bu, cu, hua, z1, z2, -⟩ := hva.at
      subst hua
      have t1 := (below_cell HB.out (by omega)).trans ((below_cell HB1.out hla).trans q1)
      have hsn := HSN.out i hlt
      have hal2 := HAL.out (i + 1)
      obtain ⟨A, hA⟩ : ∃ A, A = (allV (os.take i)).length := ⟨_, rfl⟩
      obtain ⟨L, hL⟩ : ∃ L, L = (os[i]).2.length := ⟨_, rfl⟩
      rw [← hL] at t1 z1 hsn
      rw [← hA] at hsn hal
      have HSN1 : Hid ((allV (os.take (i + 1))).length = A + L) := hsn
      rw [hsn] at hal2
      rw [← hA]
      have e1 : IntKind.i64.wrap (((i + A : Nat) : Int) + 1) = ((i + A : Nat) : Int) + 1 := by rw [IntKind.wrap_i64]; omega
      have e2 : IntKind.i64.wrap (((i + A : Nat) : Int) + 1 + (L : Int)) = ((i + A : Nat) : Int) + 1 + (L : Int) := by rw [IntKind.wrap_i64]; omega
      clear q0 q1 hva hsn hL hA
      go_wp2
      exact ⟨⟨i + 1, by omega, by go_num, by rw [HSN1.out]; go_num, HB.out⟩, by simp [intOf]; omega⟩
    · obtain rfl : i = os.length := by omega
      have hi2 : ¬ (os.length : Int) < os.length := by omega
      have HBr : Hid (Below w.heap.size w wr) := HB1.out.trans (HB.out.mono (by omega))
      go_wp2
      go_ret
      exact ⟨rfl, HBr.out⟩

set_option maxRecDepth 100000 in
set_option maxHeartbeats 1000000 in
theorem refOwn06_any (T : Nat → Prop) (l : List Vl) (vl : Value) (w : World) (hv : valsIn T w vl l) (hf : vl = .slice none 0 0 ∨ ∃ ad n c, vl = .slice (some ad) n c) (hl : l.length ≤ 1048576) :
    Calls Tryd.prog 29 #[vl] w fun e w' => ∃ v', e = .returned v' ∧ Hid (w'.ownsRow w.heap.size 25 3 v' l.length (vlC l)) ∧ Below w.heap.size w w' := by
  obtain ⟨i0, hi0, hz0, hz1, hz2⟩ := info_parts info_val
  obtain ⟨base, cap, hvl, hc1, hc2, h3⟩ := hv
  have hl0 : (w.alloc (.cells #[] 25)).ownsRow w.heap.size 25 3 (.slice (some ⟨w.heap.size, 0, none⟩) 0 0) 0 [] := World.ownsRow_made w #[] 0 (Nat.le_refl _) (Nat.zero_le _) rfl
  have HB1 : Hid (Below w.heap.size w (w.alloc (.cells #[] 25))) := (Below.refl _ w).alloc (Nat.le_refl _) _
  rcases hf with rfl | ⟨ad, n, c, rfl⟩
  · simp only [Value.slice.injEq] at hvl
    have hl9 : l = [] := List.length_eq_zero_iff.1 hvl.2.1.symm
    subst hl9
    have HF : Hid ((w.alloc (.cells #[] 25)).ownsRow w.heap.size 25 3 (.slice (some ⟨w.heap.size, 0, none⟩) 0 0) ([] : List Vl).length (vlC [])) := hl0
    clear h3 hvl
    go_enter Tryd.func29, Tryd.ntmps29
    go_wp2_with (at_builtin; refine wpList_append_own_none rfl _ _ 45 rfl w.heap.size 25 i0 3 Tryd.underlying45 hi0 _ 0 [] rfl hl0 rfl ?_)
    go_ret
    exact ⟨_, rfl, HF, HB1.out⟩
  · simp only [Value.slice.injEq] at hvl
    obtain ⟨rfl, rfl, rfl⟩ := hvl
    have hnews : ∀ j u, (vlC l)[j]? = some u → (w.alloc (.cells #[] 25)).cell? (ad.add j) = some u := fun j u hj => by
      rcases h3 with h3 | ⟨b, o, e, -, -, hc⟩
      · subst h3; simp [vlC] at hj
      · simp only [Option.some.injEq] at e
        subst e
        rw [addr_plain]
        exact Lib.cell?_alloc_some _ (hc j u hj)
    clear h3
    go_enter Tryd.func29, Tryd.ntmps29
    go_wp2_with (at_builtin; refine wpList_append_own_at _ rfl _ _ 45 rfl w.heap.size 25 i0 _ 3 32 Tryd.underlying45 hi0 hz0 hz1 hz2 rfl (by decide) _ _ _ rfl hl0 ad l.length c (vlC l) rfl (by rw [vlC_len]) hnews (vl_one l) (by unfold maxLen; omega) (by omega) (by simp) ?_; intro v' w1 hown' hgrow _ hat)
    go_ret
    refine ⟨v', rfl, ?_, HB1.out.grown hgrow (by simp) (fun k hk => (hl0.lt k hk).1)⟩
    rw [Nat.zero_add, List.nil_append] at hown'
    exact hown'

end Go.Proofs.YtchpmnmngeebjaaDoor
/- heap: the document's own Load. -/
namespace Go.Proofs.YtchpmnmngeebjaaDoor
open Go.RowKit Go.Shelf

theorem set2_cells {w : World} {N : Nat} {x0 x1 : Value} {ty : TypeId} (h : w.heap[N]? = some (.cells #[x0, x1] ty (0, 0))) (x y : Value) :
    ((w.setCell ⟨N, 0, none⟩ x).setCell ⟨N, 1, none⟩ y).cell? ⟨N, 0, none⟩ = some x ∧ ((w.setCell ⟨N, 0, none⟩ x).setCell ⟨N, 1, none⟩ y).cell? ⟨N, 1, none⟩ = some y := by
  obtain ⟨a, b, -⟩ := cellsH2 (x0 := x) (x1 := y) (setCellH_block (j := 1) y (setCellH_block (j := 0) x h))
  exact ⟨a, b⟩

/-- What the document's Load answers. -/
def refLoadP (m : Int) (os : List Ob) (w : World) (e : Ending) (w' : World) : Prop :=
  Below w.heap.size w w' ∧ ((e = .returned (.tuple #[.agg #[.int .i64 0, .slice none 0 0], .int .i64 2]) ∧ ∃ o ∈ os, obB o (os.length : Int) = false) ∨
    (e = .returned (.tuple #[.agg #[.int .i64 0, .slice none 0 0], .int .i64 12]) ∧ (∀ o ∈ os, obB o (os.length : Int) = true) ∧ mostN m < os.length + (allV os).length) ∨
    ((∀ o ∈ os, obB o (os.length : Int) = true) ∧ os.length + (allV os).length ≤ mostN m ∧ ∃ v, e = .returned (.tuple #[rhV (mostN m) v, .int .i64 0]) ∧ ObsAt w.heap.size w' os v))

theorem obB_parts (o : Ob) (n : Int) : obB o n = (o.2.all (fun x => cellV x n) && (decide (o.1 = []) || nameQ o.1)) := by
  unfold obB tagB
  congr 1
  rw [← back_nameD]
  by_cases h : o.1 = [] <;> by_cases h2 : backB 1 0 o.1 <;> simp [h, h2]

/-- Rows of values that came in: none, or some. -/
def objsF (w : World) (v : Value) (os : List Ob) : Prop := ∀ i, i < os.length → ∀ b o cap u, v = .slice (some ⟨b, o, none⟩) os.length cap → w.cell? ⟨b, o + i * 2 + 1, none⟩ = some u → (u = .slice none 0 0 ∨ ∃ ad n c, u = .slice (some ad) n c)

theorem ObsOwn.setBox {B : Nat} {w : World} {os : List Ob} {v : Value} {vs : List Value} (h : ObsOwn B w os v vs) {G j : Nat} {c : Array Value} {ty : TypeId} {fr : Nat × Nat} (hG : w.heap[G]? = some (.cells c ty fr)) (h1 : ty ≠ 47) (h2 : ty ≠ 25) (u : Value) : ObsOwn B (w.setCell ⟨G, j, none⟩ u) os v vs where
  len := h.len
  row := own_blocks h.row fun k hk _ => Below.heap_setCell _ _ _ _ (by
    intro e; simp only at e; subst e
    obtain ⟨cur, hc⟩ := own_type h.row hk
    rw [hG] at hc
    simp only [Option.some.injEq, Obj.cells.injEq] at hc
    exact h1 hc.2.1)
  kids := fun q hq => by
    obtain ⟨z, hz, ho⟩ := h.kids q hq
    refine ⟨z, hz, own_blocks ho fun k hk _ => Below.heap_setCell _ _ _ _ ?_⟩
    intro e; simp only at e; subst e
    obtain ⟨cur, hc⟩ := own_type ho hk
    rw [hG] at hc
    simp only [Option.some.injEq, Obj.cells.injEq] at hc
    exact h2 hc.2.1

/-- What the loop keeps: the document's heap in the block G, the result's in the block R. -/
structure LdJ (n : Nat) (w : World) (m : Nat) (os : List Ob) (R G : Nat) (i : Nat) (vL : Value) (vs : List Value) (wr : World) : Prop where
  own : ObsOwn n wr (os.take i) vL vs
  box : wr.heap[G]? = some (.cells #[.int .i64 (m : Int), vL] 31 (0, 0))
  res : wr.heap[R]? = some (.cells #[.int .i64 0, .slice none 0 0] 31 (0, 0))
  below : Below n w wr
  ok : ∀ o ∈ os.take i, obB o (os.length : Int) = true

set_option maxRecDepth 100000 in
set_option maxHeartbeats 8000000 in
theorem refLoad_any (T : Nat → Prop) (m : Int) (os : List Ob) (v : Value) (w : World) (hv : objsIn T w v os) (hs : ∀ o ∈ os, smallO o) (hk : ∀ o ∈ os, o.2.length ≤ 1048576) (hl : os.length ≤ 1048576) (hf : objsF w v os) :
    Calls Tryd.prog 6 #[.int .i64 m, v] w (refLoadP m os w) := by
  obtain ⟨i0, hi0, hz0, hz1, hz2⟩ := info_parts info_Obj
  obtain ⟨b1, c1, rfl, p1, p2, hat1⟩ := hv.at
  have H1 : Hid (∀ i (hi : i < os.length), ∃ b o u, b1 = some ⟨b, o, none⟩ ∧ T b ∧ b < w.heap.size ∧ w.cell? ⟨b, o + i * 2, none⟩ = some (.string (strB (os[i]).1)) ∧ w.cell? ⟨b, o + i * 2 + 1, none⟩ = some u ∧ valsIn T w u (os[i]).2) := hat1
  have HFM : Hid (objsF w (.slice b1 os.length c1) os) := hf
  have HS : Hid (∀ o ∈ os, smallO o) := hs
  have HK : Hid (∀ o ∈ os, o.2.length ≤ 1048576) := hk
  have HAL : Hid ((allV os).length ≤ os.length * 1048576) := by
    show _ ≤ _
    have : ∀ i, i ≤ os.length → (allV (os.take i)).length ≤ i * 1048576 := fun i hi => by
      induction i with
      | zero => simp [allV]
      | succ i ih =>
        rw [take_snoc (by omega), allV_snoc, List.length_append]
        have := ih (by omega)
        have := hk os[i] (List.getElem_mem (by omega))
        omega
    have := this os.length (Nat.le_refl _)
    rwa [List.take_of_length_le (Nat.le_refl _)] at this
  obtain ⟨M, hM⟩ : ∃ M, M = mostN m := ⟨_, rfl⟩
  have hMl : M ≤ 4096 := by rw [hM]; exact mostN_le m
  have HM : Hid (M = mostN m) := hM
  obtain ⟨wa, hwa⟩ : ∃ wa, wa = w.alloc (.cells #[.int .i64 0, .slice none 0 0] 31) := ⟨_, rfl⟩
  have hsa : wa.heap.size = w.heap.size + 1 := by rw [hwa]; simp
  have hba : Below w.heap.size w wa := by rw [hwa]; exact (Below.refl _ w).alloc (Nat.le_refl _) _
  have hra : wa.heap[w.heap.size]? = some (.cells #[.int .i64 0, .slice none 0 0] 31 (0, 0)) := by rw [hwa]; exact World.alloc_heap_new _ _
  have cn := refNew_any m wa
  rw [← hM] at cn
  have HBA : Hid (Below w.heap.size w wa) := hba
  have HRA : Hid (wa.heap[w.heap.size]? = some (.cells #[.int .i64 0, .slice none 0 0] 31 (0, 0))) := hra
  have HWA : Hid (wa = w.alloc (.cells #[.int .i64 0, .slice none 0 0] 31)) := hwa
  clear hv hat1 hs hk hM hba hra hwa hf
  go_enter Tryd.func6, Tryd.ntmps6
  go_wp2_with fail
  rw [← HWA.out]
  refine cn.mono ?_
  clear cn
  rintro e wb ⟨rfl, hbb⟩
  have hsb := hbb.size
  obtain ⟨wd, hwc⟩ : ∃ wd, wd = wb.alloc (.cells #[.int .i64 (M : Int), .slice none 0 0] 31) := ⟨_, rfl⟩
  have hsc : wd.heap.size = wb.heap.size + 1 := by rw [hwc]; simp
  have hbc : Below wb.heap.size wb wd := by rw [hwc]; exact (Below.refl _ _).alloc (Nat.le_refl _) _
  have hgc : wd.heap[wb.heap.size]? = some (.cells #[.int .i64 (M : Int), .slice none 0 0] 31 (0, 0)) := by rw [hwc]; exact World.alloc_heap_new _ _
  have HJ0 : Hid (LdJ w.heap.size w M os w.heap.size wb.heap.size 0 (.slice none 0 0) [] wd) := ⟨⟨rfl, World.ownsRow_nil _ _ _ _, fun j hj => by simp at hj⟩, hgc, (hbc.block _ (by omega)).trans ((hbb.block _ (by omega)).trans HRA.out), (HBA.out.trans (hbb.mono (by omega))).trans (hbc.mono (by omega)), by simp⟩
  obtain ⟨G, hG⟩ : ∃ G, G = wb.heap.size := ⟨_, rfl⟩
  have hGw : w.heap.size < G := by omega
  rw [← hG] at HJ0
  have HWC : Hid (wd = wb.alloc (.cells #[.int .i64 (M : Int), .slice none 0 0] 31)) := hwc
  clear hbb hbc hgc hwc hsc hsb hsa
  go_wp2
  rw [← hG, ← HWC.out]
  clear hG HWC
  go_loopw [7] (fun vi wr => ∃ (i : Nat) (vL : Value) (vs : List Value), i ≤ os.length ∧ vi = .int .i64 i ∧ LdJ w.heap.size w M os w.heap.size G i vL vs wr) (fun vi _ => os.length - (intOf vi).toNat)
  case atStart => exact ⟨0, _, _, Nat.zero_le _, rfl, HJ0.out⟩
  case round =>
    obtain ⟨i, vL, vs, hi, rfl, hJ⟩ := hrel
    have HJ : Hid (LdJ w.heap.size w M os w.heap.size G i vL vs wr) := hJ
    obtain ⟨g0, g1, gf⟩ := cellsH2 hJ.box
    obtain ⟨r0, r1, rf⟩ := cellsH2 hJ.res
    have rf0 := rf 0
    have rf1 := rf 1
    have hsw := hJ.below.size
    have hGl : G < wr.heap.size := (Array.getElem?_eq_some_iff.1 hJ.box).1
    have hRl : w.heap.size < wr.heap.size := (Array.getElem?_eq_some_iff.1 hJ.res).1
    clear hJ gf rf
    by_cases hlt : i < os.length
    · have hi2 : (i : Int) < os.length := by omega
      obtain ⟨ba, oa, ua, rfl, -, hla, q0, q1, hva⟩ := H1.out i hlt
      have hform := HFM.out i hlt ba oa c1 ua rfl q1
      obtain ⟨bu, cu, hua, z1, z2, -⟩ := hva.at
      subst hua
      have hxs := HS.out os[i] (List.getElem_mem hlt)
      have hxk := HK.out os[i] (List.getElem_mem hlt)
      obtain ⟨X, hX⟩ : ∃ X, X = os[i] := ⟨_, rfl⟩
      rw [← hX] at q0 q1 hva hxs hxk z1 hform
      have HX : Hid (X = os[i]) := hX
      have HOB : Hid (obB X (os.length : Int) = (X.2.all (fun x => cellV x (os.length : Int)) && (decide (X.1 = []) || nameQ X.1))) := obB_parts X _
      have t0 := (below_cell HJ.out.below hla).trans q0
      have t1 := (below_cell HJ.out.below hla).trans q1
      have hvr : valsIn T wr (.slice bu X.2.length cu) X.2 := hva.kept HJ.out.below.size fun k _ hk => HJ.out.below.block k hk
      have HVR : Hid (valsIn T wr (.slice bu X.2.length cu) X.2) := hvr
      have HFORM : Hid (Value.slice bu X.2.length cu = .slice none 0 0 ∨ ∃ ad n c, Value.slice bu X.2.length cu = .slice (some ad) n c) := hform
      have HXS : Hid (smallO X) := hxs
      have hnm := refName_any X.1 wr (by have := hxs.1; omega)
      have hce := fun W (h : Below wr.heap.size wr W) => refCells_any T X.2 (.slice bu X.2.length cu) (os.length : Int) W (hvr.kept h.size fun k _ hk => h.block k hk) hxs.2 hxk
      obtain ⟨OBX, hOBX⟩ : ∃ OBX, OBX = obB X (os.length : Int) := ⟨_, rfl⟩
      have HOBX : Hid (OBX = obB X (os.length : Int)) := hOBX
      rw [← hOBX] at HOB
      obtain ⟨tag, cs⟩ := X
      simp only at *
      obtain ⟨CB, hCB⟩ : ∃ CB, CB = cs.all (fun x => cellV x (os.length : Int)) := ⟨_, rfl⟩
      rw [← hCB] at HOB
      have HCE : Hid (∀ W, Below wr.heap.size wr W → Calls Tryd.prog 28 #[.slice bu cs.length cu, .int .i64 (os.length : Int)] W fun e w' => e = .returned (.bool CB) ∧ Below W.heap.size W w') := by rw [hCB]; exact hce
      clear q0 q1 hva hX hvr hform hxs hce hOBX hCB
      go_upto_region 5 with fail
      go_cut [41] from 10 to 59 (fun t wx => t = .bool (!OBX) ∧ Below wr.heap.size wr wx)
      case first =>
        by_cases htn : tag = []
        · subst htn
          have c := HCE.out wr (Below.refl _ _)
          have HE : Hid (OBX = CB) := by show _ = _; rw [HOB.out]; simp
          clear hnm
          cases CB with
          | true =>
            go_wp2_with fail
            refine c.mono ?_
            clear c
            rintro e w3 ⟨rfl, hb3⟩
            have HB3 : Hid (Below wr.heap.size wr w3) := hb3
            clear hb3
            go_wp2_with fail
            go_meet
            exact ⟨by rw [HE.out]; rfl, HB3.out⟩
          | false =>
            go_wp2_with fail
            refine c.mono ?_
            clear c
            rintro e w3 ⟨rfl, hb3⟩
            have HB3 : Hid (Below wr.heap.size wr w3) := hb3
            clear hb3
            go_wp2_with fail
            go_meet
            exact ⟨by rw [HE.out]; rfl, HB3.out⟩
        · have HE : Hid (OBX = (CB && nameQ tag)) := by show _ = _; rw [HOB.out]; simp [htn]
          obtain ⟨c0, c9, rfl⟩ := List.exists_cons_of_ne_nil htn
          cases hq : nameQ (c0 :: c9) with
          | false =>
            rw [hq] at hnm HE
            clear hq
            go_wp2_with fail
            refine hnm.mono ?_
            clear hnm
            rintro e w3 ⟨rfl, hb3⟩
            have HB3 : Hid (Below wr.heap.size wr w3) := hb3
            clear hb3
            go_wp2_with fail
            go_meet
            exact ⟨by rw [HE.out]; simp, HB3.out⟩
          | true =>
            rw [hq] at hnm HE
            clear hq
            go_wp2_with fail
            refine hnm.mono ?_
            clear hnm
            rintro e w3 ⟨rfl, hb3⟩
            have HB3 : Hid (Below wr.heap.size wr w3) := hb3
            have s1 := (below_cell hb3 (by omega)).trans t1
            have c := HCE.out w3 hb3
            clear hb3 t0 t1
            cases CB with
            | true =>
              go_wp2_with fail
              refine c.mono ?_
              clear c
              rintro e w4 ⟨rfl, hb4⟩
              have HB4 : Hid (Below wr.heap.size wr w4) := HB3.out.trans (hb4.mono HB3.out.size)
              clear hb4
              go_wp2_with fail
              go_meet
              exact ⟨by rw [HE.out]; rfl, HB4.out⟩
            | false =>
              go_wp2_with fail
              refine c.mono ?_
              clear c
              rintro e w4 ⟨rfl, hb4⟩
              have HB4 : Hid (Below wr.heap.size wr w4) := HB3.out.trans (hb4.mono HB3.out.size)
              clear hb4
              go_wp2_with fail
              go_meet
              exact ⟨by rw [HE.out]; rfl, HB4.out⟩
      case rest =>
        obtain ⟨rfl, hbc⟩ := hcut
        have hsc := hbc.size
        have HBc : Hid (Below wr.heap.size wr wc) := hbc
        obtain ⟨g0', g1', gf'⟩ := cellsH2 ((hbc.block G hGl).trans HJ.out.box)
        obtain ⟨r0', r1', rf'⟩ := cellsH2 ((hbc.block w.heap.size hRl).trans HJ.out.res)
        have rf0' := rf' 0
        have rf1' := rf' 1
        have t0' := (below_cell hbc (by omega)).trans t0
        have t1' := (below_cell hbc (by omega)).trans t1
        clear g0 g1 r0 r1 rf0 rf1 t0 t1 hnm HCE HOB
        cases OBX with
        | false =>
          have HBw : Hid (Below w.heap.size w ((wc.setCell ⟨w.heap.size, 0, none⟩ (.int .i64 0)).setCell ⟨w.heap.size, 1, none⟩ (.slice none 0 0))) := ((HJ.out.below.trans (hbc.mono hsw)).setCell (Nat.le_refl _) _).setCell (Nat.le_refl _) _
          obtain ⟨z0, z1⟩ := set2_cells ((hbc.block w.heap.size hRl).trans HJ.out.res) (.int .i64 0) (.slice none 0 0)
          clear hbc gf' rf' t0' t1' g0' g1'
          go_wp2
          exact bodyPost_ret (v := .tuple #[.agg #[.int .i64 0, .slice none 0 0], .int .i64 2]) (by simp [results, Tryd.results6, go_sem, z0, z1]) rfl ⟨HBw.out, .inl ⟨rfl, _, by rw [HX.out]; exact List.getElem_mem hlt, HOBX.out.symm⟩⟩
        | true =>
          have HOW : Hid (ObsOwn w.heap.size wc (os.take i) vL vs) := HJ.out.own.kept (fun q _ hq => hbc.block q hq)
          have HBwc : Hid (Below w.heap.size w wc) := HJ.out.below.trans (hbc.mono hsw)
          have HBOX : Hid (wc.heap[G]? = some (.cells #[.int .i64 (M : Int), vL] 31 (0, 0))) := (hbc.block G hGl).trans HJ.out.box
          have HRES : Hid (wc.heap[w.heap.size]? = some (.cells #[.int .i64 0, .slice none 0 0] 31 (0, 0))) := (hbc.block w.heap.size hRl).trans HJ.out.res
          have HVC : Hid (valsIn T wc (.slice bu cs.length cu) cs) := HVR.out.kept hbc.size fun k _ hk => hbc.block k hk
          have HTK : Hid (os.take (i + 1) = os.take i ++ [(tag, cs)]) := by show _ = _; rw [take_snoc hlt, ← HX.out]
          have HTL : Hid ((os.take i).length = i) := by show _ = _; rw [List.length_take]; omega
          have hwlt : w.heap.size < wc.heap.size := by omega
          have hGc : G < wc.heap.size := by omega
          have co : ∀ W, Below wc.heap.size wc W → Calls Tryd.prog 29 #[.slice bu cs.length cu] W fun e w5 => ∃ b5 c5, e = .returned (.slice b5 cs.length c5) ∧ w5.cell? ⟨G, 1, none⟩ = some vL ∧ (∀ ob, (w5.alloc ob).cell? ⟨G, 1, none⟩ = some vL) ∧ w5.cell? ⟨ba, oa + i * 2, none⟩ = some (.string (strB tag)) ∧ Hid (w5.ownsRow w.heap.size 25 3 (.slice b5 cs.length c5) cs.length (vlC cs)) ∧ Hid (Below wc.heap.size wc w5) := fun W hW => by
            refine (refOwn06_any T cs _ W (HVC.out.kept hW.size fun q _ hq => hW.block q hq) HFORM.out hxk).mono ?_
            rintro e w5 ⟨v5, rfl, ho5, hb5⟩
            have h5 : Below wc.heap.size wc w5 := hW.trans (hb5.mono hW.size)
            obtain ⟨b5, c5, rfl, -, -⟩ := own_val ho5.out
            refine ⟨b5, c5, rfl, (below_cell h5 hGc).trans g1', fun ob => Lib.cell?_alloc_some ob ((below_cell h5 hGc).trans g1'), (below_cell h5 (by omega)).trans t0', ?_, h5⟩
            refine ⟨ho5.out.1, ?_⟩
            rcases ho5.out.2 with h9 | ⟨g', c', cur, q1, q2, q3⟩
            · exact .inl h9
            · exact .inr ⟨g', c', cur, q1, by have := hW.size; omega, q3⟩
          have hBd : Below wc.heap.size wc wc.drew := (Below.refl _ _).drew
          have gf1 := gf' 1
          clear hbc gf' rf' rf0' rf1' r0' r1' g0'
          go_wp2_with fail
          go_region_law (first
            | (refine step_append_at (.tmp 44) (.tmp 57) 22 rfl (by rfl) w.heap.size 47 i0 _ 2 40 Tryd.underlying22 hi0 hz0 hz1 hz2 rfl (by decide) _ i _ rfl (HR5.out.alloc _) ⟨w5.heap.size, 0, none⟩ 1 1 [.string (strB tag), .slice b5 cs.length c5] rfl rfl (cells_new _ _ _) (by simp [Value.oneCell']) (by unfold maxLen; omega) (by omega) (by have := HB5.out.size; simp; omega) ?_
               intro v6 w6 hown6 hg6 hat6
               obtain ⟨b6, k6, rfl, hc61, hc62⟩ := own_val hown6
               have hne : vL.ownBlock ≠ some G := (fun e => by obtain ⟨cur, hc⟩ := own_type HOB5.out.row e; rw [HBX5.out] at hc; simp at hc)
               have hbk6 : w6.heap[G]? = some (.cells #[.int .i64 (M : Int), vL] 31 (0, 0)) := (hg6.block G (by have := HB5.out.size; simp; omega) (fun e => hne e.symm)).trans ((Below.heap_alloc _ _ _ (by have := HB5.out.size; omega)).trans HBX5.out)
               have f6 : w6.frozen? ⟨G, 1, none⟩ = false := (cellsH2 hbk6).2.2 1
               have d6 : w6.cell? ⟨G, 1, none⟩ = some vL := (cellsH2 hbk6).2.1
               have HBK6 : Hid (w6.heap[G]? = some (.cells #[.int .i64 (M : Int), vL] 31 (0, 0))) := hbk6
               have HO6 : Hid (ObsOwn w.heap.size w6 (os.take (i + 1)) (.slice b6 (i + 1) k6) (vs ++ [.slice b5 cs.length c5])) := (by show ObsOwn _ _ _ _ _; rw [HTK.out]; exact HOB5.out.snoc (o := (tag, cs)) HO5.out (by rw [HTL.out]; exact hown6) hg6)
               have HB6 : Hid (Below w.heap.size w w6) := (by have hB5 : Below w.heap.size w w5 := HBwc.out.trans (HB5.out.mono (by omega)); exact (hB5.alloc hB5.size _).grown hg6 (by have := hB5.size; simp; omega) (fun q hq => (HOB5.out.row.lt q hq).1))
               have HR6 : Hid (w6.heap[w.heap.size]? = some (.cells #[.int .i64 0, .slice none 0 0] 31 (0, 0))) := (by
                 show _ = _
                 rw [hg6.block w.heap.size (by have := HB5.out.size; simp; omega) (fun e => ?_), Below.heap_alloc _ _ _ (by have := HB5.out.size; omega), HB5.out.block _ hwlt]
                 · exact HRES.out
                 · obtain ⟨cur, hc⟩ := own_type HOB5.out.row e.symm; rw [HB5.out.block _ hwlt, HRES.out] at hc; simp at hc)
               clear hown6 hg6 hat6 hbk6 hne)
            | (go_simp
               go_at_call 29
               refine (co _ hBd).mono ?_
               rintro e w5 ⟨b5, c5, rfl, e1, e1', e2, HO5, HB5⟩
               have HOB5 : Hid (ObsOwn w.heap.size w5 (os.take i) vL vs) := HOW.out.kept (fun q _ hq => HB5.out.block q hq)
               have HBX5 : Hid (w5.heap[G]? = some (.cells #[.int .i64 (M : Int), vL] 31 (0, 0))) := (HB5.out.block G hGc).trans HBOX.out
               have HR5 : Hid (w5.ownsRow w.heap.size 47 2 vL i (obsC (os.take i) vs)) := (by have := HOB5.out.row; rw [HTL.out] at this; exact this)))
          all_goals
            have HJ9 : Hid (LdJ w.heap.size w M os w.heap.size G (i + 1) (.slice b6 (i + 1) k6) (vs ++ [.slice b5 cs.length c5]) (w6.setCell ⟨G, 1, none⟩ (.slice b6 (i + 1) k6))) := ⟨HO6.out.setBox HBK6.out (by decide) (by decide) (.slice b6 (i + 1) k6), setCellH_block (.slice b6 (i + 1) k6) HBK6.out, (Below.heap_setCell _ _ _ _ (by simp only; omega)).trans HR6.out, HB6.out.setCell (by simp only; omega) (.slice b6 (i + 1) k6), fun o ho => by
              rw [HTK.out] at ho
              rcases List.mem_append.1 ho with h9 | h9
              · exact HJ.out.ok o h9
              · rw [List.mem_singleton] at h9; subst h9; exact HOBX.out.symm⟩
            go_wp2
            exact ⟨⟨i + 1, (.slice b6 (i + 1) k6), _, by omega, by go_num, HJ9.out⟩, by simp [intOf]; omega⟩
    · obtain rfl : i = os.length := by omega
      have hi2 : ¬ (os.length : Int) < os.length := by omega
      have hall : ∀ o ∈ os, obB o (os.length : Int) = true := by have := HJ.out.ok; rwa [List.take_of_length_le (Nat.le_refl _)] at this
      have hown : ObsOwn w.heap.size wr os vL vs := by have := HJ.out.own; rwa [List.take_of_length_le (Nat.le_refl _)] at this
      obtain ⟨bL, cL, rfl, -, -⟩ := own_val hown.row
      have HC : Hid (∀ wx, Below wr.heap.size wr wx → Calls Tryd.prog 13 #[.agg #[.int .i64 (M : Int), .slice bL os.length cL]] wx fun e w'' => e = .returned (.int .i64 ((os.length + (allV os).length : Nat) : Int)) ∧ Below wr.heap.size wr w'') := fun wx hx => (refUsed_any _ M os (.slice bL os.length cL) wx (hown.read.kept hx.size fun q _ hq => hx.block q hq) (by have := HAL.out; omega)).mono fun e w'' ⟨he, hb⟩ => ⟨he, hx.trans (hb.mono hx.size)⟩
      have x0 := cls_cell (n := wr.heap.size) g0 (by simp only; omega)
      have x1 := cls_cell (n := wr.heap.size) g1 (by simp only; omega)
      have HAL9 : Hid (∀ o ∈ os, obB o (os.length : Int) = true) := hall
      have HOWN : Hid (ObsOwn w.heap.size wr os (.slice bL os.length cL) vs) := hown
      obtain ⟨U, hU⟩ : ∃ U : Nat, U = os.length + (allV os).length := ⟨_, rfl⟩
      have HU : Hid (U = os.length + (allV os).length) := hU
      rw [← hU] at HC
      clear hall hown hU rf0 rf1 r0 r1
      go_upto_region 8 with fail
      by_cases hfull : M < U
      · have hfi : (M : Int) < (U : Int) := by omega
        refine wp_region_cls (n := wr.heap.size) (w0 := wr) (Below.refl _ _) (by kernel_rfl) (by kernel_rfl) ?_
        go_big_quiet_step (fail)
        go_big_quiet_step (exact cls_calls HC.out _)
        iterate 3 (go_big_quiet_step (fail))
        refine wpQuiet_nil ?_
        rintro _ ⟨c, rfl⟩
        obtain ⟨r0, r1, rf⟩ := cellsH2 ((c.2.block w.heap.size hRl).trans HJ.out.res)
        have rf0 := rf 0
        have rf1 := rf 1
        have HBw : Hid (Below w.heap.size w ((c.1.setCell ⟨w.heap.size, 0, none⟩ (.int .i64 0)).setCell ⟨w.heap.size, 1, none⟩ (.slice none 0 0))) := ((HJ.out.below.trans (c.2.mono hsw)).setCell (Nat.le_refl _) _).setCell (Nat.le_refl _) _
        obtain ⟨z0, z1⟩ := set2_cells ((c.2.block w.heap.size hRl).trans HJ.out.res) (.int .i64 0) (.slice none 0 0)
        clear rf x0 x1 g0 g1
        go_wp2
        exact bodyPost_ret (v := .tuple #[.agg #[.int .i64 0, .slice none 0 0], .int .i64 12]) (by simp [results, Tryd.results6, go_sem, z0, z1]) rfl ⟨HBw.out, .inr (.inl ⟨rfl, HAL9.out, by rw [← HM.out, ← HU.out]; exact hfull⟩)⟩
      · have hfi : ¬ (M : Int) < (U : Int) := by omega
        refine wp_region_cls (n := wr.heap.size) (w0 := wr) (Below.refl _ _) (by kernel_rfl) (by kernel_rfl) ?_
        go_big_quiet_step (fail)
        go_big_quiet_step (exact cls_calls HC.out _)
        iterate 3 (go_big_quiet_step (fail))
        refine wpQuiet_nil ?_
        rintro _ ⟨c, rfl⟩
        obtain ⟨r0, r1, rf⟩ := cellsH2 ((c.2.block w.heap.size hRl).trans HJ.out.res)
        have rf0 := rf 0
        have rf1 := rf 1
        have HBw : Hid (Below w.heap.size w ((c.1.setCell ⟨w.heap.size, 0, none⟩ (.int .i64 (M : Int))).setCell ⟨w.heap.size, 1, none⟩ (.slice bL os.length cL))) := ((HJ.out.below.trans (c.2.mono hsw)).setCell (Nat.le_refl _) _).setCell (Nat.le_refl _) _
        have y0 := x0 c
        have y1 := x1 c
        obtain ⟨z0, z1⟩ := set2_cells ((c.2.block w.heap.size hRl).trans HJ.out.res) (.int .i64 (M : Int)) (.slice bL os.length cL)
        have HO9 : Hid (ObsAt w.heap.size ((c.1.setCell ⟨w.heap.size, 0, none⟩ (.int .i64 (M : Int))).setCell ⟨w.heap.size, 1, none⟩ (.slice bL os.length cL)) os (.slice bL os.length cL)) := by
          have h1 : ObsOwn w.heap.size c.1 os (.slice bL os.length cL) vs := HOWN.out.kept fun q _ hq => c.2.block q hq
          have h2 := (c.2.block w.heap.size hRl).trans HJ.out.res
          exact ⟨vs, (h1.setBox h2 (by decide) (by decide) _).setBox (setCellH_block _ h2) (by decide) (by decide) _⟩
        clear rf x0 x1 g0 g1
        go_wp2
        exact bodyPost_ret (v := .tuple #[.agg #[.int .i64 (M : Int), .slice bL os.length cL], .int .i64 0]) (by simp [results, Tryd.results6, go_sem, z0, z1]) rfl ⟨HBw.out, .inr (.inr ⟨HAL9.out, by rw [← HM.out, ← HU.out]; omega, _, by rw [← HM.out], HO9.out⟩)⟩
end Go.Proofs.YtchpmnmngeebjaaDoor
/- heap: the document's own showing: digits, a value's text. -/
namespace Go.Proofs.YtchpmnmngeebjaaDoor
open Go.RowKit Go.Shelf

theorem strB_catH (a b : List UInt8) : strB a ++ strB b = strB (a ++ b) := by apply ByteArray.ext; simp [strB]
theorem str_addH (W : World) (a b : List UInt8) (h : a.length + b.length ≤ 9223372036854775807) : (Op.stringOp .add (strB a) (strB b)).run Tryd.prog W = .ok (.string (strB (a ++ b))) W := by
  rw [run_string_add_sum W _ _ (by rw [strB_size, strB_size]; exact h), strB_catH]

set_option maxRecDepth 100000 in
set_option maxHeartbeats 1000000 in
theorem refDig06_any (n : Int) (w : World) (h0 : -9223372036854775808 ≤ n) (h1 : n ≤ 9223372036854775807) :
    Calls Tryd.prog 55 #[.int .i64 n] w fun e w' => e = .returned (.string (strB (Lib.itoa n))) ∧ Below w.heap.size w w' := by
  by_cases hn : n < 0
  · by_cases hm : n = -9223372036854775808
    · subst hm
      have HI : Hid (strB (Lib.itoa (-9223372036854775808)) = ⟨#[45, 57, 50, 50, 51, 51, 55, 50, 48, 51, 54, 56, 53, 52, 55, 55, 53, 56, 48, 56]⟩) := by
        show _ = _
        have : Lib.itoa (-9223372036854775808) = [45, 57, 50, 50, 51, 51, 55, 50, 48, 51, 54, 56, 53, 52, 55, 55, 53, 56, 48, 56] := by
          unfold Lib.itoa
          rw [if_pos (by omega)]
          simp [Lib.decDigits]
        rw [this]
      go_enter Tryd.func55, Tryd.ntmps55
      go_wp2
      go_ret
      rw [HI.out]
      exact ⟨rfl, Below.refl _ _⟩
    · obtain ⟨u, rfl⟩ : ∃ u : Nat, n = -(u : Int) := ⟨n.natAbs, by omega⟩
      have hmb : ((-(u : Int)) == -9223372036854775808) = false := by rw [beq_eq_false_iff_ne]; exact hm
      have c := refDigits_any u w (by omega)
      obtain ⟨T, hT⟩ : ∃ T, T = Lib.decDigits u := ⟨_, rfl⟩
      obtain ⟨L, hL⟩ : ∃ L, L = [45] ++ T := ⟨_, rfl⟩
      have hTl : T.length ≤ 100 := by rw [hT]; exact dec_len u (by omega)
      have HI : Hid (Lib.itoa (-(u : Int)) = L) := by
        show _ = _
        unfold Lib.itoa
        rw [if_pos hn, hL, hT]
        simp
      have ha : ∀ W : World, (Op.stringOp .add ⟨#[45]⟩ (strB T)).run Tryd.prog W = .ok (.string (strB L)) W := fun W => by
        rw [hL]; exact str_addH W [45] T (by simp; omega)
      have e1 : IntKind.i64.wrap (u : Int) = (u : Int) := by rw [IntKind.wrap_i64]; omega
      rw [← hT] at c
      clear hT hL
      go_enter Tryd.func55, Tryd.ntmps55
      go_wp2_with fail
      refine c.mono ?_
      clear c
      rintro e w1 ⟨rfl, hb⟩
      have HB : Hid (Below w.heap.size w w1) := hb
      clear hb
      go_wp2
      go_ret
      rw [HI.out]
      exact ⟨rfl, HB.out⟩
  · obtain ⟨u, rfl⟩ : ∃ u : Nat, n = (u : Int) := ⟨n.toNat, by omega⟩
    have c := refDigits_any u w (by omega)
    have HI : Hid (Lib.itoa (u : Int) = Lib.decDigits u) := by
      show _ = _
      unfold Lib.itoa
      rw [if_neg hn]
      simp
    go_enter Tryd.func55, Tryd.ntmps55
    go_wp2_with fail
    refine c.mono ?_
    clear c
    rintro e w1 ⟨rfl, hb⟩
    have HB : Hid (Below w.heap.size w w1) := hb
    clear hb
    go_wp2
    go_ret
    rw [HI.out]
    exact ⟨rfl, HB.out⟩

/-- Values' texts, as deep as d. -/
def TextAt (d : Nat) : Prop := ∀ (S : Nat → Prop) (m : Nat) (os : List Ob) (v : Value) (x : Vl) (w : World), objsIn S w v os → (∀ o ∈ os, obB o (os.length : Int) = true ∧ smallO o ∧ o.2.length ≤ 1048576) → os.length ≤ 1048576 → rightV x os.length = true → smallV x →
  Calls Tryd.prog 39 #[rhV m v, vlV x, .int .i64 (d : Int)] w fun e w' => e = .returned (.string (strB (txtV os d x))) ∧ Below w.heap.size w w'

abbrev textW (w : World) (M : Int) (v : Value) (x : Vl) : World := (w.alloc (.cells #[.int .i64 M, v] 31)).alloc (.cells #[.int .i64 x.k, .int .i64 x.n, .string (strB x.s)] 25)
theorem textW_facts (w : World) (M : Int) (v : Value) (x : Vl) : (textW w M v x).heap.size = w.heap.size + 2 ∧ Below w.heap.size w (textW w M v x) ∧ (textW w M v x).heap[w.heap.size]? = some (.cells #[.int .i64 M, v] 31 (0, 0)) ∧ (textW w M v x).heap[w.heap.size + 1]? = some (.cells #[.int .i64 x.k, .int .i64 x.n, .string (strB x.s)] 25 (0, 0)) := by
  refine ⟨by simp, ((Below.refl _ w).alloc (Nat.le_refl _) _).alloc (by simp) _, ?_, ?_⟩
  · rw [Below.heap_alloc _ _ _ (by simp)]; exact World.alloc_heap_new _ _
  · have := World.alloc_heap_new (w.alloc (.cells #[.int .i64 M, v] 31)) (.cells #[.int .i64 x.k, .int .i64 x.n, .string (strB x.s)] 25)
    simpa using this

theorem rightV_kinds {x : Vl} {n : Int} (h : rightV x n = true) : x.k = 0 ∨ x.k = 1 ∨ x.k = 2 ∨ (x.k = 3 ∧ backB 3 0 x.s) ∨ (x.k = 4 ∧ 0 ≤ x.n ∧ x.n < n) := by
  unfold rightV at h
  by_cases h0 : x.k = 0
  · exact .inl h0
  rw [if_neg h0] at h
  by_cases h1 : x.k = 1
  · exact .inr (.inl h1)
  rw [if_neg h1] at h
  by_cases h2 : x.k = 2
  · exact .inr (.inr (.inl h2))
  rw [if_neg h2] at h
  by_cases h3 : x.k = 3
  · rw [if_pos h3] at h
    exact .inr (.inr (.inr (.inl ⟨h3, (of_decide_eq_true h).2⟩)))
  rw [if_neg h3] at h
  by_cases h4 : x.k = 4
  · rw [if_pos h4] at h
    exact .inr (.inr (.inr (.inr ⟨h4, (of_decide_eq_true h).1⟩)))
  rw [if_neg h4] at h
  cases h

set_option maxRecDepth 100000 in
set_option maxHeartbeats 4000000 in
/-- What is no object. -/
theorem text_leaf (d : Nat) (m : Nat) (os : List Ob) (v : Value) (x : Vl) (w : World) (hv : smallV x) (hk : x.k = 0 ∨ x.k = 1 ∨ x.k = 2 ∨ (x.k = 3 ∧ backB 3 0 x.s)) :
    Calls Tryd.prog 39 #[rhV m v, vlV x, .int .i64 (d : Int)] w fun e w' => e = .returned (.string (strB (txtV os d x))) ∧ Below w.heap.size w w' := by
  rw [txtV_leaf]
  generalize objT os d ((os[x.n.toNat]?).getD ([], [])) = r
  obtain ⟨M, hM⟩ : ∃ M : Int, M = (m : Int) := ⟨_, rfl⟩
  rw [show rhV m v = .agg #[.int .i64 M, v] by rw [hM]]
  obtain ⟨w1, hw1⟩ : ∃ w1, w1 = textW w M v x := ⟨_, rfl⟩
  obtain ⟨hz, hb, -, hbx⟩ := textW_facts w M v x
  rw [← hw1] at hz hb hbx
  obtain ⟨p0, p1, p2, -⟩ := cellsH3 hbx
  have HB : Hid (Below w.heap.size w w1) := hb
  have hw1' := hw1.symm
  unfold textW at hw1'
  obtain ⟨k, n, s⟩ := x
  obtain ⟨⟨hn0, hn1⟩, hs⟩ := hv
  simp only at hn0 hn1 hs p0 p1 p2 hk hw1'
  clear hM hw1 hbx hb
  rcases hk with rfl | rfl | rfl | ⟨rfl, hbk⟩
  · have HR : Hid (strB (leafT ⟨0, n, s⟩ r) = ⟨#[110, 111, 110, 101]⟩) := by show _ = _; simp [leafT, noneB]
    go_enter Tryd.func39, Tryd.ntmps39
    go_wp2
    go_ret
    rw [HR.out]
    exact ⟨rfl, HB.out⟩
  · have HR : Hid (leafT ⟨1, n, s⟩ r = Lib.itoa n) := by show _ = _; simp [leafT]
    have c := refDig06_any n w1 hn0 hn1
    go_enter Tryd.func39, Tryd.ntmps39
    go_wp2_with fail
    refine c.mono ?_
    clear c
    rintro e w2 ⟨rfl, hb2⟩
    have HB2 : Hid (Below w.heap.size w w2) := HB.out.trans (hb2.mono (by omega))
    clear hb2
    go_wp2
    go_ret
    rw [HR.out]
    exact ⟨rfl, HB2.out⟩
  · by_cases h1 : n = 1
    · subst h1
      have HR : Hid (strB (leafT ⟨2, 1, s⟩ r) = ⟨#[116, 114, 117, 101]⟩) := by show _ = _; simp [leafT, trueB]
      go_enter Tryd.func39, Tryd.ntmps39
      go_wp2
      go_ret
      rw [HR.out]
      exact ⟨rfl, HB.out⟩
    · have hb1 : (n == 1) = false := by rw [beq_eq_false_iff_ne]; exact h1
      have HR : Hid (strB (leafT ⟨2, n, s⟩ r) = ⟨#[102, 97, 108, 115, 101]⟩) := by show _ = _; simp [leafT, falseB, h1]
      go_enter Tryd.func39, Tryd.ntmps39
      go_wp2
      go_ret
      rw [HR.out]
      exact ⟨rfl, HB.out⟩
  · have HR : Hid (leafT ⟨3, n, s⟩ r = quoteB s) := by
      show _ = _
      simp [leafT]
      unfold tkB
      rw [if_pos hbk]
      rfl
    have c := refQuote_any s w1 (by omega)
    clear hbk
    go_enter Tryd.func39, Tryd.ntmps39
    go_wp2_with fail
    refine c.mono ?_
    clear c
    rintro e w2 ⟨rfl, hb2⟩
    have HB2 : Hid (Below w.heap.size w w2) := HB.out.trans (hb2.mono (by omega))
    clear hb2
    go_wp2
    go_ret
    rw [HR.out]
    exact ⟨rfl, HB2.out⟩
end Go.Proofs.YtchpmnmngeebjaaDoor
/- heap: the document's own showing: an object's text; Show. -/
namespace Go.Proofs.YtchpmnmngeebjaaDoor
open Go.RowKit Go.Shelf

set_option maxRecDepth 100000 in
set_option maxHeartbeats 4000000 in
theorem textAt_zero : TextAt 0 := by
  intro S m os v x w hin hos hl hr hx
  rcases rightV_kinds hr with hk | hk | hk | hk | ⟨hk, -⟩
  · exact text_leaf 0 m os v x w hx (.inl hk)
  · exact text_leaf 0 m os v x w hx (.inr (.inl hk))
  · exact text_leaf 0 m os v x w hx (.inr (.inr (.inl hk)))
  · exact text_leaf 0 m os v x w hx (.inr (.inr (.inr hk)))
  · obtain ⟨M, hM⟩ : ∃ M : Int, M = (m : Int) := ⟨_, rfl⟩
    rw [show rhV m v = .agg #[.int .i64 M, v] by rw [hM]]
    have HR : Hid (strB (txtV os 0 x) = ⟨#[46, 46, 46]⟩) := by show _ = _; simp [txtV, leafT, dotsB, hk]
    have HB : Hid (Below w.heap.size w (textW w M v x)) := (textW_facts w M v x).2.1
    obtain ⟨k, n, s⟩ := x
    simp only at hk
    subst hk
    unfold textW at HB
    simp only at HB
    clear hM hin hos hl hr hx
    go_enter Tryd.func39, Tryd.ntmps39
    go_wp2
    go_ret
    rw [HR.out]
    exact ⟨rfl, HB.out⟩

theorem joinT_take (f : Vl → List UInt8) (l : List Vl) (i : Nat) (h : i < l.length) : joinT f (l.take (i + 1)) = joinT f (l.take i) ++ ((if i = 0 then [] else [44, 32]) ++ f l[i]) := by
  rw [List.take_succ_eq_append_getElem h, joinT_snoc]
  congr 2
  by_cases hi : i = 0
  · subst hi; simp
  · rw [if_neg hi, if_neg]
    intro e
    have := congrArg List.length e
    rw [List.length_take, List.length_nil] at this
    omega

set_option maxRecDepth 100000 in
set_option maxHeartbeats 8000000 in
theorem textAt_succ (d : Nat) (hd : d ≤ 1) (hT : TextAt d) : TextAt (d + 1) := by
  intro S m os v x w hin hos hl hr hx
  rcases rightV_kinds hr with hk | hk | hk | hk | ⟨hk, hj0, hj1⟩
  · exact text_leaf _ m os v x w hx (.inl hk)
  · exact text_leaf _ m os v x w hx (.inr (.inl hk))
  · exact text_leaf _ m os v x w hx (.inr (.inr (.inl hk)))
  · exact text_leaf _ m os v x w hx (.inr (.inr (.inr hk)))
  obtain ⟨k, n, s⟩ := x
  simp only at hk hj0 hj1
  subst hk
  obtain ⟨j, rfl⟩ : ∃ j : Nat, n = j := ⟨n.toNat, by omega⟩
  have hj : j < os.length := by omega
  have hji : (j : Int) < (os.length : Int) := hj1
  have hsm := hos os[j] (List.getElem_mem hj)
  obtain ⟨o, ho⟩ : ∃ o, o = os[j] := ⟨_, rfl⟩
  rw [← ho] at hsm
  obtain ⟨hob, hso, hol⟩ := hsm
  have hcells : ∀ u ∈ o.2, rightV u os.length = true ∧ smallV u := fun u hu => by
    unfold obB at hob
    rw [Bool.and_eq_true, List.all_eq_true] at hob
    have := hob.1 u hu
    unfold cellV at this
    rw [Bool.and_eq_true] at this
    exact ⟨this.2, hso.2 u hu⟩
  have hN : bndT d ≤ 33000000 := by
    rcases Nat.le_one_iff_eq_zero_or_eq_one.1 hd with rfl | rfl <;> simp [bndT]
  have hTl : ∀ u ∈ o.2, (txtV os d u).length ≤ 33000000 := fun u hu => Nat.le_trans (txtV_len (fun o ho => (hos o ho).2.1) d u (hcells u hu).2) hN
  obtain ⟨F, hF⟩ : ∃ F, F = joinT (txtV os d) (o.2.take 8) ++ (if 8 < o.2.length then [44, 32, 46, 46, 46] else []) := ⟨_, rfl⟩
  have hJ : ∀ i, i ≤ 8 → (joinT (txtV os d) (o.2.take i)).length ≤ 300000000 := fun i hi => by
    have h1 := joinT_len (f := txtV os d) (N := 33000000) (o.2.take i) fun u hu => hTl u (List.mem_of_mem_take hu)
    have h2 : (o.2.take i).length ≤ 8 := by rw [List.length_take]; omega
    omega
  have hFl : F.length ≤ 300000005 := by
    rw [hF, List.length_append]
    have := hJ 8 (Nat.le_refl _)
    have : (if 8 < o.2.length then [(44 : UInt8), 32, 46, 46, 46] else []).length ≤ 5 := by split <;> simp
    omega
  have hres : txtV os (d + 1) ⟨4, (j : Int), s⟩ = (if o.1 = [] then [91] else o.1 ++ [40]) ++ F ++ (if o.1 = [] then [93] else [41]) := by
    show leafT _ _ = _
    simp only [leafT]
    rw [if_neg (by omega), if_neg (by omega), if_neg (by omega)]
    simp only [if_true, Int.toNat_natCast, List.getElem?_eq_getElem hj, Option.getD_some]
    rw [← ho, hF]
    unfold obT
    simp only [List.append_assoc]
  -- memory
  obtain ⟨base, cap, rfl, hc1, hc2, hat⟩ := hin.at
  obtain ⟨bo, oo, u, rfl, -, hlo, q0, q1, hvo⟩ := hat j hj
  rw [← ho] at q0 hvo
  obtain ⟨bu, cu, rfl, hu1, hu2, hel⟩ := hvo.at
  obtain ⟨M, hM⟩ : ∃ M : Int, M = (m : Int) := ⟨_, rfl⟩
  obtain ⟨D1, hD1⟩ : ∃ D1 : Int, D1 = ((d + 1 : Nat) : Int) := ⟨_, rfl⟩
  obtain ⟨D0, hD0⟩ : ∃ D0 : Int, D0 = (d : Int) := ⟨_, rfl⟩
  rw [show rhV m (.slice (some ⟨bo, oo, none⟩) os.length cap) = .agg #[.int .i64 M, .slice (some ⟨bo, oo, none⟩) os.length cap] by rw [hM], ← hD1]
  have hDw : IntKind.i64.wrap (D1 - 1) = D0 := by rw [IntKind.wrap_i64]; omega
  have hD1b : (D1 == 0) = false := by rw [beq_eq_false_iff_ne]; omega
  obtain ⟨w1, hw1⟩ : ∃ w1, w1 = textW w M (.slice (some ⟨bo, oo, none⟩) os.length cap) ⟨4, (j : Int), s⟩ := ⟨_, rfl⟩
  obtain ⟨hz, hb, hbh, hbx⟩ := textW_facts w M (.slice (some ⟨bo, oo, none⟩) os.length cap) ⟨4, (j : Int), s⟩
  rw [← hw1] at hz hb hbh hbx
  obtain ⟨h0, h1, -⟩ := cellsH2 hbh
  obtain ⟨p0, p1, p2, -⟩ := cellsH3 hbx
  have t0 := (below_cell hb hlo).trans q0
  have t1 := (below_cell hb hlo).trans q1
  have hw1' := hw1.symm
  unfold textW at hw1'
  simp only at hw1' p0 p1 p2
  obtain ⟨w2, hw2⟩ : ∃ w2, w2 = w1.alloc (.cells #[.string (strB o.1), .slice bu o.2.length cu] 47) := ⟨_, rfl⟩
  have hz2 : w2.heap.size = w1.heap.size + 1 := by rw [hw2]; simp
  have hb2 : Below w1.heap.size w1 w2 := by rw [hw2]; exact (Below.refl _ _).alloc (Nat.le_refl _) _
  have hbo : w2.heap[w1.heap.size]? = some (.cells #[.string (strB o.1), .slice bu o.2.length cu] 47 (0, 0)) := by rw [hw2]; exact World.alloc_heap_new _ _
  have hw2' := hw2.symm
  obtain ⟨B1, hB1⟩ : ∃ B1, B1 = w1.heap.size := ⟨_, rfl⟩
  have HB2 : Hid (Below w.heap.size w w2) := hb.trans (hb2.mono (by omega))
  have HH2 : Hid (w2.heap[w.heap.size]? = some (.cells #[.int .i64 M, .slice (some ⟨bo, oo, none⟩) os.length cap] 31 (0, 0))) := (hb2.block _ (by omega)).trans hbh
  have HO2 : Hid (w2.heap[w1.heap.size]? = some (.cells #[.string (strB o.1), .slice bu o.2.length cu] 47 (0, 0))) := hbo
  have HIN : Hid (objsIn S w (.slice (some ⟨bo, oo, none⟩) os.length cap) os) := hin
  have HOS : Hid (∀ o ∈ os, obB o (os.length : Int) = true ∧ smallO o ∧ o.2.length ≤ 1048576) := hos
  have HEL : Hid (∀ i (hi : i < o.2.length), ∃ b o', bu = some ⟨b, o', none⟩ ∧ S b ∧ b < w.heap.size ∧ w.cell? ⟨b, o' + i * 3, none⟩ = some (.int .i64 (o.2[i]).k) ∧ w.cell? ⟨b, o' + i * 3 + 1, none⟩ = some (.int .i64 (o.2[i]).n) ∧ w.cell? ⟨b, o' + i * 3 + 2, none⟩ = some (.string (strB (o.2[i]).s))) := hel
  have HCE : Hid (∀ u ∈ o.2, rightV u os.length = true ∧ smallV u) := hcells
  have HTL : Hid (∀ u ∈ o.2, (txtV os d u).length ≤ 33000000) := hTl
  have HJ : Hid (∀ i, i ≤ 8 → (joinT (txtV os d) (o.2.take i)).length ≤ 300000000) := hJ
  have HF : Hid (F = joinT (txtV os d) (o.2.take 8) ++ (if 8 < o.2.length then [44, 32, 46, 46, 46] else [])) := hF
  have HRES : Hid (txtV os (d + 1) ⟨4, (j : Int), s⟩ = (if o.1 = [] then [91] else o.1 ++ [40]) ++ F ++ (if o.1 = [] then [93] else [41])) := hres
  have HD0 : Hid (D0 = (d : Int)) := hD0
  have HM : Hid (M = (m : Int)) := hM
  have htg : o.1.length ≤ 1048576 := hso.1
  obtain ⟨tag, cs⟩ := o
  simp only at *
  clear hin hos hel hcells hTl hJ hF hres hD0 hM hD1 hat hvo ho hw1 hw2 hb hb2 hbh hbx hbo hr hx hso hob q0 q1 hN hB1
  obtain ⟨L1, hL1⟩ : ∃ L1, L1 = [91] ++ F := ⟨_, rfl⟩
  obtain ⟨L2, hL2⟩ : ∃ L2, L2 = L1 ++ [93] := ⟨_, rfl⟩
  obtain ⟨P1, hP1⟩ : ∃ P1, P1 = tag ++ [40] := ⟨_, rfl⟩
  obtain ⟨P2, hP2⟩ : ∃ P2, P2 = P1 ++ F := ⟨_, rfl⟩
  obtain ⟨P3, hP3⟩ : ∃ P3, P3 = P2 ++ [41] := ⟨_, rfl⟩
  have l1 : L1.length ≤ 300000006 := by rw [hL1]; simp; omega
  have l2 : P1.length ≤ 1048577 := by rw [hP1]; simp; omega
  have l3 : P2.length ≤ 302000000 := by rw [hP2]; simp; omega
  have a1 : ∀ W : World, (Op.stringOp .add ⟨#[91]⟩ (strB F)).run Tryd.prog W = .ok (.string (strB L1)) W := fun W => by rw [hL1]; exact str_addH W [91] F (by simp; omega)
  have a2 : ∀ W : World, (Op.stringOp .add (strB L1) ⟨#[93]⟩).run Tryd.prog W = .ok (.string (strB L2)) W := fun W => by rw [hL2]; exact str_addH W L1 [93] (by simp; omega)
  have b1 : ∀ W : World, (Op.stringOp .add (strB tag) ⟨#[40]⟩).run Tryd.prog W = .ok (.string (strB P1)) W := fun W => by rw [hP1]; exact str_addH W tag [40] (by simp; omega)
  have b2 : ∀ W : World, (Op.stringOp .add (strB P1) (strB F)).run Tryd.prog W = .ok (.string (strB P2)) W := fun W => by rw [hP2]; exact str_addH W P1 F (by omega)
  have b3 : ∀ W : World, (Op.stringOp .add (strB P2) ⟨#[41]⟩).run Tryd.prog W = .ok (.string (strB P3)) W := fun W => by rw [hP3]; exact str_addH W P2 [41] (by simp; omega)
  have HL1 : Hid (L1 = [91] ++ F) := hL1
  have HL2 : Hid (L2 = L1 ++ [93]) := hL2
  have HP1 : Hid (P1 = tag ++ [40]) := hP1
  have HP2 : Hid (P2 = P1 ++ F) := hP2
  have HP3 : Hid (P3 = P2 ++ [41]) := hP3
  clear hL1 hL2 hP1 hP2 hP3 l1 l2 l3
  go_enter Tryd.func39, Tryd.ntmps39
  go_wp2
  clear hw1' hw2' p0 p1 p2 h0 h1 t0 t1
  go_loopw [8, 9] (fun vs vi wr => ∃ i : Nat, i ≤ cs.length ∧ i ≤ 8 ∧ vi = .int .i64 i ∧ vs = .string (strB (joinT (txtV os d) (cs.take i))) ∧ Below w2.heap.size w2 wr) (fun _ vi _ => cs.length - (intOf vi).toNat)
  case atStart => exact ⟨0, Nat.zero_le _, Nat.zero_le _, rfl, by rw [List.take_zero]; rfl, Below.refl _ _⟩
  case round =>
    obtain ⟨i, hi, hi8, rfl, rfl, hbw⟩ := hrel
    have HB : Hid (Below w2.heap.size w2 wr) := hbw
    have hsw := hbw.size
    obtain ⟨g0, g1, -⟩ := cellsH2 ((hbw.block _ (by omega)).trans HO2.out)
    rw [hz] at g0 g1
    obtain ⟨k0, k1, -⟩ := cellsH2 ((hbw.block _ (by omega)).trans HH2.out)
    have hjl := HJ.out i hi8
    obtain ⟨J, hJ⟩ : ∃ J, J = joinT (txtV os d) (cs.take i) := ⟨_, rfl⟩
    rw [← hJ] at hjl ⊢
    have HJ1 : Hid (J = joinT (txtV os d) (cs.take i)) := hJ
    clear hbw hJ
    by_cases hlt : i < cs.length
    · have hi2 : (i : Int) < cs.length := by omega
      by_cases h8 : i = 8
      · subst h8
        obtain ⟨S1, hS1⟩ : ∃ S1, S1 = J ++ [44, 32] := ⟨_, rfl⟩
        have e1 : ∀ W : World, (Op.stringOp .add (strB J) ⟨#[44, 32]⟩).run Tryd.prog W = .ok (.string (strB S1)) W := fun W => by rw [hS1]; exact str_addH W J [44, 32] (by simp; omega)
        have e2 : ∀ W : World, (Op.stringOp .add (strB S1) ⟨#[46, 46, 46]⟩).run Tryd.prog W = .ok (.string (strB F)) W := fun W => by
          have : F = S1 ++ [46, 46, 46] := by rw [HF.out, if_pos hlt, hS1, HJ1.out]; simp
          rw [this]; exact str_addH W S1 [46, 46, 46] (by rw [hS1]; simp; omega)
        clear hS1 HJ1
        have HBw : Hid (Below w.heap.size w wr) := HB2.out.trans (HB.out.mono (by omega))
        by_cases htn : tag = []
        · subst htn
          have HRS : Hid (txtV os (d + 1) ⟨4, (j : Int), s⟩ = L2) := by show _ = _; rw [HRES.out, if_pos rfl, if_pos rfl, HL2.out, HL1.out]
          go_wp2
          go_ret
          rw [HRS.out]
          exact ⟨rfl, HBw.out⟩
        · have HRS : Hid (txtV os (d + 1) ⟨4, (j : Int), s⟩ = P3) := by show _ = _; rw [HRES.out, if_neg htn, if_neg htn, HP3.out, HP2.out, HP1.out]
          obtain ⟨c0, c1, rfl⟩ := List.exists_cons_of_ne_nil htn
          go_wp2
          go_ret
          rw [HRS.out]
          exact ⟨rfl, HBw.out⟩
      · have h8b : ((i : Int) == 8) = false := by rw [beq_eq_false_iff_ne]; omega
        have h8n : ¬ (i : Int) = 8 := by omega
        obtain ⟨be, oe, rfl, -, hle, q0, q1, q2⟩ := HEL.out i hlt
        obtain ⟨hcr, hcs⟩ := HCE.out cs[i] (List.getElem_mem hlt)
        have htl := HTL.out cs[i] (List.getElem_mem hlt)
        have HJT : Hid (joinT (txtV os d) (cs.take (i + 1)) = J ++ ((if i = 0 then [] else [44, 32]) ++ txtV os d cs[i])) := by show _ = _; rw [joinT_take _ _ _ hlt, ← HJ1.out]
        obtain ⟨y, hy⟩ : ∃ y, y = cs[i] := ⟨_, rfl⟩
        rw [← hy] at q0 q1 q2 hcr hcs htl HJT
        obtain ⟨TX, hTX⟩ : ∃ TX, TX = txtV os d y := ⟨_, rfl⟩
        rw [← hTX] at htl HJT
        have hbwr : Below w.heap.size w wr := HB2.out.trans (HB.out.mono (by omega))
        have hswr := hbwr.size
        have HC : Hid (∀ wx, Below wr.heap.size wr wx → Calls Tryd.prog 39 #[.agg #[.int .i64 M, .slice (some ⟨bo, oo, none⟩) os.length cap], vlV y, .int .i64 D0] wx fun e w'' => e = .returned (.string (strB TX)) ∧ Below wr.heap.size wr w'') := fun wx hx' => by
          have hbx : Below w.heap.size w wx := hbwr.trans (hx'.mono hswr)
          rw [HM.out, HD0.out, hTX]
          exact (hT S m os _ y wx (HIN.out.kept hbx.size fun q _ hq => hbx.block q hq) HOS.out hl hcr hcs).mono fun e w'' ⟨he, hbb⟩ => ⟨he, hx'.trans (hbb.mono hx'.size)⟩
        have r0 := (below_cell hbwr hle).trans q0
        have r1 := (below_cell hbwr hle).trans q1
        have r2 := (below_cell hbwr hle).trans q2
        have x0 := cls_cell (n := wr.heap.size) r0 (by simp only; omega)
        have x1 := cls_cell (n := wr.heap.size) r1 (by simp only; omega)
        have x2 := cls_cell (n := wr.heap.size) r2 (by simp only; omega)
        have x3 := cls_cell (n := wr.heap.size) k0 (by simp only; omega)
        have x4 := cls_cell (n := wr.heap.size) k1 (by simp only; omega)
        have x5 := cls_cell (n := wr.heap.size) g1 (by simp only; omega)
        obtain ⟨yk, yn, ys⟩ := y
        simp only at x0 x1 x2 HC
        clear q0 q1 q2 hcr hcs hy hTX HJ1 r0 r1 r2 hbwr a1 a2 b1 b2 b3
        by_cases hi0 : i = 0
        · subst hi0
          simp only [Nat.zero_mul, Nat.add_zero] at x0 x1 x2
          have e3 : ∀ W : World, (Op.stringOp .add (strB J) (strB TX)).run Tryd.prog W = .ok (.string (strB (J ++ TX))) W := fun W => str_addH W J TX (by omega)
          obtain ⟨J2, hJ2⟩ : ∃ J2, J2 = J ++ TX := ⟨_, rfl⟩
          rw [← hJ2] at e3
          have HJ2 : Hid (joinT (txtV os d) (cs.take (0 + 1)) = J2) := by show _ = _; rw [HJT.out, if_pos rfl, hJ2]; rfl
          have hi1 : (0 + 1 : Nat) = 1 := rfl
          clear hJ2 HJT
          go_wp2_with fail
          refine wp_region_cls (n := wr.heap.size) (w0 := wr) (Below.refl _ _) (by kernel_rfl) (by kernel_rfl) ?_
          iterate 9 (go_big_quiet_step (fail))
          go_big_quiet_step (exact cls_calls HC.out _)
          iterate 2 (go_big_quiet_step (fail))
          refine wpQuiet_nil ?_
          rintro _ ⟨c, rfl⟩
          have HBc : Hid (Below w2.heap.size w2 c.1) := HB.out.trans (c.2.mono hsw)
          clear x0 x1 x2 x3 x4 x5
          go_wp2
          exact ⟨⟨0 + 1, by omega, by omega, by go_num, by rw [HJ2.out], HBc.out⟩, by simp [intOf]; omega⟩
        · have hi3 : (0 : Int) < (i : Int) := by omega
          obtain ⟨S1, hS1⟩ : ∃ S1, S1 = J ++ [44, 32] := ⟨_, rfl⟩
          have e1 : ∀ W : World, (Op.stringOp .add (strB J) ⟨#[44, 32]⟩).run Tryd.prog W = .ok (.string (strB S1)) W := fun W => by rw [hS1]; exact str_addH W J [44, 32] (by simp; omega)
          have e3 : ∀ W : World, (Op.stringOp .add (strB S1) (strB TX)).run Tryd.prog W = .ok (.string (strB (S1 ++ TX))) W := fun W => str_addH W S1 TX (by rw [hS1]; simp; omega)
          obtain ⟨J2, hJ2⟩ : ∃ J2, J2 = S1 ++ TX := ⟨_, rfl⟩
          rw [← hJ2] at e3
          have HJ2 : Hid (joinT (txtV os d) (cs.take (i + 1)) = J2) := by show _ = _; rw [HJT.out, if_neg hi0, hJ2, hS1]; simp
          clear hJ2 HJT hS1
          go_wp2_with fail
          refine wp_region_cls (n := wr.heap.size) (w0 := wr) (Below.refl _ _) (by kernel_rfl) (by kernel_rfl) ?_
          iterate 9 (go_big_quiet_step (fail))
          go_big_quiet_step (exact cls_calls HC.out _)
          iterate 2 (go_big_quiet_step (fail))
          refine wpQuiet_nil ?_
          rintro _ ⟨c, rfl⟩
          have HBc : Hid (Below w2.heap.size w2 c.1) := HB.out.trans (c.2.mono hsw)
          clear x0 x1 x2 x3 x4 x5
          go_wp2
          exact ⟨⟨i + 1, by omega, by omega, by go_num, by rw [HJ2.out], HBc.out⟩, by simp [intOf]; omega⟩
    · obtain rfl : i = cs.length := by omega
      have hi2 : ¬ (cs.length : Int) < cs.length := by omega
      have hJF : J = F := by rw [HF.out, HJ1.out, if_neg (by omega), List.take_of_length_le (Nat.le_refl _), List.take_of_length_le hi8]; simp
      rw [hJF]
      clear hJF HJ1 hjl
      have HBw : Hid (Below w.heap.size w wr) := HB2.out.trans (HB.out.mono (by omega))
      by_cases htn : tag = []
      · subst htn
        have HRS : Hid (txtV os (d + 1) ⟨4, (j : Int), s⟩ = L2) := by show _ = _; rw [HRES.out, if_pos rfl, if_pos rfl, HL2.out, HL1.out]
        go_wp2
        go_ret
        rw [HRS.out]
        exact ⟨rfl, HBw.out⟩
      · have HRS : Hid (txtV os (d + 1) ⟨4, (j : Int), s⟩ = P3) := by show _ = _; rw [HRES.out, if_neg htn, if_neg htn, HP3.out, HP2.out, HP1.out]
        obtain ⟨c0, c1, rfl⟩ := List.exists_cons_of_ne_nil htn
        go_wp2
        go_ret
        rw [HRS.out]
        exact ⟨rfl, HBw.out⟩

theorem textAt_two : TextAt 2 := textAt_succ 1 (Nat.le_refl _) (textAt_succ 0 (by omega) textAt_zero)
end Go.Proofs.YtchpmnmngeebjaaDoor
/- heap: the document's own Show. -/
namespace Go.Proofs.YtchpmnmngeebjaaDoor
open Go.RowKit Go.Shelf

set_option maxRecDepth 100000 in
set_option maxHeartbeats 4000000 in
theorem refShow_any (S : Nat → Prop) (m : Nat) (os : List Ob) (v : Value) (x : Vl) (w : World) (hin : objsIn S w v os) (hos : ∀ o ∈ os, obB o (os.length : Int) = true ∧ smallO o ∧ o.2.length ≤ 1048576) (hl : os.length ≤ 1048576) (hx : smallV x) :
    Calls Tryd.prog 15 #[rhV m v, vlV x] w fun e w' => e = .returned (.string (strB (showB os x))) ∧ Below w.heap.size w w' := by
  obtain ⟨base, cap, rfl, hc1, hc2, -⟩ := hin.at
  obtain ⟨M, hM⟩ : ∃ M : Int, M = (m : Int) := ⟨_, rfl⟩
  rw [show rhV m (.slice base os.length cap) = .agg #[.int .i64 M, .slice base os.length cap] by rw [hM]]
  obtain ⟨w1, hw1⟩ : ∃ w1, w1 = textW w M (.slice base os.length cap) x := ⟨_, rfl⟩
  obtain ⟨hz, hb, hbh, hbx⟩ := textW_facts w M (.slice base os.length cap) x
  rw [← hw1] at hz hb hbh hbx
  obtain ⟨h0, h1, -⟩ := cellsH2 hbh
  obtain ⟨p0, p1, p2, -⟩ := cellsH3 hbx
  have cr := refRight_any x os.length w1 hx
  have HSB : Hid (showB os x = if rightV x os.length = true then (if 200 < (txtV os 2 x).length then (txtV os 2 x).take 197 ++ dotsB else txtV os 2 x) else []) := rfl
  have HB1 : Hid (Below w.heap.size w w1) := hb
  have HIN : Hid (objsIn S w (.slice base os.length cap) os) := hin
  have HOS : Hid (∀ o ∈ os, obB o (os.length : Int) = true ∧ smallO o ∧ o.2.length ≤ 1048576) := hos
  have HX : Hid (smallV x) := hx
  have HM : Hid (M = (m : Int)) := hM
  have HBH : Hid (w1.heap[w.heap.size]? = some (.cells #[.int .i64 M, .slice base os.length cap] 31 (0, 0))) := hbh
  have HBX : Hid (w1.heap[w.heap.size + 1]? = some (.cells #[.int .i64 x.k, .int .i64 x.n, .string (strB x.s)] 25 (0, 0))) := hbx
  have HTL : Hid ((txtV os 2 x).length ≤ 333000000) := txtV_len (fun o ho => (hos o ho).2.1) 2 x hx
  have hw1' := hw1.symm
  unfold textW at hw1'
  cases hr : rightV x os.length with
  | false =>
    rw [hr] at cr HSB
    obtain ⟨k, n, s⟩ := x
    simp only at p0 p1 p2 hw1'
    clear hin hos hx hM hbh hbx hb hw1 hr
    go_enter Tryd.func15, Tryd.ntmps15
    go_wp2_with fail
    refine cr.mono ?_
    clear cr
    rintro e w2 ⟨rfl, hb2⟩
    have HB2 : Hid (Below w.heap.size w w2) := HB1.out.trans (hb2.mono (by omega))
    clear hb2
    go_wp2
    go_ret
    rw [HSB.out]
    exact ⟨rfl, HB2.out⟩
  | true =>
    rw [hr] at cr HSB
    rw [if_pos rfl] at HSB
    have HR : Hid (rightV x os.length = true) := hr
    obtain ⟨T, hT⟩ : ∃ T, T = txtV os 2 x := ⟨_, rfl⟩
    rw [← hT] at HTL HSB
    have HT : Hid (T = txtV os 2 x) := hT
    obtain ⟨SB, hSB⟩ : ∃ SB, SB = showB os x := ⟨_, rfl⟩
    rw [← hSB] at HSB ⊢
    obtain ⟨k, n, s⟩ := x
    simp only at p0 p1 p2 hw1'
    clear hin hos hx hM hbh hbx hb hw1 hr hT hSB
    go_enter Tryd.func15, Tryd.ntmps15
    go_wp2_with fail
    refine cr.mono ?_
    clear cr
    rintro e w2 ⟨rfl, hb2⟩
    have hs2 := hb2.size
    have HB2 : Hid (Below w.heap.size w w2) := HB1.out.trans (hb2.mono (by omega))
    obtain ⟨h0', h1', -⟩ := cellsH2 ((hb2.block _ (by omega)).trans HBH.out)
    obtain ⟨p0', p1', p2', -⟩ := cellsH3 ((hb2.block _ (by omega)).trans HBX.out)
    have ct := textAt_two S m os (.slice base os.length cap) ⟨k, n, s⟩ w2 (HIN.out.kept HB2.out.size fun q _ hq => HB2.out.block q hq) HOS.out hl HR.out HX.out
    rw [← HT.out, show rhV m (.slice base os.length cap) = .agg #[.int .i64 M, .slice base os.length cap] by rw [HM.out]] at ct
    clear hb2 h0 h1 p0 p1 p2 hw1'
    go_wp2_with fail
    refine ct.mono ?_
    clear ct
    rintro e w3 ⟨rfl, hb3⟩
    have HB3 : Hid (Below w.heap.size w w3) := HB2.out.trans (hb3.mono HB2.out.size)
    have hTl := HTL.out
    have hTz : (strB T).size = T.length := rfl
    clear hb3 h0' h1' p0' p1' p2'
    by_cases h2 : 200 < T.length
    · have h2i : (200 : Int) < (T.length : Int) := by omega
      have hto : ∀ W : World, (Instr.slice 9 (.string (strB T)) none (some (.int .i64 197)) none).run Tryd.prog W = .ok (.string (strB (T.take 197))) W := fun W => str_to W T 197 (by omega)
      obtain ⟨T1, hT1⟩ : ∃ T1, T1 = T.take 197 := ⟨_, rfl⟩
      have ha : ∀ W : World, (Op.stringOp .add (strB T1) ⟨#[46, 46, 46]⟩).run Tryd.prog W = .ok (.string (strB SB)) W := fun W => by
        rw [HSB.out, if_pos h2, ← hT1]; exact str_addH W T1 dotsB (by rw [hT1, List.length_take]; simp [dotsB]; omega)
      rw [← hT1] at hto
      clear hT1
      go_wp2
      go_ret
      exact ⟨rfl, HB3.out⟩
    · have h2i : ¬ (200 : Int) < (T.length : Int) := by omega
      have HE : Hid (SB = T) := by show _ = _; rw [HSB.out, if_neg h2]
      go_wp2
      go_ret
      rw [HE.out]
      exact ⟨rfl, HB3.out⟩
end Go.Proofs.YtchpmnmngeebjaaDoor
