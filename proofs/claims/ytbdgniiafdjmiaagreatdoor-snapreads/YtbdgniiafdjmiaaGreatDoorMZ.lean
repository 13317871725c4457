import Derived.Test.YtbdgniiafdjmiaaGreatDoorHMake
import Derived.Test.YtbdgniiafdjmiaaGreatDoorMY
import Derived.Test.YtbdgniiafdjmiaaGreatDoorMG
import Derived.Test.YtbdgniiafdjmiaaGreatDoorHAll
import Derived.Test.YtbdgniiafdjmiaaGreatDoorHSame
import Derived.Test.YtbdgniiafdjmiaaGreatDoorHLoad
import Derived.Test.YtbdgniiafdjmiaaGreatDoorWMix
/- heap: the document's own words of values: is one right, are cells. -/
namespace Go.Proofs.YtbdgniiafdjmiaaGreatDoor
open Go.RowKit Go.Shelf

theorem back_str (s : List UInt8) : backB 3 0 s ↔ plainQ s = true := by
  have h := tkB_refT 3 0 s (by omega)
  unfold tkB refT at h
  constructor
  · intro hb
    rw [if_pos hb] at h
    by_cases hp : plainQ s = true
    · exact hp
    · simp [hp] at h
  · intro hp
    by_cases hb : backB 3 0 s
    · exact hb
    · rw [if_neg hb] at h; simp [hp] at h
theorem back_strD (s : List UInt8) : decide (backB 3 0 s) = plainQ s := by
  cases h : plainQ s with
  | true => exact decide_eq_true ((back_str s).2 h)
  | false => exact decide_eq_false fun hb => by rw [(back_str s).1 hb] at h; cases h
theorem back_nameD (s : List UInt8) : decide (backB 1 0 s) = nameQ s := by
  have hb : backB 1 0 s ↔ nameQ s = true := by rw [back_plain (by omega) (by omega)]; simp
  cases h : nameQ s with
  | true => exact decide_eq_true (hb.2 h)
  | false => exact decide_eq_false fun h9 => by rw [hb.1 h9] at h; cases h

set_option maxRecDepth 100000 in
set_option maxHeartbeats 4000000 in
theorem refRight_any (v : Vl) (n : Int) (w : World) (hv : smallV v) :
    Calls Tryz.prog 80 #[vlV v, .int .i64 n] w fun e w' => e = .returned (.bool (rightV v n)) ∧ Below w.heap.size w w' := by
  obtain ⟨k, m, s⟩ := v
  have hs1 : s.length ≤ 1048576 := hv.2
  clear hv
  by_cases h0 : k = 0
  · subst h0
    by_cases hm : m = 0
    · subst hm
      by_cases hs : s = []
      · subst hs
        have HR : Hid (rightV ⟨0, 0, []⟩ n = true) := show _ = _ by simp [rightV]
        go_enter Tryz.func80, Tryz.ntmps80
        go_wp2
        go_ret
        rw [HR.out]
        exact ⟨rfl, (Below.refl _ w).alloc (Nat.le_refl _) _⟩
      · obtain ⟨a, t, rfl⟩ := List.exists_cons_of_ne_nil hs
        have HR : Hid (rightV ⟨0, 0, a :: t⟩ n = false) := show _ = _ by simp [rightV]
        go_enter Tryz.func80, Tryz.ntmps80
        go_wp2
        go_ret
        rw [HR.out]
        exact ⟨rfl, (Below.refl _ w).alloc (Nat.le_refl _) _⟩
    · have hmb : (m == 0) = false := by rw [beq_eq_false_iff_ne]; exact hm
      have HR : Hid (rightV ⟨0, m, s⟩ n = false) := show _ = _ by simp [rightV, hm]
      go_enter Tryz.func80, Tryz.ntmps80
      go_wp2
      go_ret
      rw [HR.out]
      exact ⟨rfl, (Below.refl _ w).alloc (Nat.le_refl _) _⟩
  have hk0 : (k == 0) = false := by rw [beq_eq_false_iff_ne]; exact h0
  by_cases h1 : k = 1
  · subst h1
    clear hk0
    by_cases hs : s = []
    · subst hs
      have HR : Hid (rightV ⟨1, m, []⟩ n = true) := show _ = _ by simp [rightV]
      go_enter Tryz.func80, Tryz.ntmps80
      go_wp2
      go_ret
      rw [HR.out]
      exact ⟨rfl, (Below.refl _ w).alloc (Nat.le_refl _) _⟩
    · obtain ⟨a, t, rfl⟩ := List.exists_cons_of_ne_nil hs
      have HR : Hid (rightV ⟨1, m, a :: t⟩ n = false) := show _ = _ by simp [rightV]
      go_enter Tryz.func80, Tryz.ntmps80
      go_wp2
      go_ret
      rw [HR.out]
      exact ⟨rfl, (Below.refl _ w).alloc (Nat.le_refl _) _⟩
  have hk1 : (k == 1) = false := by rw [beq_eq_false_iff_ne]; exact h1
  by_cases h2 : k = 2
  · subst h2
    clear hk0 hk1
    by_cases hs : s = []
    · subst hs
      by_cases hm : m = 0
      · subst hm
        have HR : Hid (rightV ⟨2, 0, []⟩ n = true) := show _ = _ by simp [rightV, *]
        go_enter Tryz.func80, Tryz.ntmps80
        go_wp2
        go_ret
        rw [HR.out]
        exact ⟨rfl, (Below.refl _ w).alloc (Nat.le_refl _) _⟩
      have hm0 : (m == 0) = false := by rw [beq_eq_false_iff_ne]; exact hm
      by_cases hm1 : m = 1
      · subst hm1
        clear hm0
        have HR : Hid (rightV ⟨2, 1, []⟩ n = true) := show _ = _ by simp [rightV, *]
        go_enter Tryz.func80, Tryz.ntmps80
        go_wp2
        go_ret
        rw [HR.out]
        exact ⟨rfl, (Below.refl _ w).alloc (Nat.le_refl _) _⟩
      have hm2 : (m == 1) = false := by rw [beq_eq_false_iff_ne]; exact hm1
      have HR : Hid (rightV ⟨2, m, []⟩ n = false) := show _ = _ by simp [rightV, *]
      go_enter Tryz.func80, Tryz.ntmps80
      go_wp2
      go_ret
      rw [HR.out]
      exact ⟨rfl, (Below.refl _ w).alloc (Nat.le_refl _) _⟩
    · obtain ⟨a, t, rfl⟩ := List.exists_cons_of_ne_nil hs
      have HR : Hid (rightV ⟨2, m, a :: t⟩ n = false) := show _ = _ by simp [rightV, *]
      go_enter Tryz.func80, Tryz.ntmps80
      go_wp2
      go_ret
      rw [HR.out]
      exact ⟨rfl, (Below.refl _ w).alloc (Nat.le_refl _) _⟩
  have hk2 : (k == 2) = false := by rw [beq_eq_false_iff_ne]; exact h2
  by_cases h3 : k = 3
  · subst h3
    clear hk0 hk1 hk2
    by_cases hm : m = 0
    · subst hm
      obtain ⟨w1, hw1⟩ : ∃ w1, w1 = w.alloc (.cells #[.int .i64 3, .int .i64 0, .string (strB s)] 54) := ⟨_, rfl⟩
      have hb1 : Below w.heap.size w w1 := by rw [hw1]; exact (Below.refl _ w).alloc (Nat.le_refl _) _
      have hz1 : w1.heap.size = w.heap.size + 1 := by rw [hw1]; simp
      have c := refPlain_any s w1 (by omega)
      have HB1 : Hid (Below w.heap.size w w1) := hb1
      have HR : Hid (rightV ⟨3, 0, s⟩ n = plainQ s) := show _ = _ by rw [← back_strD]; simp [rightV]
      generalize plainQ s = b at *
      rw [hw1] at c
      clear hb1
      go_enter Tryz.func80, Tryz.ntmps80
      go_wp2_with fail
      refine c.mono ?_
      clear c
      rw [← hw1]
      rintro e w2 ⟨rfl, rfl⟩
      have HB2 : Hid (Below w.heap.size w w1) := HB1.out
      clear hw1
      cases b with
      | true =>
        go_wp2
        go_ret
        rw [HR.out]
        exact ⟨rfl, HB2.out⟩
      | false =>
        go_wp2
        go_ret
        rw [HR.out]
        exact ⟨rfl, HB2.out⟩
    · have hmb : (m == 0) = false := by rw [beq_eq_false_iff_ne]; exact hm
      have HR : Hid (rightV ⟨3, m, s⟩ n = false) := show _ = _ by simp [rightV, hm]
      go_enter Tryz.func80, Tryz.ntmps80
      go_wp2
      go_ret
      rw [HR.out]
      exact ⟨rfl, (Below.refl _ w).alloc (Nat.le_refl _) _⟩
  have hk3 : (k == 3) = false := by rw [beq_eq_false_iff_ne]; exact h3
  by_cases h4 : k = 4
  · subst h4
    clear hk0 hk1 hk2 hk3
    by_cases hs : s = []
    · subst hs
      by_cases hm : 0 ≤ m
      · by_cases hn : m < n
        · have HR : Hid (rightV ⟨4, m, []⟩ n = true) := show _ = _ by simp [rightV, hm, hn]
          go_enter Tryz.func80, Tryz.ntmps80
          go_wp2
          go_ret
          rw [HR.out]
          exact ⟨rfl, (Below.refl _ w).alloc (Nat.le_refl _) _⟩
        · have HR : Hid (rightV ⟨4, m, []⟩ n = false) := show _ = _ by simp [rightV]; omega
          go_enter Tryz.func80, Tryz.ntmps80
          go_wp2
          go_ret
          rw [HR.out]
          exact ⟨rfl, (Below.refl _ w).alloc (Nat.le_refl _) _⟩
      · have HR : Hid (rightV ⟨4, m, []⟩ n = false) := show _ = _ by simp [rightV]; omega
        go_enter Tryz.func80, Tryz.ntmps80
        go_wp2
        go_ret
        rw [HR.out]
        exact ⟨rfl, (Below.refl _ w).alloc (Nat.le_refl _) _⟩
    · obtain ⟨a, t, rfl⟩ := List.exists_cons_of_ne_nil hs
      have HR : Hid (rightV ⟨4, m, a :: t⟩ n = false) := show _ = _ by simp [rightV, *]
      go_enter Tryz.func80, Tryz.ntmps80
      go_wp2
      go_ret
      rw [HR.out]
      exact ⟨rfl, (Below.refl _ w).alloc (Nat.le_refl _) _⟩
  have hk4 : (k == 4) = false := by rw [beq_eq_false_iff_ne]; exact h4
  have HR : Hid (rightV ⟨k, m, s⟩ n = false) := show _ = _ by simp [rightV, h0, h1, h2, h3, h4]
  go_enter Tryz.func80, Tryz.ntmps80
  go_wp2
  go_ret
  rw [HR.out]
  exact ⟨rfl, (Below.refl _ w).alloc (Nat.le_refl _) _⟩
end Go.Proofs.YtbdgniiafdjmiaaGreatDoor
/- heap: the examples, reckoned. -/
namespace Go.Proofs.YtbdgniiafdjmiaaGreatDoor
open Go.RowKit Go.Shelf

set_option maxRecDepth 100000 in
theorem back_P : backB 1 0 [80] := by unfold backB; decide +kernel
set_option maxRecDepth 100000 in
theorem itoa_1 : Lib.itoa 1 = [49] := by decide +kernel
set_option maxRecDepth 100000 in
theorem itoa_2 : Lib.itoa 2 = [50] := by decide +kernel

def exO1 : Ob := ([], [⟨1, 1, []⟩, ⟨1, 2, []⟩])
def exO2 : Ob := ([80], [⟨4, 0, []⟩, ⟨2, 1, []⟩])
theorem exA1 : allocR 9 [] exO1 = (⟨4, 0, []⟩, 0, [exO1]) := by
  unfold allocR
  rw [if_neg (by simp [obB, exO1, cellV, rightV, tagB]), if_neg (by simp [exO1, allV])]
  rfl
theorem exA2 : allocR 9 [exO1] exO2 = (⟨4, 1, []⟩, 0, [exO1, exO2]) := by
  unfold allocR
  rw [if_neg (by simp [obB, exO2, cellV, rightV, tagB, back_P]), if_neg (by simp [exO2, exO1, allV])]
  rfl
theorem exS1 : showB [exO1, exO2] ⟨4, 1, []⟩ = [80, 40, 91, 49, 44, 32, 50, 93, 44, 32, 116, 114, 117, 101, 41] := by
  have e : txtV [exO1, exO2] 2 ⟨4, 1, []⟩ = [80, 40, 91, 49, 44, 32, 50, 93, 44, 32, 116, 114, 117, 101, 41] := by
    simp [txtV, leafT, obT, exO1, exO2, joinT, itoa_1, itoa_2, trueB]
  unfold showB
  rw [e]
  simp [rightV]
theorem exS2 : showB (setOs [exO1, exO2] 0 1 ⟨4, 1, []⟩) ⟨4, 1, []⟩ = [80, 40, 91, 49, 44, 32, 46, 46, 46, 93, 44, 32, 116, 114, 117, 101, 41] := by
  have e : txtV (setOs [exO1, exO2] 0 1 ⟨4, 1, []⟩) 2 ⟨4, 1, []⟩ = [80, 40, 91, 49, 44, 32, 46, 46, 46, 93, 44, 32, 116, 114, 117, 101, 41] := by
    simp [setOs, txtV, leafT, obT, exO1, exO2, joinT, itoa_1, trueB, dotsB]
  unfold showB
  rw [e, setOs_len]
  simp [rightV]
end Go.Proofs.YtbdgniiafdjmiaaGreatDoor
/- heap: the laws' lives. -/
namespace Go.Proofs.YtbdgniiafdjmiaaGreatDoor
open Go.RowKit Go.Shelf

theorem zeroV_box (w : World) : (w.alloc (.cells #[.int .i64 0, .int .i64 0, .string ⟨#[]⟩] 54)).heap[w.heap.size]? = some (.cells #[.int .i64 0, .int .i64 0, .string ⟨#[]⟩] 54 (0, 0)) := World.alloc_heap_new _ _

/-- Two values that were just laid. -/
theorem valsIn_two (w : World) (a b : Vl) : valsIn (fun k => k = w.heap.size) (w.alloc (.cells #[.int .i64 a.k, .int .i64 a.n, .string (strB a.s), .int .i64 b.k, .int .i64 b.n, .string (strB b.s)] 54)) (.slice (some ⟨w.heap.size, 0, none⟩) 2 2) [a, b] := by
  refine ⟨_, 2, rfl, by simp, by unfold maxLen; omega, .inr ⟨w.heap.size, 0, rfl, rfl, by simp, fun j u hj => ?_⟩⟩
  have h9 := cells_new w [.int .i64 a.k, .int .i64 a.n, .string (strB a.s), .int .i64 b.k, .int .i64 b.n, .string (strB b.s)] 54 j u hj
  by_cases h0 : j = 0
  · subst h0; simpa [Addr.add] using h9
  · simpa [Addr.add, h0] using h9

end Go.Proofs.YtbdgniiafdjmiaaGreatDoor
/- heap: a heap behind calls. -/
namespace Go.Proofs.YtbdgniiafdjmiaaGreatDoor
open Go.RowKit Go.Shelf

/-- What Set answers. -/
def setE (os : List Ob) (v : Vl) (i : Int) (x : Vl) : Int :=
  if refB os v = true then (if cellV x os.length = true then (if hasB i ((os[v.n.toNat]?).getD ([], [])).2.length = true then 0 else 10) else 2) else 2
/-- The objects then. -/
def setR (os : List Ob) (v : Vl) (i : Int) (x : Vl) : List Ob := if setE os v i x = 0 then setOs os v.n.toNat i.toNat x else os

/-- A call that came in. -/
structure Ac where
  kind : Int
  tag : List UInt8
  cells : List Vl
  v : Vl
  x : Vl
  i : Int
/-- The objects behind a call, behind calls. -/
def actR (os : List Ob) (a : Ac) : List Ob := if a.kind = 1 then setR os a.v a.i a.x else if a.kind = 0 then (allocR 4096 os (a.tag, a.cells)).2.2 else os
def doneR (l : List Ac) : List Ob := l.foldl actR []
def smallA (a : Ac) : Prop := smallO (a.tag, a.cells) ∧ a.cells.length ≤ 1048576 ∧ smallV a.v ∧ smallV a.x ∧ (-9223372036854775808 ≤ a.i ∧ a.i ≤ 9223372036854775807)

/-- Calls that came in lie there. -/
def actsIn (w : World) (base : Option Addr) (l : List Ac) : Prop :=
  l = [] ∨ ∃ b o, base = some ⟨b, o, none⟩ ∧ b < w.heap.size ∧ ∀ j (hj : j < l.length), ∃ u, (u = .slice none 0 0 ∨ ∃ ad n c, u = .slice (some ad) n c) ∧ w.cell? ⟨b, o + j * 10, none⟩ = some (.int .i64 (l[j]).kind) ∧ w.cell? ⟨b, o + j * 10 + 1, none⟩ = some (.string (strB (l[j]).tag)) ∧ w.cell? ⟨b, o + j * 10 + 2, none⟩ = some u ∧ valsIn (fun _ => True) w u (l[j]).cells ∧
    (w.cell? ⟨b, o + j * 10 + 3, none⟩ = some (.int .i64 (l[j]).v.k) ∧ w.cell? ⟨b, o + j * 10 + 4, none⟩ = some (.int .i64 (l[j]).v.n) ∧ w.cell? ⟨b, o + j * 10 + 5, none⟩ = some (.string (strB (l[j]).v.s))) ∧
    (w.cell? ⟨b, o + j * 10 + 6, none⟩ = some (.int .i64 (l[j]).x.k) ∧ w.cell? ⟨b, o + j * 10 + 7, none⟩ = some (.int .i64 (l[j]).x.n) ∧ w.cell? ⟨b, o + j * 10 + 8, none⟩ = some (.string (strB (l[j]).x.s))) ∧ w.cell? ⟨b, o + j * 10 + 9, none⟩ = some (.int .i64 (l[j]).i)

theorem actsIn_below {w w' : World} {base : Option Addr} {l : List Ac} (h : actsIn w base l) (hb : Below w.heap.size w w') : actsIn w' base l := by
  rcases h with h | ⟨b, o, e, hlt, hall⟩
  · exact .inl h
  · refine .inr ⟨b, o, e, Nat.lt_of_lt_of_le hlt hb.size, fun j hj => ?_⟩
    obtain ⟨u, hf, q0, q1, q2, hv, ⟨q3, q4, q5⟩, ⟨q6, q7, q8⟩, q9⟩ := hall j hj
    have c := fun q => below_cell (g := b) (j := q) hb hlt
    exact ⟨u, hf, (c _).trans q0, (c _).trans q1, (c _).trans q2, hv.kept hb.size fun k _ hk => hb.block k hk, ⟨(c _).trans q3, (c _).trans q4, (c _).trans q5⟩, ⟨(c _).trans q6, (c _).trans q7, (c _).trans q8⟩, (c _).trans q9⟩

theorem doneR_snoc (l : List Ac) (i : Nat) (h : i < l.length) : doneR (l.take (i + 1)) = actR (doneR (l.take i)) l[i] := by
  unfold doneR
  rw [List.take_succ_eq_append_getElem h, List.foldl_append]
  rfl

theorem addr_plain (b o j : Nat) : (⟨b, o, none⟩ : Addr).add j = ⟨b, o + j, none⟩ := by
  unfold Addr.add
  split
  · rename_i h0; congr 1; omega
  · rfl

end Go.Proofs.YtbdgniiafdjmiaaGreatDoor
/- heap: the document's own words: cells, New, Used, own. -/
namespace Go.Proofs.YtbdgniiafdjmiaaGreatDoor
open Go.RowKit Go.Shelf

set_option maxRecDepth 100000 in
set_option maxHeartbeats 4000000 in
theorem refCells_any (S : Nat → Prop) (l : List Vl) (v : Value) (n : Int) (w : World) (hv : valsIn S w v l) (hs : ∀ x ∈ l, smallV x) (hl : l.length ≤ 1048576) :
    Calls Tryz.prog 77 #[v, .int .i64 n] w fun e w' => e = .returned (.bool (l.all fun x => cellV x n)) ∧ Below w.heap.size w w' := by
  obtain ⟨base, cap, rfl, hc1, hc2, hat⟩ := hv.at
  have HAT : Hid (∀ i (hi : i < l.length), ∃ b o, base = some ⟨b, o, none⟩ ∧ S b ∧ b < w.heap.size ∧ w.cell? ⟨b, o + i * 3, none⟩ = some (.int .i64 (l[i]).k) ∧ w.cell? ⟨b, o + i * 3 + 1, none⟩ = some (.int .i64 (l[i]).n) ∧ w.cell? ⟨b, o + i * 3 + 2, none⟩ = some (.string (strB (l[i]).s))) := hat
  have HS : Hid (∀ x ∈ l, smallV x) := hs
  clear hv hat hs
  go_enter Tryz.func77, Tryz.ntmps77
  go_wp2
  go_loopw [5] (fun vi wr => ∃ i : Nat, i ≤ l.length ∧ vi = .int .i64 i ∧ (∀ j (h : j < l.length), j < i → cellV l[j] n = true) ∧ Below w.heap.size w wr) (fun vi _ => l.length - (intOf vi).toNat)
  case atStart => exact ⟨0, Nat.zero_le _, rfl, fun j _ h => by omega, Below.refl _ _⟩
  case round =>
    obtain ⟨i, hi, rfl, hall, hbw⟩ := hrel
    have HA : Hid (∀ j (h : j < l.length), j < i → cellV l[j] n = true) := hall
    have HB : Hid (Below w.heap.size w wr) := hbw
    have hsw := hbw.size
    clear hall hbw
    by_cases hlt : i < l.length
    · obtain ⟨b, o, rfl, -, hbl, q0, q1, q2⟩ := HAT.out i hlt
      have hi2 : (i : Int) < l.length := by omega
      have r0 := (below_cell HB.out hbl).trans q0
      have r1 := (below_cell HB.out hbl).trans q1
      have r2 := (below_cell HB.out hbl).trans q2
      have hxs := HS.out l[i] (List.getElem_mem hlt)
      obtain ⟨x, hx⟩ : ∃ x, x = l[i] := ⟨_, rfl⟩
      have HX : Hid (x = l[i]) := hx
      rw [← hx] at r0 r1 r2 hxs
      have c := refRight_any x n wr hxs
      have HCV : Hid (cellV x n = (decide (x.k ≠ 0) && rightV x n)) := rfl
      clear q0 q1 q2 hx hxs
      cases hr : rightV x n with
      | false =>
        rw [hr] at c
        have HC : Hid (l.all (fun v => cellV v n) = false) := all_take_false hlt (by rw [← HX.out, HCV.out, hr]; simp)
        clear hr HX HCV
        obtain ⟨xk, xn, xs⟩ := x
        go_wp2_with fail
        refine c.mono ?_
        clear c
        rintro e w3 ⟨rfl, hb3⟩
        have HB3 : Hid (Below w.heap.size w w3) := HB.out.trans (hb3.mono hsw)
        clear hb3
        go_wp2
        go_ret
        rw [HC.out]
        exact ⟨rfl, HB3.out⟩
      | true =>
        rw [hr] at c
        rw [hr] at HCV
        clear hr
        obtain ⟨xk, xn, xs⟩ := x
        simp only at r0 r1 r2
        go_wp2_with fail
        refine c.mono ?_
        clear c
        rintro e w3 ⟨rfl, hb3⟩
        have HB3 : Hid (Below w.heap.size w w3) := HB.out.trans (hb3.mono hsw)
        have hk3 := (below_cell hb3 (by omega)).trans r0
        clear hb3 r0 r1 r2
        by_cases h0 : xk = 0
        · subst h0
          have HC : Hid (l.all (fun v => cellV v n) = false) := all_take_false hlt (by rw [← HX.out, HCV.out]; rfl)
          clear HX HCV
          go_wp2
          go_ret
          rw [HC.out]
          exact ⟨rfl, HB3.out⟩
        · have hkb : (xk == 0) = false := by rw [beq_eq_false_iff_ne]; exact h0
          have HC : Hid (cellV l[i] n = true) := by show _ = _; rw [← HX.out, HCV.out]; simp [h0]
          clear HX HCV
          go_wp2
          refine ⟨⟨i + 1, by omega, by go_num, fun j hj hji => ?_, HB3.out⟩, by simp [intOf]; omega⟩
          by_cases h : j < i
          · exact HA.out j hj h
          · obtain rfl : j = i := by omega
            exact HC.out
    · obtain rfl : i = l.length := by omega
      have hi2 : ¬ (l.length : Int) < l.length := by omega
      have HC : Hid (l.all (fun v => cellV v n) = true) := show _ = _ by
        rw [List.all_eq_true]
        intro x hx
        obtain ⟨j, hj, rfl⟩ := List.getElem_of_mem hx
        exact HA.out j hj hj
      go_wp2
      go_ret
      rw [HC.out]
      exact ⟨rfl, HB.out⟩

/-- The document's heap. -/
abbrev rhV (m : Nat) (v : Value) : Value := .agg #[.int .i64 (m : Int), v]

set_option maxRecDepth 100000 in
set_option maxHeartbeats 1000000 in
theorem refNew_any (m : Int) (w : World) :
    Calls Tryz.prog 75 #[.int .i64 m] w fun e w' => e = .returned (rhV (mostN m) (.slice none 0 0)) ∧ Below w.heap.size w w' := by
  have HM : Hid (((mostN m : Nat) : Int) = max 0 (min m 4096)) := by show _ = _; rw [mostN_int]; omega
  go_enter Tryz.func75, Tryz.ntmps75
  go_wp2
  exact bodyPost_ret (v := .agg #[.int .i64 (max 0 (min m 4096)), .slice none 0 0]) (by simp [results, Tryz.results75, go_sem]) rfl ⟨by rw [← HM.out], (Below.refl _ w).alloc (Nat.le_refl _) _⟩

theorem allV_take_le (os : List Ob) (i : Nat) : (allV (os.take i)).length ≤ (allV os).length := by
  have e : os = os.take i ++ os.drop i := (List.take_append_drop i os).symm
  have : (allV os).length = (allV (os.take i)).length + (allV (os.drop i)).length := by
    conv => lhs; rw [e]
    unfold allV
    rw [List.flatMap_append, List.length_append]
  omega

set_option maxRecDepth 100000 in
set_option maxHeartbeats 4000000 in
theorem refUsed_any (S : Nat → Prop) (m : Nat) (os : List Ob) (v : Value) (w : World) (hv : objsIn S w v os) (hu : os.length + (allV os).length ≤ 4398046511104) :
    Calls Tryz.prog 79 #[rhV m v] w fun e w' => e = .returned (.int .i64 ((os.length + (allV os).length : Nat) : Int)) ∧ Below w.heap.size w w' := by
  obtain ⟨base, cap, rfl, hc1, hc2, hat⟩ := hv.at
  have HAT : Hid (∀ i (hi : i < os.length), ∃ b o u, base = some ⟨b, o, none⟩ ∧ S b ∧ b < w.heap.size ∧ w.cell? ⟨b, o + i * 2, none⟩ = some (.string (strB (os[i]).1)) ∧ w.cell? ⟨b, o + i * 2 + 1, none⟩ = some u ∧ valsIn S w u (os[i]).2) := hat
  have HAL : Hid (∀ i, (allV (os.take i)).length ≤ (allV os).length) := allV_take_le os
  have HSN : Hid (∀ i (h : i < os.length), (allV (os.take (i + 1))).length = (allV (os.take i)).length + (os[i]).2.length) := fun i h => by
    rw [List.take_succ_eq_append_getElem h, allV_snoc, List.length_append]
  obtain ⟨M, hM⟩ : ∃ M : Int, M = (m : Int) := ⟨_, rfl⟩
  rw [show rhV m (.slice base os.length cap) = .agg #[.int .i64 M, .slice base os.length cap] by rw [hM]]
  obtain ⟨w1, hw1⟩ : ∃ w1, w1 = w.alloc (.cells #[.int .i64 M, .slice base os.length cap] 85) := ⟨_, rfl⟩
  have hb1 : Below w.heap.size w w1 := by rw [hw1]; exact (Below.refl _ w).alloc (Nat.le_refl _) _
  have hz1 : w1.heap.size = w.heap.size + 1 := by rw [hw1]; simp
  have hbk : w1.heap[w.heap.size]? = some (.cells #[.int .i64 M, .slice base os.length cap] 85 (0, 0)) := by rw [hw1]; exact World.alloc_heap_new _ _
  obtain ⟨-, p1, -⟩ := cellsH2 hbk
  have HP1 : Hid (w1.cell? ⟨w.heap.size, 1, none⟩ = some (.slice base os.length cap)) := p1
  have HB1 : Hid (Below w.heap.size w w1) := hb1
  have HUS : Hid (os.length + (allV os).length ≤ 4398046511104) := hu
  clear hv hat hb1 hbk p1 hM hu
  go_enter Tryz.func79, Tryz.ntmps79
  go_wp2
  rw [← hw1]
  clear hw1
  go_loopw [3, 4] (fun vn vi wr => ∃ i : Nat, i ≤ os.length ∧ vi = .int .i64 i ∧ vn = .int .i64 ((i + (allV (os.take i)).length : Nat) : Int) ∧ Below w1.heap.size w1 wr) (fun _ vi _ => os.length - (intOf vi).toNat)
  case atStart => exact ⟨0, Nat.zero_le _, rfl, by simp [allV], Below.refl _ _⟩
  case round =>
    obtain ⟨i, hi, rfl, rfl, hbw⟩ := hrel
    have HB : Hid (Below w1.heap.size w1 wr) := hbw
    have hsw := hbw.size
    have pr := (below_cell hbw (by omega)).trans HP1.out
    have hal := HAL.out i
    have hus := HUS.out
    clear hbw
    by_cases hlt : i < os.length
    · have hi2 : (i : Int) < os.length := by omega
      obtain ⟨ba, oa, ua, rfl, -, hla, q0, q1, hva⟩ := HAT.out i hlt
      obtain ⟨bu, cu, hua, z1, z2, -⟩ := hva.at
      subst hua
      have t1 := (below_cell HB.out (by omega)).trans ((below_cell HB1.out hla).trans q1)
      have hsn := HSN.out i hlt
      have hal2 := HAL.out (i + 1)
      obtain ⟨A, hA⟩ : ∃ A, A = (allV (os.take i)).length := ⟨_, rfl⟩
      obtain ⟨L, hL⟩ : ∃ L, L = (os[i]).2.length := ⟨_, rfl⟩
      rw [← hL] at t1 z1 hsn
      rw [← hA] at hsn hal
      have HSN1 : Hid ((allV (os.take (i + 1))).length = A + L) := hsn
      rw [hsn] at hal2
      rw [← hA]
      have e1 : IntKind.i64.wrap (((i + A : Nat) : Int) + 1) = ((i + A : Nat) : Int) + 1 := by rw [IntKind.wrap_i64]; omega
      have e2 : IntKind.i64.wrap (((i + A : Nat) : Int) + 1 + (L : Int)) = ((i + A : Nat) : Int) + 1 + (L : Int) := by rw [IntKind.wrap_i64]; omega
      clear q0 q1 hva hsn hL hA
      go_wp2
      exact ⟨⟨i + 1, by omega, by go_num, by rw [HSN1.out]; go_num, HB.out⟩, by simp [intOf]; omega⟩
    · obtain rfl : i = os.length := by omega
      have hi2 : ¬ (os.length : Int) < os.length := by omega
      have HBr : Hid (Below w.heap.size w wr) := HB1.out.trans (HB.out.mono (by omega))
      go_wp2
      go_ret
      exact ⟨rfl, HBr.out⟩

set_option maxRecDepth 100000 in
set_option maxHeartbeats 1000000 in
theorem refOwn06_any (T : Nat → Prop) (l : List Vl) (vl : Value) (w : World) (hv : valsIn T w vl l) (hf : vl = .slice none 0 0 ∨ ∃ ad n c, vl = .slice (some ad) n c) (hl : l.length ≤ 1048576) :
    Calls Tryz.prog 78 #[vl] w fun e w' => ∃ v', e = .returned v' ∧ Hid (w'.ownsRow w.heap.size 54 3 v' l.length (vlC l)) ∧ Below w.heap.size w w' := by
  obtain ⟨i0, hi0, hz0, hz1, hz2⟩ := info_parts info_val
  obtain ⟨base, cap, hvl, hc1, hc2, h3⟩ := hv
  have hl0 : (w.alloc (.cells #[] 54)).ownsRow w.heap.size 54 3 (.slice (some ⟨w.heap.size, 0, none⟩) 0 0) 0 [] := World.ownsRow_made w #[] 0 (Nat.le_refl _) (Nat.zero_le _) rfl
  have HB1 : Hid (Below w.heap.size w (w.alloc (.cells #[] 54))) := (Below.refl _ w).alloc (Nat.le_refl _) _
  rcases hf with rfl | ⟨ad, n, c, rfl⟩
  · simp only [Value.slice.injEq] at hvl
    have hl9 : l = [] := List.length_eq_zero_iff.1 hvl.2.1.symm
    subst hl9
    have HF : Hid ((w.alloc (.cells #[] 54)).ownsRow w.heap.size 54 3 (.slice (some ⟨w.heap.size, 0, none⟩) 0 0) ([] : List Vl).length (vlC [])) := hl0
    clear h3 hvl
    go_enter Tryz.func78, Tryz.ntmps78
    go_wp2_with (at_builtin; refine wpList_append_own_none rfl _ _ 47 rfl w.heap.size 54 i0 3 Tryz.underlying47 hi0 _ 0 [] rfl hl0 rfl ?_)
    go_ret
    exact ⟨_, rfl, HF, HB1.out⟩
  · simp only [Value.slice.injEq] at hvl
    obtain ⟨rfl, rfl, rfl⟩ := hvl
    have hnews : ∀ j u, (vlC l)[j]? = some u → (w.alloc (.cells #[] 54)).cell? (ad.add j) = some u := fun j u hj => by
      rcases h3 with h3 | ⟨b, o, e, -, -, hc⟩
      · subst h3; simp [vlC] at hj
      · simp only [Option.some.injEq] at e
        subst e
        rw [addr_plain]
        exact Lib.cell?_alloc_some _ (hc j u hj)
    clear h3
    go_enter Tryz.func78, Tryz.ntmps78
    go_wp2_with (at_builtin; refine wpList_append_own_at _ rfl _ _ 47 rfl w.heap.size 54 i0 _ 3 32 Tryz.underlying47 hi0 hz0 hz1 hz2 rfl (by decide) _ _ _ rfl hl0 ad l.length c (vlC l) rfl (by rw [vlC_len]) hnews (vl_one l) (by unfold maxLen; omega) (by omega) (by simp) ?_; intro v' w1 hown' hgrow _ hat)
    go_ret
    refine ⟨v', rfl, ?_, HB1.out.grown hgrow (by simp) (fun k hk => (hl0.lt k hk).1)⟩
    rw [Nat.zero_add, List.nil_append] at hown'
    exact hown'

end Go.Proofs.YtbdgniiafdjmiaaGreatDoor
/- heap: the document's own Load. -/
namespace Go.Proofs.YtbdgniiafdjmiaaGreatDoor
open Go.RowKit Go.Shelf

theorem set2_cells {w : World} {N : Nat} {x0 x1 : Value} {ty : TypeId} (h : w.heap[N]? = some (.cells #[x0, x1] ty (0, 0))) (x y : Value) :
    ((w.setCell ⟨N, 0, none⟩ x).setCell ⟨N, 1, none⟩ y).cell? ⟨N, 0, none⟩ = some x ∧ ((w.setCell ⟨N, 0, none⟩ x).setCell ⟨N, 1, none⟩ y).cell? ⟨N, 1, none⟩ = some y := by
  obtain ⟨a, b, -⟩ := cellsH2 (x0 := x) (x1 := y) (setCellH_block (j := 1) y (setCellH_block (j := 0) x h))
  exact ⟨a, b⟩

/-- What the document's Load answers. -/
def refLoadP (m : Int) (os : List Ob) (w : World) (e : Ending) (w' : World) : Prop :=
  Below w.heap.size w w' ∧ ((e = .returned (.tuple #[.agg #[.int .i64 0, .slice none 0 0], .int .i64 2]) ∧ ∃ o ∈ os, obB o (os.length : Int) = false) ∨
    (e = .returned (.tuple #[.agg #[.int .i64 0, .slice none 0 0], .int .i64 12]) ∧ (∀ o ∈ os, obB o (os.length : Int) = true) ∧ mostN m < os.length + (allV os).length) ∨
    ((∀ o ∈ os, obB o (os.length : Int) = true) ∧ os.length + (allV os).length ≤ mostN m ∧ ∃ v, e = .returned (.tuple #[rhV (mostN m) v, .int .i64 0]) ∧ ObsAt w.heap.size w' os v))

theorem obB_parts (o : Ob) (n : Int) : obB o n = (o.2.all (fun x => cellV x n) && (decide (o.1 = []) || nameQ o.1)) := by
  unfold obB tagB
  congr 1
  rw [← back_nameD]
  by_cases h : o.1 = [] <;> by_cases h2 : backB 1 0 o.1 <;> simp [h, h2]

/-- Rows of values that came in: none, or some. -/
def objsF (w : World) (v : Value) (os : List Ob) : Prop := ∀ i, i < os.length → ∀ b o cap u, v = .slice (some ⟨b, o, none⟩) os.length cap → w.cell? ⟨b, o + i * 2 + 1, none⟩ = some u → (u = .slice none 0 0 ∨ ∃ ad n c, u = .slice (some ad) n c)

theorem ObsOwn.setBox {B : Nat} {w : World} {os : List Ob} {v : Value} {vs : List Value} (h : ObsOwn B w os v vs) {G j : Nat} {c : Array Value} {ty : TypeId} {fr : Nat × Nat} (hG : w.heap[G]? = some (.cells c ty fr)) (h1 : ty ≠ 51) (h2 : ty ≠ 54) (u : Value) : ObsOwn B (w.setCell ⟨G, j, none⟩ u) os v vs where
  len := h.len
  row := own_blocks h.row fun k hk _ => Below.heap_setCell _ _ _ _ (by
    intro e; simp only at e; subst e
    obtain ⟨cur, hc⟩ := own_type h.row hk
    rw [hG] at hc
    simp only [Option.some.injEq, Obj.cells.injEq] at hc
    exact h1 hc.2.1)
  kids := fun q hq => by
    obtain ⟨z, hz, ho⟩ := h.kids q hq
    refine ⟨z, hz, own_blocks ho fun k hk _ => Below.heap_setCell _ _ _ _ ?_⟩
    intro e; simp only at e; subst e
    obtain ⟨cur, hc⟩ := own_type ho hk
    rw [hG] at hc
    simp only [Option.some.injEq, Obj.cells.injEq] at hc
    exact h2 hc.2.1

/-- What the loop keeps: the document's heap in the block G, the result's in the block R. -/
structure LdJ (n : Nat) (w : World) (m : Nat) (os : List Ob) (R G : Nat) (i : Nat) (vL : Value) (vs : List Value) (wr : World) : Prop where
  own : ObsOwn n wr (os.take i) vL vs
  box : wr.heap[G]? = some (.cells #[.int .i64 (m : Int), vL] 85 (0, 0))
  res : wr.heap[R]? = some (.cells #[.int .i64 0, .slice none 0 0] 85 (0, 0))
  below : Below n w wr
  ok : ∀ o ∈ os.take i, obB o (os.length : Int) = true

set_option maxRecDepth 100000 in
set_option maxHeartbeats 8000000 in
theorem refLoad_any (T : Nat → Prop) (m : Int) (os : List Ob) (v : Value) (w : World) (hv : objsIn T w v os) (hs : ∀ o ∈ os, smallO o) (hk : ∀ o ∈ os, o.2.length ≤ 1048576) (hl : os.length ≤ 1048576) (hf : objsF w v os) :
    Calls Tryz.prog 44 #[.int .i64 m, v] w (refLoadP m os w) := by
  obtain ⟨i0, hi0, hz0, hz1, hz2⟩ := info_parts info_Obj
  obtain ⟨b1, c1, rfl, p1, p2, hat1⟩ := hv.at
  have H1 : Hid (∀ i (hi : i < os.length), ∃ b o u, b1 = some ⟨b, o, none⟩ ∧ T b ∧ b < w.heap.size ∧ w.cell? ⟨b, o + i * 2, none⟩ = some (.string (strB (os[i]).1)) ∧ w.cell? ⟨b, o + i * 2 + 1, none⟩ = some u ∧ valsIn T w u (os[i]).2) := hat1
  have HFM : Hid (objsF w (.slice b1 os.length c1) os) := hf
  have HS : Hid (∀ o ∈ os, smallO o) := hs
  have HK : Hid (∀ o ∈ os, o.2.length ≤ 1048576) := hk
  have HAL : Hid ((allV os).length ≤ os.length * 1048576) := by
    show _ ≤ _
    have : ∀ i, i ≤ os.length → (allV (os.take i)).length ≤ i * 1048576 := fun i hi => by
      induction i with
      | zero => simp [allV]
      | succ i ih =>
        rw [take_snoc (by omega), allV_snoc, List.length_append]
        have := ih (by omega)
        have := hk os[i] (List.getElem_mem (by omega))
        omega
    have := this os.length (Nat.le_refl _)
    rwa [List.take_of_length_le (Nat.le_refl _)] at this
  obtain ⟨M, hM⟩ : ∃ M, M = mostN m := ⟨_, rfl⟩
  have hMl : M ≤ 4096 := by rw [hM]; exact mostN_le m
  have HM : Hid (M = mostN m) := hM
  obtain ⟨wa, hwa⟩ : ∃ wa, wa = w.alloc (.cells #[.int .i64 0, .slice none 0 0] 85) := ⟨_, rfl⟩
  have hsa : wa.heap.size = w.heap.size + 1 := by rw [hwa]; simp
  have hba : Below w.heap.size w wa := by rw [hwa]; exact (Below.refl _ w).alloc (Nat.le_refl _) _
  have hra : wa.heap[w.heap.size]? = some (.cells #[.int .i64 0, .slice none 0 0] 85 (0, 0)) := by rw [hwa]; exact World.alloc_heap_new _ _
  have cn := refNew_any m wa
  rw [← hM] at cn
  have HBA : Hid (Below w.heap.size w wa) := hba
  have HRA : Hid (wa.heap[w.heap.size]? = some (.cells #[.int .i64 0, .slice none 0 0] 85 (0, 0))) := hra
  have HWA : Hid (wa = w.alloc (.cells #[.int .i64 0, .slice none 0 0] 85)) := hwa
  clear hv hat1 hs hk hM hba hra hwa hf
  go_enter Tryz.func44, Tryz.ntmps44
  go_wp2_with fail
  rw [← HWA.out]
  refine cn.mono ?_
  clear cn
  rintro e wb ⟨rfl, hbb⟩
  have hsb := hbb.size
  obtain ⟨wd, hwc⟩ : ∃ wd, wd = wb.alloc (.cells #[.int .i64 (M : Int), .slice none 0 0] 85) := ⟨_, rfl⟩
  have hsc : wd.heap.size = wb.heap.size + 1 := by rw [hwc]; simp
  have hbc : Below wb.heap.size wb wd := by rw [hwc]; exact (Below.refl _ _).alloc (Nat.le_refl _) _
  have hgc : wd.heap[wb.heap.size]? = some (.cells #[.int .i64 (M : Int), .slice none 0 0] 85 (0, 0)) := by rw [hwc]; exact World.alloc_heap_new _ _
  have HJ0 : Hid (LdJ w.heap.size w M os w.heap.size wb.heap.size 0 (.slice none 0 0) [] wd) := ⟨⟨rfl, World.ownsRow_nil _ _ _ _, fun j hj => by simp at hj⟩, hgc, (hbc.block _ (by omega)).trans ((hbb.block _ (by omega)).trans HRA.out), (HBA.out.trans (hbb.mono (by omega))).trans (hbc.mono (by omega)), by simp⟩
  obtain ⟨G, hG⟩ : ∃ G, G = wb.heap.size := ⟨_, rfl⟩
  have hGw : w.heap.size < G := by omega
  rw [← hG] at HJ0
  have HWC : Hid (wd = wb.alloc (.cells #[.int .i64 (M : Int), .slice none 0 0] 85)) := hwc
  clear hbb hbc hgc hwc hsc hsb hsa
  go_wp2
  rw [← hG, ← HWC.out]
  clear hG HWC
  go_loopw [7] (fun vi wr => ∃ (i : Nat) (vL : Value) (vs : List Value), i ≤ os.length ∧ vi = .int .i64 i ∧ LdJ w.heap.size w M os w.heap.size G i vL vs wr) (fun vi _ => os.length - (intOf vi).toNat)
  case atStart => exact ⟨0, _, _, Nat.zero_le _, rfl, HJ0.out⟩
  case round =>
    obtain ⟨i, vL, vs, hi, rfl, hJ⟩ := hrel
    have HJ : Hid (LdJ w.heap.size w M os w.heap.size G i vL vs wr) := hJ
    obtain ⟨g0, g1, gf⟩ := cellsH2 hJ.box
    obtain ⟨r0, r1, rf⟩ := cellsH2 hJ.res
    have rf0 := rf 0
    have rf1 := rf 1
    have hsw := hJ.below.size
    have hGl : G < wr.heap.size := (Array.getElem?_eq_some_iff.1 hJ.box).1
    have hRl : w.heap.size < wr.heap.size := (Array.getElem?_eq_some_iff.1 hJ.res).1
    clear hJ gf rf
    by_cases hlt : i < os.length
    · have hi2 : (i : Int) < os.length := by omega
      obtain ⟨ba, oa, ua, rfl, -, hla, q0, q1, hva⟩ := H1.out i hlt
      have hform := HFM.out i hlt ba oa c1 ua rfl q1
      obtain ⟨bu, cu, hua, z1, z2, -⟩ := hva.at
      subst hua
      have hxs := HS.out os[i] (List.getElem_mem hlt)
      have hxk := HK.out os[i] (List.getElem_mem hlt)
      obtain ⟨X, hX⟩ : ∃ X, X = os[i] := ⟨_, rfl⟩
      rw [← hX] at q0 q1 hva hxs hxk z1 hform
      have HX : Hid (X = os[i]) := hX
      have HOB : Hid (obB X (os.length : Int) = (X.2.all (fun x => cellV x (os.length : Int)) && (decide (X.1 = []) || nameQ X.1))) := obB_parts X _
      have t0 := (below_cell HJ.out.below hla).trans q0
      have t1 := (below_cell HJ.out.below hla).trans q1
      have hvr : valsIn T wr (.slice bu X.2.length cu) X.2 := hva.kept HJ.out.below.size fun k _ hk => HJ.out.below.block k hk
      have HVR : Hid (valsIn T wr (.slice bu X.2.length cu) X.2) := hvr
      have HFORM : Hid (Value.slice bu X.2.length cu = .slice none 0 0 ∨ ∃ ad n c, Value.slice bu X.2.length cu = .slice (some ad) n c) := hform
      have HXS : Hid (smallO X) := hxs
      have hnm := refName_any X.1 wr (by have := hxs.1; omega)
      have hce := fun W (h : Below wr.heap.size wr W) => refCells_any T X.2 (.slice bu X.2.length cu) (os.length : Int) W (hvr.kept h.size fun k _ hk => h.block k hk) hxs.2 hxk
      obtain ⟨OBX, hOBX⟩ : ∃ OBX, OBX = obB X (os.length : Int) := ⟨_, rfl⟩
      have HOBX : Hid (OBX = obB X (os.length : Int)) := hOBX
      rw [← hOBX] at HOB
      obtain ⟨tag, cs⟩ := X
      simp only at *
      obtain ⟨CB, hCB⟩ : ∃ CB, CB = cs.all (fun x => cellV x (os.length : Int)) := ⟨_, rfl⟩
      rw [← hCB] at HOB
      have HCE : Hid (∀ W, Below wr.heap.size wr W → Calls Tryz.prog 77 #[.slice bu cs.length cu, .int .i64 (os.length : Int)] W fun e w' => e = .returned (.bool CB) ∧ Below W.heap.size W w') := by rw [hCB]; exact hce
      clear q0 q1 hva hX hvr hform hxs hce hOBX hCB
      go_upto_region 5 with fail
      go_cut [41] from 10 to 59 (fun t wx => t = .bool (!OBX) ∧ Below wr.heap.size wr wx)
      case first =>
        by_cases htn : tag = []
        · subst htn
          have c := HCE.out wr (Below.refl _ _)
          have HE : Hid (OBX = CB) := by show _ = _; rw [HOB.out]; simp
          clear hnm
          cases CB with
          | true =>
            go_wp2_with fail
            refine c.mono ?_
            clear c
            rintro e w3 ⟨rfl, hb3⟩
            have HB3 : Hid (Below wr.heap.size wr w3) := hb3
            clear hb3
            go_wp2_with fail
            go_meet
            exact ⟨by rw [HE.out]; rfl, HB3.out⟩
          | false =>
            go_wp2_with fail
            refine c.mono ?_
            clear c
            rintro e w3 ⟨rfl, hb3⟩
            have HB3 : Hid (Below wr.heap.size wr w3) := hb3
            clear hb3
            go_wp2_with fail
            go_meet
            exact ⟨by rw [HE.out]; rfl, HB3.out⟩
        · have HE : Hid (OBX = (CB && nameQ tag)) := by show _ = _; rw [HOB.out]; simp [htn]
          obtain ⟨c0, c9, rfl⟩ := List.exists_cons_of_ne_nil htn
          cases hq : nameQ (c0 :: c9) with
          | false =>
            rw [hq] at hnm HE
            clear hq
            go_wp2_with fail
            refine hnm.mono ?_
            clear hnm
            rintro e w3 ⟨rfl, hb3⟩
            have HB3 : Hid (Below wr.heap.size wr w3) := hb3
            clear hb3
            go_wp2_with fail
            go_meet
            exact ⟨by rw [HE.out]; simp, HB3.out⟩
          | true =>
            rw [hq] at hnm HE
            clear hq
            go_wp2_with fail
            refine hnm.mono ?_
            clear hnm
            rintro e w3 ⟨rfl, hb3⟩
            have HB3 : Hid (Below wr.heap.size wr w3) := hb3
            have s1 := (below_cell hb3 (by omega)).trans t1
            have c := HCE.out w3 hb3
            clear hb3 t0 t1
            cases CB with
            | true =>
              go_wp2_with fail
              refine c.mono ?_
              clear c
              rintro e w4 ⟨rfl, hb4⟩
              have HB4 : Hid (Below wr.heap.size wr w4) := HB3.out.trans (hb4.mono HB3.out.size)
              clear hb4
              go_wp2_with fail
              go_meet
              exact ⟨by rw [HE.out]; rfl, HB4.out⟩
            | false =>
              go_wp2_with fail
              refine c.mono ?_
              clear c
              rintro e w4 ⟨rfl, hb4⟩
              have HB4 : Hid (Below wr.heap.size wr w4) := HB3.out.trans (hb4.mono HB3.out.size)
              clear hb4
              go_wp2_with fail
              go_meet
              exact ⟨by rw [HE.out]; rfl, HB4.out⟩
      case rest =>
        obtain ⟨rfl, hbc⟩ := hcut
        have hsc := hbc.size
        have HBc : Hid (Below wr.heap.size wr wc) := hbc
        obtain ⟨g0', g1', gf'⟩ := cellsH2 ((hbc.block G hGl).trans HJ.out.box)
        obtain ⟨r0', r1', rf'⟩ := cellsH2 ((hbc.block w.heap.size hRl).trans HJ.out.res)
        have rf0' := rf' 0
        have rf1' := rf' 1
        have t0' := (below_cell hbc (by omega)).trans t0
        have t1' := (below_cell hbc (by omega)).trans t1
        clear g0 g1 r0 r1 rf0 rf1 t0 t1 hnm HCE HOB
        cases OBX with
        | false =>
          have HBw : Hid (Below w.heap.size w ((wc.setCell ⟨w.heap.size, 0, none⟩ (.int .i64 0)).setCell ⟨w.heap.size, 1, none⟩ (.slice none 0 0))) := ((HJ.out.below.trans (hbc.mono hsw)).setCell (Nat.le_refl _) _).setCell (Nat.le_refl _) _
          obtain ⟨z0, z1⟩ := set2_cells ((hbc.block w.heap.size hRl).trans HJ.out.res) (.int .i64 0) (.slice none 0 0)
          clear hbc gf' rf' t0' t1' g0' g1'
          go_wp2
          exact bodyPost_ret (v := .tuple #[.agg #[.int .i64 0, .slice none 0 0], .int .i64 2]) (by simp [results, Tryz.results44, go_sem, z0, z1]) rfl ⟨HBw.out, .inl ⟨rfl, _, by rw [HX.out]; exact List.getElem_mem hlt, HOBX.out.symm⟩⟩
        | true =>
          have HOW : Hid (ObsOwn w.heap.size wc (os.take i) vL vs) := HJ.out.own.kept (fun q _ hq => hbc.block q hq)
          have HBwc : Hid (Below w.heap.size w wc) := HJ.out.below.trans (hbc.mono hsw)
          have HBOX : Hid (wc.heap[G]? = some (.cells #[.int .i64 (M : Int), vL] 85 (0, 0))) := (hbc.block G hGl).trans HJ.out.box
          have HRES : Hid (wc.heap[w.heap.size]? = some (.cells #[.int .i64 0, .slice none 0 0] 85 (0, 0))) := (hbc.block w.heap.size hRl).trans HJ.out.res
          have HVC : Hid (valsIn T wc (.slice bu cs.length cu) cs) := HVR.out.kept hbc.size fun k _ hk => hbc.block k hk
          have HTK : Hid (os.take (i + 1) = os.take i ++ [(tag, cs)]) := by show _ = _; rw [take_snoc hlt, ← HX.out]
          have HTL : Hid ((os.take i).length = i) := by show _ = _; rw [List.length_take]; omega
          have hwlt : w.heap.size < wc.heap.size := by omega
          have hGc : G < wc.heap.size := by omega
          have co : ∀ W, Below wc.heap.size wc W → Calls Tryz.prog 78 #[.slice bu cs.length cu] W fun e w5 => ∃ b5 c5, e = .returned (.slice b5 cs.length c5) ∧ w5.cell? ⟨G, 1, none⟩ = some vL ∧ (∀ ob, (w5.alloc ob).cell? ⟨G, 1, none⟩ = some vL) ∧ w5.cell? ⟨ba, oa + i * 2, none⟩ = some (.string (strB tag)) ∧ Hid (w5.ownsRow w.heap.size 54 3 (.slice b5 cs.length c5) cs.length (vlC cs)) ∧ Hid (Below wc.heap.size wc w5) := fun W hW => by
            refine (refOwn06_any T cs _ W (HVC.out.kept hW.size fun q _ hq => hW.block q hq) HFORM.out hxk).mono ?_
            rintro e w5 ⟨v5, rfl, ho5, hb5⟩
            have h5 : Below wc.heap.size wc w5 := hW.trans (hb5.mono hW.size)
            obtain ⟨b5, c5, rfl, -, -⟩ := own_val ho5.out
            refine ⟨b5, c5, rfl, (below_cell h5 hGc).trans g1', fun ob => Lib.cell?_alloc_some ob ((below_cell h5 hGc).trans g1'), (below_cell h5 (by omega)).trans t0', ?_, h5⟩
            refine ⟨ho5.out.1, ?_⟩
            rcases ho5.out.2 with h9 | ⟨g', c', cur, q1, q2, q3⟩
            · exact .inl h9
            · exact .inr ⟨g', c', cur, q1, by have := hW.size; omega, q3⟩
          have hBd : Below wc.heap.size wc wc.drew := (Below.refl _ _).drew
          have gf1 := gf' 1
          clear hbc gf' rf' rf0' rf1' r0' r1' g0'
          go_wp2_with fail
          go_region_law (first
            | (refine step_append_at (.tmp 44) (.tmp 57) 25 rfl (by rfl) w.heap.size 51 i0 _ 2 40 Tryz.underlying25 hi0 hz0 hz1 hz2 rfl (by decide) _ i _ rfl (HR5.out.alloc _) ⟨w5.heap.size, 0, none⟩ 1 1 [.string (strB tag), .slice b5 cs.length c5] rfl rfl (cells_new _ _ _) (by simp [Value.oneCell']) (by unfold maxLen; omega) (by omega) (by have := HB5.out.size; simp; omega) ?_
               intro v6 w6 hown6 hg6 hat6
               obtain ⟨b6, k6, rfl, hc61, hc62⟩ := own_val hown6
               have hne : vL.ownBlock ≠ some G := (fun e => by obtain ⟨cur, hc⟩ := own_type HOB5.out.row e; rw [HBX5.out] at hc; simp at hc)
               have hbk6 : w6.heap[G]? = some (.cells #[.int .i64 (M : Int), vL] 85 (0, 0)) := (hg6.block G (by have := HB5.out.size; simp; omega) (fun e => hne e.symm)).trans ((Below.heap_alloc _ _ _ (by have := HB5.out.size; omega)).trans HBX5.out)
               have f6 : w6.frozen? ⟨G, 1, none⟩ = false := (cellsH2 hbk6).2.2 1
               have d6 : w6.cell? ⟨G, 1, none⟩ = some vL := (cellsH2 hbk6).2.1
               have HBK6 : Hid (w6.heap[G]? = some (.cells #[.int .i64 (M : Int), vL] 85 (0, 0))) := hbk6
               have HO6 : Hid (ObsOwn w.heap.size w6 (os.take (i + 1)) (.slice b6 (i + 1) k6) (vs ++ [.slice b5 cs.length c5])) := (by show ObsOwn _ _ _ _ _; rw [HTK.out]; exact HOB5.out.snoc (o := (tag, cs)) HO5.out (by rw [HTL.out]; exact hown6) hg6)
               have HB6 : Hid (Below w.heap.size w w6) := (by have hB5 : Below w.heap.size w w5 := HBwc.out.trans (HB5.out.mono (by omega)); exact (hB5.alloc hB5.size _).grown hg6 (by have := hB5.size; simp; omega) (fun q hq => (HOB5.out.row.lt q hq).1))
               have HR6 : Hid (w6.heap[w.heap.size]? = some (.cells #[.int .i64 0, .slice none 0 0] 85 (0, 0))) := (by
                 show _ = _
                 rw [hg6.block w.heap.size (by have := HB5.out.size; simp; omega) (fun e => ?_), Below.heap_alloc _ _ _ (by have := HB5.out.size; omega), HB5.out.block _ hwlt]
                 · exact HRES.out
                 · obtain ⟨cur, hc⟩ := own_type HOB5.out.row e.symm; rw [HB5.out.block _ hwlt, HRES.out] at hc; simp at hc)
               clear hown6 hg6 hat6 hbk6 hne)
            | (go_simp
               go_at_call 78
               refine (co _ hBd).mono ?_
               rintro e w5 ⟨b5, c5, rfl, e1, e1', e2, HO5, HB5⟩
               have HOB5 : Hid (ObsOwn w.heap.size w5 (os.take i) vL vs) := HOW.out.kept (fun q _ hq => HB5.out.block q hq)
               have HBX5 : Hid (w5.heap[G]? = some (.cells #[.int .i64 (M : Int), vL] 85 (0, 0))) := (HB5.out.block G hGc).trans HBOX.out
               have HR5 : Hid (w5.ownsRow w.heap.size 51 2 vL i (obsC (os.take i) vs)) := (by have := HOB5.out.row; rw [HTL.out] at this; exact this)))
          all_goals
            have HJ9 : Hid (LdJ w.heap.size w M os w.heap.size G (i + 1) (.slice b6 (i + 1) k6) (vs ++ [.slice b5 cs.length c5]) (w6.setCell ⟨G, 1, none⟩ (.slice b6 (i + 1) k6))) := ⟨HO6.out.setBox HBK6.out (by decide) (by decide) (.slice b6 (i + 1) k6), setCellH_block (.slice b6 (i + 1) k6) HBK6.out, (Below.heap_setCell _ _ _ _ (by simp only; omega)).trans HR6.out, HB6.out.setCell (by simp only; omega) (.slice b6 (i + 1) k6), fun o ho => by
              rw [HTK.out] at ho
              rcases List.mem_append.1 ho with h9 | h9
              · exact HJ.out.ok o h9
              · rw [List.mem_singleton] at h9; subst h9; exact HOBX.out.symm⟩
            go_wp2
            exact ⟨⟨i + 1, (.slice b6 (i + 1) k6), _, by omega, by go_num, HJ9.out⟩, by simp [intOf]; omega⟩
    · obtain rfl : i = os.length := by omega
      have hi2 : ¬ (os.length : Int) < os.length := by omega
      have hall : ∀ o ∈ os, obB o (os.length : Int) = true := by have := HJ.out.ok; rwa [List.take_of_length_le (Nat.le_refl _)] at this
      have hown : ObsOwn w.heap.size wr os vL vs := by have := HJ.out.own; rwa [List.take_of_length_le (Nat.le_refl _)] at this
      obtain ⟨bL, cL, rfl, -, -⟩ := own_val hown.row
      have HC : Hid (∀ wx, Below wr.heap.size wr wx → Calls Tryz.prog 79 #[.agg #[.int .i64 (M : Int), .slice bL os.length cL]] wx fun e w'' => e = .returned (.int .i64 ((os.length + (allV os).length : Nat) : Int)) ∧ Below wr.heap.size wr w'') := fun wx hx => (refUsed_any _ M os (.slice bL os.length cL) wx (hown.read.kept hx.size fun q _ hq => hx.block q hq) (by have := HAL.out; omega)).mono fun e w'' ⟨he, hb⟩ => ⟨he, hx.trans (hb.mono hx.size)⟩
      have x0 := cls_cell (n := wr.heap.size) g0 (by simp only; omega)
      have x1 := cls_cell (n := wr.heap.size) g1 (by simp only; omega)
      have HAL9 : Hid (∀ o ∈ os, obB o (os.length : Int) = true) := hall
      have HOWN : Hid (ObsOwn w.heap.size wr os (.slice bL os.length cL) vs) := hown
      obtain ⟨U, hU⟩ : ∃ U : Nat, U = os.length + (allV os).length := ⟨_, rfl⟩
      have HU : Hid (U = os.length + (allV os).length) := hU
      rw [← hU] at HC
      clear hall hown hU rf0 rf1 r0 r1
      go_upto_region 8 with fail
      by_cases hfull : M < U
      · have hfi : (M : Int) < (U : Int) := by omega
        refine wp_region_cls (n := wr.heap.size) (w0 := wr) (Below.refl _ _) (by kernel_rfl) (by kernel_rfl) ?_
        go_big_quiet_step (fail)
        go_big_quiet_step (exact cls_calls HC.out _)
        iterate 3 (go_big_quiet_step (fail))
        refine wpQuiet_nil ?_
        rintro _ ⟨c, rfl⟩
        obtain ⟨r0, r1, rf⟩ := cellsH2 ((c.2.block w.heap.size hRl).trans HJ.out.res)
        have rf0 := rf 0
        have rf1 := rf 1
        have HBw : Hid (Below w.heap.size w ((c.1.setCell ⟨w.heap.size, 0, none⟩ (.int .i64 0)).setCell ⟨w.heap.size, 1, none⟩ (.slice none 0 0))) := ((HJ.out.below.trans (c.2.mono hsw)).setCell (Nat.le_refl _) _).setCell (Nat.le_refl _) _
        obtain ⟨z0, z1⟩ := set2_cells ((c.2.block w.heap.size hRl).trans HJ.out.res) (.int .i64 0) (.slice none 0 0)
        clear rf x0 x1 g0 g1
        go_wp2
        exact bodyPost_ret (v := .tuple #[.agg #[.int .i64 0, .slice none 0 0], .int .i64 12]) (by simp [results, Tryz.results44, go_sem, z0, z1]) rfl ⟨HBw.out, .inr (.inl ⟨rfl, HAL9.out, by rw [← HM.out, ← HU.out]; exact hfull⟩)⟩
      · have hfi : ¬ (M : Int) < (U : Int) := by omega
        refine wp_region_cls (n := wr.heap.size) (w0 := wr) (Below.refl _ _) (by kernel_rfl) (by kernel_rfl) ?_
        go_big_quiet_step (fail)
        go_big_quiet_step (exact cls_calls HC.out _)
        iterate 3 (go_big_quiet_step (fail))
        refine wpQuiet_nil ?_
        rintro _ ⟨c, rfl⟩
        obtain ⟨r0, r1, rf⟩ := cellsH2 ((c.2.block w.heap.size hRl).trans HJ.out.res)
        have rf0 := rf 0
        have rf1 := rf 1
        have HBw : Hid (Below w.heap.size w ((c.1.setCell ⟨w.heap.size, 0, none⟩ (.int .i64 (M : Int))).setCell ⟨w.heap.size, 1, none⟩ (.slice bL os.length cL))) := ((HJ.out.below.trans (c.2.mono hsw)).setCell (Nat.le_refl _) _).setCell (Nat.le_refl _) _
        have y0 := x0 c
        have y1 := x1 c
        obtain ⟨z0, z1⟩ := set2_cells ((c.2.block w.heap.size hRl).trans HJ.out.res) (.int .i64 (M : Int)) (.slice bL os.length cL)
        have HO9 : Hid (ObsAt w.heap.size ((c.1.setCell ⟨w.heap.size, 0, none⟩ (.int .i64 (M : Int))).setCell ⟨w.heap.size, 1, none⟩ (.slice bL os.length cL)) os (.slice bL os.length cL)) := by
          have h1 : ObsOwn w.heap.size c.1 os (.slice bL os.length cL) vs := HOWN.out.kept fun q _ hq => c.2.block q hq
          have h2 := (c.2.block w.heap.size hRl).trans HJ.out.res
          exact ⟨vs, (h1.setBox h2 (by decide) (by decide) _).setBox (setCellH_block _ h2) (by decide) (by decide) _⟩
        clear rf x0 x1 g0 g1
        go_wp2
        exact bodyPost_ret (v := .tuple #[.agg #[.int .i64 (M : Int), .slice bL os.length cL], .int .i64 0]) (by simp [results, Tryz.results44, go_sem, z0, z1]) rfl ⟨HBw.out, .inr (.inr ⟨HAL9.out, by rw [← HM.out, ← HU.out]; omega, _, by rw [← HM.out], HO9.out⟩)⟩
end Go.Proofs.YtbdgniiafdjmiaaGreatDoor
