/- code: how many results a unit has. -/
import Derived.Test.YtechkkphbajmoaaGreatDoorCEvery
import Derived.Deep.DeepCutAuto
import Derived.BigQuiet
namespace Go.Proofs.YtechkkphbajmoaaGreatDoor
open Go.RowKit Go.Shelf

abbrev unV (u : Un) (vi vv : Value) : Value := .agg #[.string (strB u.name), .int .i64 u.params, .int .i64 u.slots, .int .i64 u.stack, .bool u.result, vi, vv]
abbrev cdV (vs vh vu : Value) (m : Int) : Value := .agg #[vs, vh, vu, .int .i64 m]
def oneR (b : Bool) : Int := if b then 1 else 0

set_option maxRecDepth 100000 in
set_option maxHeartbeats 2000000 in
theorem cResults_any (u : Un) (bi bv : Option Addr) (ni ci nv cv : Nat) (w : World) :
    Calls Tryz.prog 145 #[unV u (.slice bi ni ci) (.slice bv nv cv)] w fun e w' => e = .returned (.int .i64 (oneR u.result)) ∧ Below w.heap.size w w' := by
  obtain ⟨name, params, slots, stack, result, ins, vars⟩ := u
  have HB : Hid (Below w.heap.size w (w.alloc (.cells #[.string (strB name), .int .i64 params, .int .i64 slots, .int .i64 stack, .bool result, .slice bi ni ci, .slice bv nv cv] 58))) := (Below.refl _ _).alloc (Nat.le_refl _) _
  cases result with
  | true =>
    go_enter Tryz.func145, Tryz.ntmps145
    go_wp2
    go_ret
    exact ⟨rfl, HB.out⟩
  | false =>
    go_enter Tryz.func145, Tryz.ntmps145
    go_wp2
    go_ret
    exact ⟨rfl, HB.out⟩

/-- The least and the greatest A. -/
def bndR (ns nh nu ni : Nat) (slots : Int) (res : Bool) (o : Int) : Int × Int :=
  if o = 1 then (-9223372036854775808, 9223372036854775807) else if o = 2 then (0, 1) else if o = 3 then (0, ns - 1) else if o = 4 then (0, slots - 1) else if o = 5 then (0, ni - 1) else if o = 6 then (0, nu - 1) else if o = 7 then (0, nh - 1) else if o = 8 then (oneR res, oneR res) else if o = 9 then (1, 256) else (0, 0)

set_option maxRecDepth 100000 in
set_option maxHeartbeats 4000000 in
theorem cbounds_1 (bs bh bu bi bv : Option Addr) (ns cs nh ch nu cu ni ci nv cv : Nat) (m : Int) (u : Un) (w : World) :
    Calls Tryz.prog 144 #[cdV (.slice bs ns cs) (.slice bh nh ch) (.slice bu nu cu) m, unV u (.slice bi ni ci) (.slice bv nv cv), .int .i64 1] w fun e w' => e = .returned (.tuple #[.int .i64 (-9223372036854775808), .int .i64 9223372036854775807]) ∧ Below w.heap.size w w' := by
  obtain ⟨name, params, slots, stack, result, ins, vars⟩ := u
  have HB : Hid (Below w.heap.size w ((w.alloc (.cells #[.slice bs ns cs, .slice bh nh ch, .slice bu nu cu, .int .i64 m] 26)).alloc (.cells #[.string (strB name), .int .i64 params, .int .i64 slots, .int .i64 stack, .bool result, .slice bi ni ci, .slice bv nv cv] 58))) := ((Below.refl _ _).alloc (Nat.le_refl _) _).alloc (by simp) _
  go_enter Tryz.func144, Tryz.ntmps144
  go_wp2
  go_ret2
  exact ⟨rfl, HB.out⟩

set_option maxRecDepth 100000 in
set_option maxHeartbeats 4000000 in
theorem cbounds_2 (bs bh bu bi bv : Option Addr) (ns cs nh ch nu cu ni ci nv cv : Nat) (m : Int) (u : Un) (w : World) :
    Calls Tryz.prog 144 #[cdV (.slice bs ns cs) (.slice bh nh ch) (.slice bu nu cu) m, unV u (.slice bi ni ci) (.slice bv nv cv), .int .i64 2] w fun e w' => e = .returned (.tuple #[.int .i64 0, .int .i64 1]) ∧ Below w.heap.size w w' := by
  obtain ⟨name, params, slots, stack, result, ins, vars⟩ := u
  have HB : Hid (Below w.heap.size w ((w.alloc (.cells #[.slice bs ns cs, .slice bh nh ch, .slice bu nu cu, .int .i64 m] 26)).alloc (.cells #[.string (strB name), .int .i64 params, .int .i64 slots, .int .i64 stack, .bool result, .slice bi ni ci, .slice bv nv cv] 58))) := ((Below.refl _ _).alloc (Nat.le_refl _) _).alloc (by simp) _
  go_enter Tryz.func144, Tryz.ntmps144
  go_wp2
  go_ret2
  exact ⟨rfl, HB.out⟩

set_option maxRecDepth 100000 in
set_option maxHeartbeats 4000000 in
theorem cbounds_9 (bs bh bu bi bv : Option Addr) (ns cs nh ch nu cu ni ci nv cv : Nat) (m : Int) (u : Un) (w : World) :
    Calls Tryz.prog 144 #[cdV (.slice bs ns cs) (.slice bh nh ch) (.slice bu nu cu) m, unV u (.slice bi ni ci) (.slice bv nv cv), .int .i64 9] w fun e w' => e = .returned (.tuple #[.int .i64 1, .int .i64 256]) ∧ Below w.heap.size w w' := by
  obtain ⟨name, params, slots, stack, result, ins, vars⟩ := u
  have HB : Hid (Below w.heap.size w ((w.alloc (.cells #[.slice bs ns cs, .slice bh nh ch, .slice bu nu cu, .int .i64 m] 26)).alloc (.cells #[.string (strB name), .int .i64 params, .int .i64 slots, .int .i64 stack, .bool result, .slice bi ni ci, .slice bv nv cv] 58))) := ((Below.refl _ _).alloc (Nat.le_refl _) _).alloc (by simp) _
  go_enter Tryz.func144, Tryz.ntmps144
  go_wp2
  go_ret2
  exact ⟨rfl, HB.out⟩

set_option maxRecDepth 100000 in
set_option maxHeartbeats 4000000 in
theorem cbounds_3 (bs bh bu bi bv : Option Addr) (ns cs nh ch nu cu ni ci nv cv : Nat) (m : Int) (u : Un) (hn : ns ≤ 1048576) (w : World) :
    Calls Tryz.prog 144 #[cdV (.slice bs ns cs) (.slice bh nh ch) (.slice bu nu cu) m, unV u (.slice bi ni ci) (.slice bv nv cv), .int .i64 3] w fun e w' => e = .returned (.tuple #[.int .i64 0, .int .i64 ((ns : Int) - 1)]) ∧ Below w.heap.size w w' := by
  obtain ⟨name, params, slots, stack, result, ins, vars⟩ := u
  have HB : Hid (Below w.heap.size w ((w.alloc (.cells #[.slice bs ns cs, .slice bh nh ch, .slice bu nu cu, .int .i64 m] 26)).alloc (.cells #[.string (strB name), .int .i64 params, .int .i64 slots, .int .i64 stack, .bool result, .slice bi ni ci, .slice bv nv cv] 58))) := ((Below.refl _ _).alloc (Nat.le_refl _) _).alloc (by simp) _
  go_enter Tryz.func144, Tryz.ntmps144
  go_upto_region 7 with fail
  go_quiet (fail)
  go_wp2
  go_ret2
  exact ⟨rfl, ⟨HB.out.os, HB.out.tape, HB.out.output, HB.out.size, HB.out.block⟩⟩

set_option maxRecDepth 100000 in
set_option maxHeartbeats 4000000 in
theorem cbounds_4 (bs bh bu bi bv : Option Addr) (ns cs nh ch nu cu ni ci nv cv : Nat) (m : Int) (u : Un) (hs : 0 ≤ u.slots ∧ u.slots ≤ 32) (w : World) :
    Calls Tryz.prog 144 #[cdV (.slice bs ns cs) (.slice bh nh ch) (.slice bu nu cu) m, unV u (.slice bi ni ci) (.slice bv nv cv), .int .i64 4] w fun e w' => e = .returned (.tuple #[.int .i64 0, .int .i64 (u.slots - 1)]) ∧ Below w.heap.size w w' := by
  obtain ⟨name, params, slots, stack, result, ins, vars⟩ := u
  have hs0 : 0 ≤ slots := hs.1
  have hs1 : slots ≤ 32 := hs.2
  have HB : Hid (Below w.heap.size w ((w.alloc (.cells #[.slice bs ns cs, .slice bh nh ch, .slice bu nu cu, .int .i64 m] 26)).alloc (.cells #[.string (strB name), .int .i64 params, .int .i64 slots, .int .i64 stack, .bool result, .slice bi ni ci, .slice bv nv cv] 58))) := ((Below.refl _ _).alloc (Nat.le_refl _) _).alloc (by simp) _
  go_enter Tryz.func144, Tryz.ntmps144
  go_upto_region 9 with fail
  go_quiet (fail)
  go_wp2
  go_ret2
  exact ⟨rfl, ⟨HB.out.os, HB.out.tape, HB.out.output, HB.out.size, HB.out.block⟩⟩

set_option maxRecDepth 100000 in
set_option maxHeartbeats 4000000 in
theorem cbounds_5 (bs bh bu bi bv : Option Addr) (ns cs nh ch nu cu ni ci nv cv : Nat) (m : Int) (u : Un) (hn : ni ≤ 1048576) (w : World) :
    Calls Tryz.prog 144 #[cdV (.slice bs ns cs) (.slice bh nh ch) (.slice bu nu cu) m, unV u (.slice bi ni ci) (.slice bv nv cv), .int .i64 5] w fun e w' => e = .returned (.tuple #[.int .i64 0, .int .i64 ((ni : Int) - 1)]) ∧ Below w.heap.size w w' := by
  obtain ⟨name, params, slots, stack, result, ins, vars⟩ := u
  have HB : Hid (Below w.heap.size w ((w.alloc (.cells #[.slice bs ns cs, .slice bh nh ch, .slice bu nu cu, .int .i64 m] 26)).alloc (.cells #[.string (strB name), .int .i64 params, .int .i64 slots, .int .i64 stack, .bool result, .slice bi ni ci, .slice bv nv cv] 58))) := ((Below.refl _ _).alloc (Nat.le_refl _) _).alloc (by simp) _
  go_enter Tryz.func144, Tryz.ntmps144
  go_upto_region 11 with fail
  go_quiet (fail)
  go_wp2
  go_ret2
  exact ⟨rfl, ⟨HB.out.os, HB.out.tape, HB.out.output, HB.out.size, HB.out.block⟩⟩

set_option maxRecDepth 100000 in
set_option maxHeartbeats 4000000 in
theorem cbounds_6 (bs bh bu bi bv : Option Addr) (ns cs nh ch nu cu ni ci nv cv : Nat) (m : Int) (u : Un) (hn : nu ≤ 1048576) (w : World) :
    Calls Tryz.prog 144 #[cdV (.slice bs ns cs) (.slice bh nh ch) (.slice bu nu cu) m, unV u (.slice bi ni ci) (.slice bv nv cv), .int .i64 6] w fun e w' => e = .returned (.tuple #[.int .i64 0, .int .i64 ((nu : Int) - 1)]) ∧ Below w.heap.size w w' := by
  obtain ⟨name, params, slots, stack, result, ins, vars⟩ := u
  have HB : Hid (Below w.heap.size w ((w.alloc (.cells #[.slice bs ns cs, .slice bh nh ch, .slice bu nu cu, .int .i64 m] 26)).alloc (.cells #[.string (strB name), .int .i64 params, .int .i64 slots, .int .i64 stack, .bool result, .slice bi ni ci, .slice bv nv cv] 58))) := ((Below.refl _ _).alloc (Nat.le_refl _) _).alloc (by simp) _
  go_enter Tryz.func144, Tryz.ntmps144
  go_upto_region 13 with fail
  go_quiet (fail)
  go_wp2
  go_ret2
  exact ⟨rfl, ⟨HB.out.os, HB.out.tape, HB.out.output, HB.out.size, HB.out.block⟩⟩

set_option maxRecDepth 100000 in
set_option maxHeartbeats 4000000 in
theorem cbounds_7 (bs bh bu bi bv : Option Addr) (ns cs nh ch nu cu ni ci nv cv : Nat) (m : Int) (u : Un) (hn : nh ≤ 1048576) (w : World) :
    Calls Tryz.prog 144 #[cdV (.slice bs ns cs) (.slice bh nh ch) (.slice bu nu cu) m, unV u (.slice bi ni ci) (.slice bv nv cv), .int .i64 7] w fun e w' => e = .returned (.tuple #[.int .i64 0, .int .i64 ((nh : Int) - 1)]) ∧ Below w.heap.size w w' := by
  obtain ⟨name, params, slots, stack, result, ins, vars⟩ := u
  have HB : Hid (Below w.heap.size w ((w.alloc (.cells #[.slice bs ns cs, .slice bh nh ch, .slice bu nu cu, .int .i64 m] 26)).alloc (.cells #[.string (strB name), .int .i64 params, .int .i64 slots, .int .i64 stack, .bool result, .slice bi ni ci, .slice bv nv cv] 58))) := ((Below.refl _ _).alloc (Nat.le_refl _) _).alloc (by simp) _
  go_enter Tryz.func144, Tryz.ntmps144
  go_upto_region 15 with fail
  go_quiet (fail)
  go_wp2
  go_ret2
  exact ⟨rfl, ⟨HB.out.os, HB.out.tape, HB.out.output, HB.out.size, HB.out.block⟩⟩

set_option maxRecDepth 100000 in
set_option maxHeartbeats 4000000 in
theorem cbounds_0 (bs bh bu bi bv : Option Addr) (ns cs nh ch nu cu ni ci nv cv : Nat) (m : Int) (u : Un) (o : Int) (ho : o < 1 ∨ 9 < o) (w : World) :
    Calls Tryz.prog 144 #[cdV (.slice bs ns cs) (.slice bh nh ch) (.slice bu nu cu) m, unV u (.slice bi ni ci) (.slice bv nv cv), .int .i64 o] w fun e w' => e = .returned (.tuple #[.int .i64 0, .int .i64 0]) ∧ Below w.heap.size w w' := by
  obtain ⟨name, params, slots, stack, result, ins, vars⟩ := u
  have HB : Hid (Below w.heap.size w ((w.alloc (.cells #[.slice bs ns cs, .slice bh nh ch, .slice bu nu cu, .int .i64 m] 26)).alloc (.cells #[.string (strB name), .int .i64 params, .int .i64 slots, .int .i64 stack, .bool result, .slice bi ni ci, .slice bv nv cv] 58))) := ((Below.refl _ _).alloc (Nat.le_refl _) _).alloc (by simp) _
  have e1 : (o == 1) = false := by rw [beq_eq_false_iff_ne]; omega
  have e2 : (o == 2) = false := by rw [beq_eq_false_iff_ne]; omega
  have e3 : (o == 3) = false := by rw [beq_eq_false_iff_ne]; omega
  have e4 : (o == 4) = false := by rw [beq_eq_false_iff_ne]; omega
  have e5 : (o == 5) = false := by rw [beq_eq_false_iff_ne]; omega
  have e6 : (o == 6) = false := by rw [beq_eq_false_iff_ne]; omega
  have e7 : (o == 7) = false := by rw [beq_eq_false_iff_ne]; omega
  have e8 : (o == 8) = false := by rw [beq_eq_false_iff_ne]; omega
  have e9 : (o == 9) = false := by rw [beq_eq_false_iff_ne]; omega
  clear ho
  go_enter Tryz.func144, Tryz.ntmps144
  go_wp2
  go_ret2
  exact ⟨rfl, HB.out⟩

theorem cells7 {w : World} {N : Nat} {x0 x1 x2 x3 x4 x5 x6 : Value} {ty : TypeId} (h : w.heap[N]? = some (.cells #[x0, x1, x2, x3, x4, x5, x6] ty (0, 0))) :
    w.cell? ⟨N, 0, none⟩ = some x0 ∧ w.cell? ⟨N, 1, none⟩ = some x1 ∧ w.cell? ⟨N, 2, none⟩ = some x2 ∧ w.cell? ⟨N, 3, none⟩ = some x3 ∧ w.cell? ⟨N, 4, none⟩ = some x4 ∧ w.cell? ⟨N, 5, none⟩ = some x5 ∧ w.cell? ⟨N, 6, none⟩ = some x6 := by
  refine ⟨?_, ?_, ?_, ?_, ?_, ?_, ?_⟩ <;> (simp only [World.cell?, h]; rfl)

set_option maxRecDepth 100000 in
set_option maxHeartbeats 4000000 in
theorem cbounds_8 (bs bh bu bi bv : Option Addr) (ns cs nh ch nu cu ni ci nv cv : Nat) (m : Int) (u : Un) (w : World) :
    Calls Tryz.prog 144 #[cdV (.slice bs ns cs) (.slice bh nh ch) (.slice bu nu cu) m, unV u (.slice bi ni ci) (.slice bv nv cv), .int .i64 8] w fun e w' => e = .returned (.tuple #[.int .i64 (oneR u.result), .int .i64 (oneR u.result)]) ∧ Below w.heap.size w w' := by
  obtain ⟨name, params, slots, stack, result, ins, vars⟩ := u
  have HB : Hid (Below w.heap.size w ((w.alloc (.cells #[.slice bs ns cs, .slice bh nh ch, .slice bu nu cu, .int .i64 m] 26)).alloc (.cells #[.string (strB name), .int .i64 params, .int .i64 slots, .int .i64 stack, .bool result, .slice bi ni ci, .slice bv nv cv] 58))) := ((Below.refl _ _).alloc (Nat.le_refl _) _).alloc (by simp) _
  obtain ⟨w2, hw2⟩ : ∃ w2, w2 = ((w.alloc (.cells #[.slice bs ns cs, .slice bh nh ch, .slice bu nu cu, .int .i64 m] 26)).alloc (.cells #[.string (strB name), .int .i64 params, .int .i64 slots, .int .i64 stack, .bool result, .slice bi ni ci, .slice bv nv cv] 58)) := ⟨_, rfl⟩
  rw [← hw2] at HB
  have HW2 : Hid (w2 = ((w.alloc (.cells #[.slice bs ns cs, .slice bh nh ch, .slice bu nu cu, .int .i64 m] 26)).alloc (.cells #[.string (strB name), .int .i64 params, .int .i64 slots, .int .i64 stack, .bool result, .slice bi ni ci, .slice bv nv cv] 58))) := hw2
  have hz2 : w2.heap.size = w.heap.size + 2 := by rw [hw2]; simp
  have hb2 : w2.heap[w.heap.size + 1]? = some (.cells #[.string (strB name), .int .i64 params, .int .i64 slots, .int .i64 stack, .bool result, .slice bi ni ci, .slice bv nv cv] 58 (0, 0)) := by
    rw [hw2]
    have := World.alloc_heap_new (w.alloc (.cells #[.slice bs ns cs, .slice bh nh ch, .slice bu nu cu, .int .i64 m] 26)) (.cells #[.string (strB name), .int .i64 params, .int .i64 slots, .int .i64 stack, .bool result, .slice bi ni ci, .slice bv nv cv] 58)
    simpa using this
  obtain ⟨p0, p1, p2, p3, p4, p5, p6⟩ := cells7 hb2
  have x0 := cls_cell (n := w2.heap.size) p0 (by simp only; omega)
  have x1 := cls_cell (n := w2.heap.size) p1 (by simp only; omega)
  have x2 := cls_cell (n := w2.heap.size) p2 (by simp only; omega)
  have x3 := cls_cell (n := w2.heap.size) p3 (by simp only; omega)
  have x4 := cls_cell (n := w2.heap.size) p4 (by simp only; omega)
  have x5 := cls_cell (n := w2.heap.size) p5 (by simp only; omega)
  have x6 := cls_cell (n := w2.heap.size) p6 (by simp only; omega)
  obtain ⟨R, hR⟩ : ∃ R, R = oneR result := ⟨_, rfl⟩
  have HC : Hid (∀ W, Below w2.heap.size w2 W → Calls Tryz.prog 145 #[.agg #[.string (strB name), .int .i64 params, .int .i64 slots, .int .i64 stack, .bool result, .slice bi ni ci, .slice bv nv cv]] W fun e w' => e = .returned (.int .i64 R) ∧ Below w2.heap.size w2 w') := fun W hW => by
    rw [hR]
    exact (cResults_any ⟨name, params, slots, stack, result, ins, vars⟩ bi bv ni ci nv cv W).mono fun e w' ⟨he, hb⟩ => ⟨he, hW.trans (hb.mono hW.size)⟩
  rw [← hR]
  clear hw2 hb2 p0 p1 p2 p3 p4 p5 p6 hR hz2
  go_enter Tryz.func144, Tryz.ntmps144
  go_upto_region 17 with fail
  rw [← HW2.out]
  refine wp_region_cls (n := w2.heap.size) (w0 := w2) (Below.refl _ _) (by kernel_rfl) (by kernel_rfl) ?_
  go_big_quiet_step (fail)
  go_big_quiet_step (exact cls_calls HC.out _)
  go_big_quiet_step (fail)
  go_big_quiet_step (exact cls_calls HC.out _)
  iterate 2 (go_big_quiet_step (fail))
  refine wpQuiet_nil ?_
  rintro _ ⟨c, rfl⟩
  go_wp2
  go_ret2
  exact ⟨rfl, HB.out.trans (c.2.mono HB.out.size)⟩

theorem cbounds_any (bs bh bu bi bv : Option Addr) (ns cs nh ch nu cu ni ci nv cv : Nat) (m : Int) (u : Un) (o : Int) (h1 : ns ≤ 1048576) (h2 : nh ≤ 1048576) (h3 : nu ≤ 1048576) (h4 : ni ≤ 1048576) (hs : 0 ≤ u.slots ∧ u.slots ≤ 32) (w : World) :
    Calls Tryz.prog 144 #[cdV (.slice bs ns cs) (.slice bh nh ch) (.slice bu nu cu) m, unV u (.slice bi ni ci) (.slice bv nv cv), .int .i64 o] w fun e w' => e = .returned (.tuple #[.int .i64 (bndR ns nh nu ni u.slots u.result o).1, .int .i64 (bndR ns nh nu ni u.slots u.result o).2]) ∧ Below w.heap.size w w' := by
  by_cases ho : o < 1 ∨ 9 < o
  · have e : bndR ns nh nu ni u.slots u.result o = (0, 0) := by unfold bndR; rw [if_neg (by omega), if_neg (by omega), if_neg (by omega), if_neg (by omega), if_neg (by omega), if_neg (by omega), if_neg (by omega), if_neg (by omega), if_neg (by omega)]
    rw [e]
    exact cbounds_0 bs bh bu bi bv ns cs nh ch nu cu ni ci nv cv m u o ho w
  have hc : o = 1 ∨ o = 2 ∨ o = 3 ∨ o = 4 ∨ o = 5 ∨ o = 6 ∨ o = 7 ∨ o = 8 ∨ o = 9 := by omega
  rcases hc with rfl | rfl | rfl | rfl | rfl | rfl | rfl | rfl | rfl
  · exact cbounds_1 bs bh bu bi bv ns cs nh ch nu cu ni ci nv cv m u w
  · exact cbounds_2 bs bh bu bi bv ns cs nh ch nu cu ni ci nv cv m u w
  · exact cbounds_3 bs bh bu bi bv ns cs nh ch nu cu ni ci nv cv m u h1 w
  · exact cbounds_4 bs bh bu bi bv ns cs nh ch nu cu ni ci nv cv m u hs w
  · exact cbounds_5 bs bh bu bi bv ns cs nh ch nu cu ni ci nv cv m u h4 w
  · exact cbounds_6 bs bh bu bi bv ns cs nh ch nu cu ni ci nv cv m u h3 w
  · exact cbounds_7 bs bh bu bi bv ns cs nh ch nu cu ni ci nv cv m u h2 w
  · exact cbounds_8 bs bh bu bi bv ns cs nh ch nu cu ni ci nv cv m u w
  · exact cbounds_9 bs bh bu bi bv ns cs nh ch nu cu ni ci nv cv m u w
end Go.Proofs.YtechkkphbajmoaaGreatDoor
