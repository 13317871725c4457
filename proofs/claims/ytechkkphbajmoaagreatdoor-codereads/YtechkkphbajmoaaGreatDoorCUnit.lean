/- code: the closures that are asked of every variable and every instruction. -/
import Derived.Test.YtechkkphbajmoaaGreatDoorCVar
import Derived.Test.YtechkkphbajmoaaGreatDoorCIns
namespace Go.Proofs.YtechkkphbajmoaaGreatDoor
open Go.RowKit Go.Shelf

theorem heap_lt {w : World} {g : Nat} {o : Obj} (h : w.heap[g]? = some o) : g < w.heap.size := (Array.getElem?_eq_some_iff.1 h).1

set_option maxRecDepth 100000 in
set_option maxHeartbeats 4000000 in
theorem cUnit1_any (g : Nat) (u : Un) (bi bv : Option Addr) (ni ci nv cv : Nat) (x : Vr) (hs : 0 ≤ u.slots ∧ u.slots ≤ 32) (hl : x.name.length ≤ 1048576) (w : World) (ht : TabsP w)
    (hg : w.heap[g]? = some (.cells #[.string (strB u.name), .int .i64 u.params, .int .i64 u.slots, .int .i64 u.stack, .bool u.result, .slice bi ni ci, .slice bv nv cv] 58 (0, 0))) :
    Calls Tryz.prog 111 #[vrV x, .pointer (some ⟨g, 0, none⟩)] w fun e w' => e = .returned (.bool (varR u.slots ni x)) ∧ Below w.heap.size w w' := by
  obtain ⟨w1, hw1, hb1, HZ1, h1⟩ := box1 w (.cells #[.string (strB x.name), .int .i64 x.slot, .int .i64 x.lo, .int .i64 x.hi] 121)
  have HW1 : Hid (w1 = w.alloc (.cells #[.string (strB x.name), .int .i64 x.slot, .int .i64 x.lo, .int .i64 x.hi] 121)) := hw1
  have HB1 : Hid (Below w.heap.size w w1) := hb1
  have c := cRightVar_any u bi bv ni ci nv cv x hs hl w1 (ht.below hb1 (Nat.le_refl _))
  obtain ⟨R, hR⟩ : ∃ R, R = varR u.slots ni x := ⟨_, rfl⟩
  rw [← hR] at c ⊢
  obtain ⟨a0, a1, a2, a3, a4, a5, a6⟩ := cells7 hg
  have hgl := heap_lt hg
  clear hw1 hb1 h1 hR ht hl hs hg HZ1
  go_enter Tryz.func111, Tryz.ntmps111
  go_wp2_with fail
  rw [← HW1.out]
  refine c.mono ?_
  clear c
  rintro e w2 ⟨rfl, hb2⟩
  have HB2 : Hid (Below w.heap.size w w2) := HB1.out.trans (hb2.mono HB1.out.size)
  clear hb2
  go_wp2
  go_ret
  exact ⟨rfl, HB2.out⟩

set_option maxRecDepth 100000 in
set_option maxHeartbeats 4000000 in
theorem cUnit2_any (k g : Nat) (bs bh bu bi bv : Option Addr) (ns cs nh ch nu cu ni ci nv cv : Nat) (m : Int) (u : Un) (x : In7) (h1 : ns ≤ 1048576) (h2 : nh ≤ 1048576) (h3 : nu ≤ 1048576) (h4 : ni ≤ 1048576) (hs : 0 ≤ u.slots ∧ u.slots ≤ 32) (w : World) (ht : OpT w)
    (hk : w.heap[k]? = some (.cells #[.slice bs ns cs, .slice bh nh ch, .slice bu nu cu, .int .i64 m] 26 (0, 0)))
    (hg : w.heap[g]? = some (.cells #[.string (strB u.name), .int .i64 u.params, .int .i64 u.slots, .int .i64 u.stack, .bool u.result, .slice bi ni ci, .slice bv nv cv] 58 (0, 0))) :
    Calls Tryz.prog 114 #[inV x, .pointer (some ⟨k, 0, none⟩), .pointer (some ⟨g, 0, none⟩)] w fun e w' => e = .returned (.bool (insR ns nh nu ni u.slots u.result x)) ∧ Below w.heap.size w w' := by
  obtain ⟨w1, hw1, hb1, HZ1, hx⟩ := box1 w (.cells #[.int .i64 x.op, .int .i64 x.a] 62)
  have HW1 : Hid (w1 = w.alloc (.cells #[.int .i64 x.op, .int .i64 x.a] 62)) := hw1
  have HB1 : Hid (Below w.heap.size w w1) := hb1
  have c := cRightIns_any bs bh bu bi bv ns cs nh ch nu cu ni ci nv cv m u x h1 h2 h3 h4 hs w1 (ht.below hb1 (Nat.le_refl _))
  obtain ⟨R, hR⟩ : ∃ R, R = insR ns nh nu ni u.slots u.result x := ⟨_, rfl⟩
  rw [← hR] at c ⊢
  obtain ⟨a0, a1, a2, a3, a4, a5, a6⟩ := cells7 hg
  obtain ⟨b0, b1, b2, b3⟩ := bcells4 hk
  have hgl := heap_lt hg
  have hkl := heap_lt hk
  clear hw1 hb1 hx hR ht hs hg hk HZ1 h1 h2 h3 h4
  go_enter Tryz.func114, Tryz.ntmps114
  go_wp2_with fail
  rw [← HW1.out]
  refine c.mono ?_
  clear c
  rintro e w2 ⟨rfl, hb2⟩
  have HB2 : Hid (Below w.heap.size w w2) := HB1.out.trans (hb2.mono HB1.out.size)
  clear hb2
  go_wp2
  go_ret
  exact ⟨rfl, HB2.out⟩
end Go.Proofs.YtechkkphbajmoaaGreatDoor
