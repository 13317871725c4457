/- heap: an object's cells where they stand. -/
import Derived.Test.YtchpmnmngeebjaaGreatDoorHFind
namespace Go.Proofs.YtchpmnmngeebjaaGreatDoor
open Go.RowKit Go.Shelf

set_option maxRecDepth 100000 in
set_option maxHeartbeats 4000000 in
theorem cellsOf_any {S : Nat → Prop} {most : Nat} {os : List Ob} {h : Nat} {vo vc : Value} (i : Nat) (hi : i < os.length) (w : World) (H : HpIn S w most os h vo vc) :
    Calls Tryz.prog 37 #[.pointer (some ⟨h, 0, none⟩), foundO os i hi] w fun e w' => ∃ base, e = .returned (.slice base (os[i]).2.length (os[i]).2.length) ∧ Below w.heap.size w w' ∧ (1 ≤ (os[i]).2.length → ∃ g n cp, vc = .slice (some ⟨g, 0, none⟩) n cp ∧ base = some ⟨g, fromO os i * 3, none⟩) := by
  have huse := H.use
  have hmay := H.may
  obtain ⟨hcut, -⟩ := allV_cut os i hi
  obtain ⟨w2, hw2⟩ : ∃ w2, w2 = w.alloc (.cells #[.string (strB (os[i]).1), .int .i64 ((fromO os i : Nat) : Int), .int .i64 ((fromO os i + (os[i]).2.length : Nat) : Int)] 79) := ⟨_, rfl⟩
  have hb2 : Below w.heap.size w w2 := by rw [hw2]; exact (Below.refl _ w).alloc (Nat.le_refl _) _
  have b0 : w2.heap[w.heap.size]? = some (.cells #[.string (strB (os[i]).1), .int .i64 ((fromO os i : Nat) : Int), .int .i64 ((fromO os i + (os[i]).2.length : Nat) : Int)] 79 (0, 0)) := by rw [hw2]; exact World.alloc_heap_new _ _
  have H2 := H.below hb2
  obtain ⟨-, -, -, c3, -⟩ := cells4 H2.blk
  obtain ⟨cb, cc, hvc, hc1, hc2⟩ := own_val H2.cells
  have HCB : Hid (cb = none ∧ (allV os).length = 0 ∧ cc = 0 ∨ ∃ g, cb = some ⟨g, 0, none⟩) := by
    show _ ∨ _
    rcases H2.cells.2 with ⟨h1, h2⟩ | ⟨g', cap', cur, h1, -⟩
    · rw [h1] at hvc
      have e := hvc
      simp only [Value.slice.injEq] at e
      exact .inl ⟨e.1.symm, h2, e.2.2.symm⟩
    · rw [h1] at hvc
      simp only [Value.slice.injEq] at hvc
      exact .inr ⟨g', hvc.1.symm⟩
  subst hvc
  obtain ⟨p0, p1, p2, -⟩ := cellsH3 b0
  have HB2 : Hid (Below w.heap.size w w2) := hb2
  obtain ⟨n, hn⟩ : ∃ n, n = (os[i]).2.length := ⟨_, rfl⟩
  obtain ⟨fr, hfr⟩ : ∃ fr : Nat, fr = fromO os i := ⟨_, rfl⟩
  obtain ⟨up, hup⟩ : ∃ up : Int, up = ((fromO os i + (os[i]).2.length : Nat) : Int) := ⟨_, rfl⟩
  have hw2' := hw2.symm
  unfold foundO
  rw [← hup] at p2 hw2' ⊢
  rw [← hfr] at p1 hw2' hcut ⊢
  rw [← hn] at hcut ⊢
  rw [← hfr, ← hn] at hup
  have u1 : (fr : Int) ≤ up := by omega
  have u2 : up ≤ (cc : Int) := by omega
  have u3 : up - (fr : Int) = (n : Int) := by omega
  have u4 : (up - (fr : Int)).toNat = n := by omega
  have HUP : Hid (up = ((fr + n : Nat) : Int)) := hup
  obtain ⟨tg, htg⟩ : ∃ tg, tg = (os[i]).1 := ⟨_, rfl⟩
  rw [← htg] at p0 hw2' ⊢
  obtain ⟨fi, hfi⟩ : ∃ fi : Int, fi = (fr : Int) := ⟨_, rfl⟩
  rw [← hfi] at p1 hw2' u1 u3 u4 ⊢
  have u0 : 0 ≤ fi := by omega
  have u5 : fi.toNat = fr := by omega
  have u6 : up.toNat - fr = n := by omega
  clear hn hfr htg hup hw2 b0 hb2 H2 H
  rcases HCB.out with ⟨rfl, h0, rfl⟩ | ⟨g, rfl⟩
  · obtain rfl : n = 0 := by omega
    obtain rfl : fi = 0 := by omega
    obtain rfl : up = 0 := by omega
    clear u0 u1 u2 u3 u4 u5 u6 hfi HUP HCB
    rw [h0] at c3
    go_enter Tryz.func37, Tryz.ntmps37
    go_wp2_with fail
    go_quiet (fail)
    go_wp2
    go_ret
    exact ⟨_, rfl, below_drewH HB2.out _, fun h => by omega⟩
  · clear HCB hfi HUP
    rcases Nat.eq_zero_or_pos n with h0 | h0
    · subst h0
      have u7 : up.toNat = fr := by omega
      go_enter Tryz.func37, Tryz.ntmps37
      go_wp2_with fail
      go_quiet (fail)
      go_wp2
      go_ret
      exact ⟨_, rfl, below_drewH HB2.out _, fun h => by omega⟩
    · have u7 : ¬ up.toNat = fr := by omega
      go_enter Tryz.func37, Tryz.ntmps37
      go_wp2_with fail
      go_quiet (fail)
      go_wp2
      go_ret
      exact ⟨_, rfl, below_drewH HB2.out _, fun _ => ⟨g, _, _, rfl, rfl⟩⟩
end Go.Proofs.YtchpmnmngeebjaaGreatDoor
