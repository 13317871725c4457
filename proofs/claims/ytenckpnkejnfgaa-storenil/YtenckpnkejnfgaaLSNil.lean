/- Of no store, and of one that nothing made, there is nothing. -/
import Derived.Test.YtenckpnkejnfgaaKLives2
namespace Go.Proofs.Ytenckpnkejnfgaa
open Go.RowKit

/-- No store, or one that nothing made. -/
def NoStore (w : World) (v : Value) : Prop := v = .pointer none ∨ ∃ h, v = .pointer (some ⟨h, 0, none⟩) ∧ w.cell? ⟨h, 0, none⟩ = some (.int .i64 0)
theorem NoStore.below {w w' : World} {v : Value} (h : NoStore w v) (hb : Below w.heap.size w w') : NoStore w' v := by
  rcases h with h | ⟨q, h, hc⟩
  · exact .inl h
  · exact .inr ⟨q, h, (kbelow_cell hb (World.block_lt_of_cell? w _ hc)).trans hc⟩
theorem kThere_no (v : Value) (w : World) (h : NoStore w v) : Calls Try.prog 20 #[v] w fun e w' => e = .returned (.bool false) ∧ w = w' := by
  rcases h with rfl | ⟨q, rfl, hc⟩
  · exact kThere_nil w
  · exact kThere_bare q w hc
theorem NoStore.ptr {w : World} {v : Value} (h : NoStore w v) : ∃ a, v = .pointer a := by
  rcases h with rfl | ⟨q, rfl, _⟩
  · exact ⟨_, rfl⟩
  · exact ⟨_, rfl⟩

set_option maxRecDepth 100000 in
theorem kFloor_no (a : Option Addr) (pos : Int) (w : World) (h : NoStore w (.pointer a)) : Calls Try.prog 13 #[.pointer a, .int .i64 pos] w fun e w' => e = .returned (.tuple #[.int .i64 0, .slice none 0 0, .bool false]) ∧ w = w' := by
  have HC := kThere_no _ w h
  clear h
  go_enter Try.func13, Try.ntmps13
  go_wp2_with fail
  refine HC.mono ?_
  rintro e w1 ⟨rfl, rfl⟩
  clear HC
  go_wp2
  go_ret3
  exact ⟨rfl, rfl⟩
set_option maxRecDepth 100000 in
theorem kPut_no (a : Option Addr) (pos : Int) (vb : Value) (w : World) (h : NoStore w (.pointer a)) : Calls Try.prog 12 #[.pointer a, .int .i64 pos, vb] w fun e w' => e = .returned (.int .i64 1) ∧ w = w' := by
  have HC := kThere_no _ w h
  clear h
  go_enter Try.func12, Try.ntmps12
  go_wp2_with fail
  refine HC.mono ?_
  rintro e w1 ⟨rfl, rfl⟩
  clear HC
  go_wp2
  go_ret
  exact ⟨rfl, rfl⟩
set_option maxRecDepth 100000 in
theorem kAll_no (a : Option Addr) (w : World) (h : NoStore w (.pointer a)) : Calls Try.prog 16 #[.pointer a] w fun e w' => e = .returned (.slice none 0 0) ∧ w = w' := by
  have HC := kThere_no _ w h
  clear h
  go_enter Try.func16, Try.ntmps16
  go_wp2_with fail
  refine HC.mono ?_
  rintro e w1 ⟨rfl, rfl⟩
  clear HC
  go_wp2
  go_ret
  exact ⟨rfl, rfl⟩

set_option maxHeartbeats 4000000 in
set_option maxRecDepth 100000 in
theorem snil_walk (pos : Int) (v : Value) (bs : List UInt8) (made : Bool) (w : World) (hv : bytesAt w v bs) :
    Calls Try.prog 7 #[.int .i64 pos, v, .bool made] w fun e w' => e = .returned (.bool true) ∧ Below w.heap.size w w' := by
  obtain ⟨base, cap, hvv, -⟩ := hv
  subst hvv
  cases made with
  | false =>
    have hno : Hid (NoStore w (.pointer none)) := .inl rfl
    go_enter Try.func7, Try.ntmps7
    go_wp2_with fail
    refine (kFloor_no none pos w hno.out).mono ?_
    rintro e w1 ⟨rfl, rfl⟩
    go_wp2_with fail
    refine (kPut_no none pos _ w hno.out).mono ?_
    rintro e w1 ⟨rfl, rfl⟩
    go_wp2_with fail
    refine (kAll_no none w hno.out).mono ?_
    rintro e w1 ⟨rfl, rfl⟩
    go_wp2_with fail
    refine (lives11_any w).mono ?_
    rintro e w1 ⟨rfl, hb⟩
    go_wp2
    go_ret
    exact ⟨rfl, hb⟩
  | true =>
    obtain ⟨w1, hw1⟩ : ∃ w1, w1 = w.alloc (.cells #[.int .i64 0, .slice none 0 0] 51) := ⟨_, rfl⟩
    have hblk : w1.heap[w.heap.size]? = some (.cells #[.int .i64 0, .slice none 0 0] 51 (0, 0)) := by rw [hw1]; exact heap_alloc_new _ _
    have HB1 : Hid (Below w.heap.size w w1) := by show Below _ _ _; rw [hw1]; exact (Below.refl _ w).alloc (Nat.le_refl _) _
    have hno : Hid (NoStore w1 (.pointer (some ⟨w.heap.size, 0, none⟩))) := .inr ⟨_, rfl, (kcells2 hblk).1⟩
    have hw1' := hw1.symm
    clear hblk hw1
    go_enter Try.func7, Try.ntmps7
    go_wp2_with fail
    refine (kFloor_no _ pos w1 hno.out).mono ?_
    rintro e w2 ⟨rfl, rfl⟩
    go_wp2_with fail
    refine (kPut_no _ pos _ w1 hno.out).mono ?_
    rintro e w2 ⟨rfl, rfl⟩
    go_wp2_with fail
    refine (kAll_no _ w1 hno.out).mono ?_
    rintro e w2 ⟨rfl, rfl⟩
    go_wp2_with fail
    refine (lives11_any w1).mono ?_
    rintro e w2 ⟨rfl, hb⟩
    go_wp2
    go_ret
    exact ⟨rfl, HB1.out.trans (hb.mono HB1.out.size)⟩
end Go.Proofs.Ytenckpnkejnfgaa
