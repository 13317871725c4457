/- store: is it there; New; bytes.Clone; cmp.Compare. -/
import Derived.Test.YtancnmbgncofiaaKBase
namespace Go.Proofs.Ytancnmbgncofiaa
open Go.RowKit

set_option maxRecDepth 100000 in
theorem kThere_nil (w : World) : Calls Try.prog 15 #[.pointer none] w fun e w' => e = .returned (.bool false) ∧ w = w' := by
  go_enter Try.func15, Try.ntmps15
  go_wp2
  go_ret
  exact ⟨rfl, rfl⟩

set_option maxRecDepth 100000 in
theorem kThere_bare (h : Nat) (w : World) (h0 : w.cell? ⟨h, 0, none⟩ = some (.int .i64 0)) : Calls Try.prog 15 #[.pointer (some ⟨h, 0, none⟩)] w fun e w' => e = .returned (.bool false) ∧ w = w' := by
  go_enter Try.func15, Try.ntmps15
  go_wp2
  go_ret
  exact ⟨rfl, rfl⟩

set_option maxRecDepth 100000 in
theorem kThere_any (most : Nat) (ks : List Kp) (h : Nat) (vk : Value) (w : World) (H : StIn w most ks h vk) : Calls Try.prog 15 #[.pointer (some ⟨h, 0, none⟩)] w fun e w' => e = .returned (.bool true) ∧ w = w' := by
  have m1 := H.m1
  have m64 := H.m64
  obtain ⟨h0, -, -⟩ := kcells2 H.blk
  have hd : decide ((0 : Int) < (most : Int)) = true := by simp; omega
  have hd2 : decide (0 < most) = true := by simp; omega
  clear H
  go_enter Try.func15, Try.ntmps15
  go_wp2
  go_ret
  exact ⟨rfl, rfl⟩

/-- How many a store may keep. -/
def kMost (m : Int) : Nat := (min (max m 1) 64).toNat
theorem kMost_int (m : Int) : ((kMost m : Nat) : Int) = min (max m 1) 64 := by unfold kMost; omega

theorem StIn.made (w : World) (m : Nat) (h1 : 1 ≤ m) (hm : m ≤ 64) : StIn (w.alloc (.cells #[.int .i64 (m : Int), .slice none 0 0] 47)) m [] w.heap.size (.slice none 0 0) where
  blk := heap_alloc_new _ _
  row := World.ownsRow_nil _ _ _ _
  its := fun o ho => by cases ho
  m1 := h1
  m64 := hm
  few := by simp
  rise := List.Pairwise.nil

set_option maxRecDepth 100000 in
theorem kNew_any (m : Int) (w : World) :
    Calls Try.prog 4 #[.int .i64 m] w fun e w' => e = .returned (.pointer (some ⟨w.heap.size, 0, none⟩)) ∧ StIn w' (kMost m) [] w.heap.size (.slice none 0 0) ∧ Below w.heap.size w w' ∧ w'.heap.size = w.heap.size + 1 := by
  have HM := StIn.made w (kMost m) (by unfold kMost; omega) (by unfold kMost; omega)
  rw [kMost_int] at HM
  have HMM : Hid (StIn (w.alloc (.cells #[.int .i64 (min (max m 1) 64), .slice none 0 0] 47)) (kMost m) [] w.heap.size (.slice none 0 0)) := HM
  clear HM
  go_enter Try.func4, Try.ntmps4
  go_wp2
  go_ret
  exact ⟨rfl, HMM.out, (Below.refl _ w).alloc (Nat.le_refl _) _, by simp⟩

set_option maxHeartbeats 1000000 in
set_option maxRecDepth 100000 in
theorem kClone_any (v : Value) (bs : List UInt8) (w : World) (hv : bytesAt w v bs) (hb : bs.length ≤ 140737488355328) :
    Calls Try.prog 16 #[v] w fun e w' => ∃ v', e = .returned v' ∧ w'.ownsRow w.heap.size 5 1 v' bs.length (Lib.byteCells bs) ∧ Below w.heap.size w w' := by
  obtain ⟨i0, hi, hz0, hz1, hz2⟩ := info_parts info_u8
  obtain ⟨base, cap, rfl, hn, h1, h2, hc⟩ := hv
  cases base with
  | none =>
    obtain ⟨rfl, rfl⟩ := hn rfl
    have heq := fun (wx : World) => Lib.run_eql_slice_nil (P := Try.prog) wx 36 5 none 0 0 0 0 Try.underlying36
    clear hc hn
    show Calls Try.prog 16 #[.slice none 0 0] w _
    go_enter Try.func16, Try.ntmps16
    go_wp2
    go_ret
    exact ⟨_, rfl, World.ownsRow_nil _ _ _ _, Below.refl _ _⟩
  | some a =>
    have heq := fun (wx : World) => Lib.run_eql_slice_nil (P := Try.prog) wx 36 5 (some a) bs.length cap 0 0 Try.underlying36
    have hc' := hc a rfl
    clear hc hn
    have hl0 : (w.alloc (.cells #[] 5)).ownsRow w.heap.size 5 1 (.slice (some ⟨w.heap.size, 0, none⟩) 0 0) 0 [] := World.ownsRow_made w #[] 0 (Nat.le_refl _) (Nat.zero_le _) rfl
    go_enter Try.func16, Try.ntmps16
    go_wp2_with (at_builtin; refine wpList_append_own _ rfl _ _ 36 rfl w.heap.size 5 i0 (.int .u8 0) 1 1 Try.underlying36 hi hz0 hz1 hz2 rfl (by decide) _ _ _ rfl hl0 a bs.length cap (Lib.byteCells bs) rfl ?c0 ?c1 ?c2 ?c3 ?c4 ?c5 ?_)
    case c0 => rw [Lib.byteCells_length, Nat.mul_one]
    case c1 => intro j u hj; exact Lib.cell?_alloc_some _ (hc' j u hj)
    case c2 => exact bytes_one bs
    case c3 => omega
    case c4 => omega
    case c5 => simp
    intro v' w1 hown' hgrow _
    go_wp2
    go_ret
    refine ⟨v', rfl, by simpa using hown', ?_⟩
    exact ((Below.refl _ _).alloc (Nat.le_refl _) _).grown hgrow (by simp) (fun k hk => (hl0.lt k hk).1)

set_option maxRecDepth 100000 in
theorem kNaN_any (a : Int) (w : World) : Calls Try.prog 27 #[.int .i64 a] w fun e w' => e = .returned (.bool false) ∧ w = w' := by
  have hb : (a != a) = false := by simp
  go_enter Try.func27, Try.ntmps27
  go_wp2
  go_ret
  exact ⟨rfl, rfl⟩

/-- How two numbers compare. -/
def kCmp (a b : Int) : Int := if a < b then -1 else if b < a then 1 else 0
set_option maxRecDepth 100000 in
theorem kCmp_any (a b : Int) (w : World) : Calls Try.prog 23 #[.int .i64 a, .int .i64 b] w fun e w' => e = .returned (.int .i64 (kCmp a b)) ∧ w = w' := by
  have c1 := fun W => kNaN_any a W
  have c2 := fun W => kNaN_any b W
  by_cases h1 : a < b
  · have HK : Hid (kCmp a b = -1) := by show _ = _; unfold kCmp; rw [if_pos h1]
    go_enter Try.func23, Try.ntmps23
    go_wp2_with (first | (refine (c1 _).mono ?_; rintro e w' ⟨rfl, rfl⟩) | (refine (c2 _).mono ?_; rintro e w' ⟨rfl, rfl⟩))
    go_ret
    exact ⟨by rw [HK.out]; rfl, rfl⟩
  · by_cases h2 : b < a
    · have HK : Hid (kCmp a b = 1) := by show _ = _; unfold kCmp; rw [if_neg h1, if_pos h2]
      go_enter Try.func23, Try.ntmps23
      go_wp2_with (first | (refine (c1 _).mono ?_; rintro e w' ⟨rfl, rfl⟩) | (refine (c2 _).mono ?_; rintro e w' ⟨rfl, rfl⟩))
      go_ret
      exact ⟨by rw [HK.out]; rfl, rfl⟩
    · have HK : Hid (kCmp a b = 0) := by show _ = _; unfold kCmp; rw [if_neg h1, if_neg h2]
      go_enter Try.func23, Try.ntmps23
      go_wp2_with (first | (refine (c1 _).mono ?_; rintro e w' ⟨rfl, rfl⟩) | (refine (c2 _).mono ?_; rintro e w' ⟨rfl, rfl⟩))
      go_ret
      exact ⟨by rw [HK.out]; rfl, rfl⟩

set_option maxRecDepth 100000 in
/-- The closure of find: one that is kept against a position. -/
theorem kCmpK_any (k : Int) (v : Value) (pos : Int) (w : World) : Calls Try.prog 22 #[.agg #[.int .i64 k, v], .int .i64 pos] w fun e w' => e = .returned (.int .i64 (kCmp k pos)) ∧ Below w.heap.size w w' := by
  go_enter Try.func22, Try.ntmps22
  go_wp2_with (go_at_call 23; refine (kCmp_any _ _ _).mono ?_; rintro e w' ⟨rfl, rfl⟩)
  go_ret
  exact ⟨rfl, (Below.refl _ w).alloc (Nat.le_refl _) _⟩
end Go.Proofs.Ytancnmbgncofiaa
