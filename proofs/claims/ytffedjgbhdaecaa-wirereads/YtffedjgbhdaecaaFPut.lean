/- frame.Put: the frame of some bytes behind others. -/
import Derived.Test.YtffedjgbhdaecaaFBytes
import Derived.Test.YtffedjgbhdaecaaWPuts
namespace Go.Proofs.Ytffedjgbhdaecaa
open Go.RowKit

/-- A frame's length and its bytes. -/
def headB (xs : List UInt8) : List UInt8 := numB xs.length ++ xs
/-- A frame. -/
def frameB (xs : List UInt8) : List UInt8 := headB xs ++ leB (sumB (headB xs))

theorem more_more (s : Nat) (hs : s < 4294967296) (a b : List UInt8) : moreB (moreB s a) b = moreB s (a ++ b) := by
  unfold moreB
  have h := reg_lt a (s := 4294967295 - s) (by omega)
  rw [reg_append]
  congr 2
  omega

theorem leB_len (s : Nat) : (leB s).length = 4 := rfl
theorem leB_four (s : Nat) : ∃ a b c d : UInt8, leB s = [a, b, c, d] := ⟨_, _, _, _, rfl⟩

set_option maxRecDepth 100000 in
theorem concat4 (g : Nat) (v0 v1 v2 v3 : Value) (b0 b1 b2 b3 : List UInt8) (w : World) (h0 : w.cell? ⟨g, 0, none⟩ = some v0) (h1 : w.cell? ⟨g, 1, none⟩ = some v1) (h2 : w.cell? ⟨g, 2, none⟩ = some v2) (h3 : w.cell? ⟨g, 3, none⟩ = some v3)
    (hb0 : bytesAt w v0 b0) (hb1 : bytesAt w v1 b1) (hb2 : bytesAt w v2 b2) (hb3 : bytesAt w v3 b3) (hl : b0.length + b1.length + b2.length + b3.length ≤ 140737488355328) :
    Calls Try.prog 41 #[.slice (some ⟨g, 0, none⟩) 4 4] w fun e w' => ∃ v, e = .returned v ∧
      w'.ownsRow w.heap.size 5 1 v (b0 ++ (b1 ++ (b2 ++ b3))).length (Lib.byteCells (b0 ++ (b1 ++ (b2 ++ b3)))) ∧ Below w.heap.size w w' := by
  have h := concat_any g 4 [(v0, b0), (v1, b1), (v2, b2), (v3, b3)] w
    (fun j p hj => by
      match j, hj with
      | 0, hj => simp at hj; subst hj; exact h0
      | 1, hj => simp at hj; subst hj; exact h1
      | 2, hj => simp at hj; subst hj; exact h2
      | 3, hj => simp at hj; subst hj; exact h3)
    (fun p hp => by
      simp at hp
      rcases hp with rfl | rfl | rfl | rfl
      · exact hb0
      · exact hb1
      · exact hb2
      · exact hb3) (by simp) (by simp [catB]; omega)
  have e : catB [(v0, b0), (v1, b1), (v2, b2), (v3, b3)] [(v0, b0), (v1, b1), (v2, b2), (v3, b3)].length = b0 ++ (b1 ++ (b2 ++ b3)) := by simp [catB]
  rw [e] at h
  exact h

set_option maxHeartbeats 2000000 in
set_option maxRecDepth 100000 in
theorem put_any (v x : Value) (bs xs : List UInt8) (w : World) (hv : bytesAt w v bs) (hx : bytesAt w x xs) (hl : xs.length ≤ 1048576) (hb : bs.length + xs.length + 14 ≤ 140737488355328) :
    Calls Try.prog 22 #[v, x] w fun e w' => ∃ v', e = .returned (.tuple #[v', .int .i64 0]) ∧
      w'.ownsRow w.heap.size 5 1 v' (bs ++ frameB xs).length (Lib.byteCells (bs ++ frameB xs)) ∧ Below w.heap.size w w' := by
  have HV : Hid (bytesAt w v bs) := hv
  have HX : Hid (bytesAt w x xs) := hx
  have hxm := bytesAt_len hx
  obtain ⟨base, cap, rfl, hrest⟩ := hv
  obtain ⟨base2, cap2, rfl, hrest2⟩ := hx
  clear hrest hrest2
  go_enter Try.func22, Try.ntmps22
  go_wp2_with fail
  refine (putInt_any _ [] xs.length (by omega) (by omega) w (bytesAt_nil w) (by simp)).mono ?_
  rintro e w1 ⟨v1, rfl, hown1, hb1⟩
  rw [List.nil_append] at hown1
  have hB1 := bytesAt_own hown1
  have HB1 : Hid (bytesAt w1 v1 (numB xs.length)) := hB1
  obtain ⟨base1, cap1, rfl, hrest⟩ := hB1
  clear hrest
  have hsz1 := hb1.size
  have hnl := numB_len (n := xs.length) (by omega) (by omega)
  obtain ⟨-, hr1, hc1, hc2⟩ := bytesAt_row HB1.out
  have HX1 : Hid (bytesAt w1 (.slice base2 xs.length cap2) xs) := bytesAt_below HX.out hb1 (Nat.le_refl _)
  obtain ⟨-, hr2, -, -⟩ := bytesAt_row HX1.out
  go_wp2_with fail
  refine (sum_any _ (numB xs.length) _ w1 hr1 (by unfold maxLen; omega)).mono ?_
  rintro e w2 ⟨rfl, rfl⟩
  go_wp2_with fail
  refine (more_any (sumB (numB xs.length)) (moreB_lt _ _) _ xs _ w1 hr2 hxm).mono ?_
  rintro e w2 ⟨rfl, rfl⟩
  have hmm : moreB (sumB (numB xs.length)) xs = sumB (headB xs) := by unfold sumB headB; rw [more_more _ (by decide)]
  rw [hmm]
  clear hmm
  go_wp2_with fail
  obtain ⟨t0, t1, t2, t3, ht⟩ := leB_four (sumB (headB xs))
  refine (sumBytes_any (sumB (headB xs)) (moreB_lt _ _) w1).mono ?_
  rintro e w2 ⟨rfl, hb2⟩
  rw [ht]
  have HT : Hid (leB (sumB (headB xs)) = [t0, t1, t2, t3]) := ht
  clear ht
  have hbc : Lib.byteCells [t0, t1, t2, t3] = [.int .u8 t0.toNat, .int .u8 t1.toNat, .int .u8 t2.toNat, .int .u8 t3.toNat] := rfl
  rw [hbc]
  have hsz2 := hb2.size
  go_wp2_with fail
  have HB4 : Hid (bytesAt (w2.alloc (.cells #[.int .u8 t0.toNat, .int .u8 t1.toNat, .int .u8 t2.toNat, .int .u8 t3.toNat] 75)) (.slice (some ⟨w2.heap.size, 0, none⟩) 4 4) [t0, t1, t2, t3]) :=
    bytesAt_lit rfl (by decide) (fun j u hj => by
      rw [hbc] at hj
      match j, hj with
      | 0, hj => simp at hj; subst hj; simp
      | 1, hj => simp at hj; subst hj; simp
      | 2, hj => simp at hj; subst hj; simp
      | 3, hj => simp at hj; subst hj; simp)
  have hZ : (w2.alloc (.cells #[.int .u8 t0.toNat, .int .u8 t1.toNat, .int .u8 t2.toNat, .int .u8 t3.toNat] 75)).heap.size = w2.heap.size + 1 := by simp
  have hBW : Below w2.heap.size w2 (w2.alloc (.cells #[.int .u8 t0.toNat, .int .u8 t1.toNat, .int .u8 t2.toNat, .int .u8 t3.toNat] 75)) := (Below.refl _ _).alloc (Nat.le_refl _) _
  generalize w2.alloc (.cells #[.int .u8 t0.toNat, .int .u8 t1.toNat, .int .u8 t2.toNat, .int .u8 t3.toNat] 75) = w3 at *
  have hb3 : Below w1.heap.size w1 w3 := hb2.trans (hBW.mono hsz2)
  have HN4 : Hid ((numB xs.length).length ≤ 10) := hnl
  have hc : ∀ j u, (#[Value.slice base bs.length cap, Value.slice base1 (numB xs.length).length cap1, Value.slice base2 xs.length cap2, Value.slice (some ⟨w2.heap.size, 0, none⟩) 4 4] : Array Value)[j]? = some u → (w3.alloc (.cells #[Value.slice base bs.length cap, Value.slice base1 (numB xs.length).length cap1, Value.slice base2 xs.length cap2, Value.slice (some ⟨w2.heap.size, 0, none⟩) 4 4] 22)).cell? ⟨w2.heap.size + 1, j, none⟩ = some u := fun j u hj => by
    rw [← hZ, World.cell?_alloc_new]; exact hj
  refine (concat4 (w2.heap.size + 1) _ _ _ _ bs (numB xs.length) xs [t0, t1, t2, t3] _ (hc 0 _ rfl) (hc 1 _ rfl) (hc 2 _ rfl) (hc 3 _ rfl)
    (bytesAt_alloc (bytesAt_below (bytesAt_below HV.out hb1 (Nat.le_refl _)) hb3 (Nat.le_refl _)) _) (bytesAt_alloc (bytesAt_below HB1.out hb3 (Nat.le_refl _)) _) (bytesAt_alloc (bytesAt_below HX1.out hb3 (Nat.le_refl _)) _) (bytesAt_alloc HB4.out _)
    (by have h := HN4.out; show bs.length + (numB xs.length).length + xs.length + 4 ≤ _; omega)).mono ?_
  rintro e w4 ⟨v4, rfl, hown4, hb4⟩
  have hfr : bs ++ (numB xs.length ++ (xs ++ [t0, t1, t2, t3])) = bs ++ frameB xs := by unfold frameB; rw [HT.out]; unfold headB; rw [List.append_assoc]
  rw [hfr] at hown4
  have HF : Hid (w4.ownsRow w.heap.size 5 1 v4 (bs ++ frameB xs).length (Lib.byteCells (bs ++ frameB xs)) ∧ Below w.heap.size w w4) :=
    ⟨own_base hown4 (by simp; omega), ((hb1.trans (hb3.mono hsz1)).alloc (by omega) _).trans (hb4.mono (by simp; omega))⟩
  clear hown4 hb4 hown1 hb1 hb2 hb3 hc hZ hBW hr1 hr2 hfr hbc
  go_wp2
  go_ret2
  exact ⟨_, rfl, HF.out⟩

set_option maxHeartbeats 1000000 in
set_option maxRecDepth 100000 in
theorem putBig_any (v x : Value) (bs xs : List UInt8) (w : World) (hv : bytesAt w v bs) (hx : bytesAt w x xs) (hl : 1048576 < xs.length) :
    Calls Try.prog 22 #[v, x] w fun e w' => e = .returned (.tuple #[.slice none 0 0, .int .i64 5]) ∧ w = w' := by
  have hxm := bytesAt_len hx
  unfold maxLen at hxm
  obtain ⟨base, cap, rfl, hrest⟩ := hv
  obtain ⟨base2, cap2, rfl, hrest2⟩ := hx
  clear hrest hrest2
  go_enter Try.func22, Try.ntmps22
  go_wp2
  go_ret2
  exact ⟨rfl, rfl⟩
end Go.Proofs.Ytffedjgbhdaecaa
