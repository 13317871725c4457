/- The document's examples of frames, as the statements ask them of the program each time. -/
import Derived.Test.YtffedjgbhdaecaaFAll
import Derived.Lib.SlBytesConst
namespace Go.Proofs.Ytffedjgbhdaecaa
open Go.RowKit

set_option maxHeartbeats 1000000 in
set_option maxRecDepth 100000 in
theorem own02_any (v : Value) (bs : List UInt8) (w : World) (hv : bytesAt w v bs) (hb : bs.length ≤ 140737488355328) :
    Calls Try.prog 16 #[v] w fun e w' => ∃ v', e = .returned v' ∧ w'.ownsRow w.heap.size 5 1 v' bs.length (Lib.byteCells bs) ∧ Below w.heap.size w w' := by
  obtain ⟨i0, hi, hz0, hz1, hz2⟩ := info_parts info_u8
  obtain ⟨base, cap, rfl, hn, h1, h2, hc⟩ := hv
  have hl0 : (w.alloc (.cells #[] 5)).ownsRow w.heap.size 5 1 (.slice (some ⟨w.heap.size, 0, none⟩) 0 0) 0 [] := World.ownsRow_made w #[] 0 (Nat.le_refl _) (Nat.zero_le _) rfl
  cases base with
  | none =>
    obtain ⟨rfl, rfl⟩ := hn rfl
    clear hc hn
    show Calls Try.prog 16 #[.slice none 0 0] w _
    go_enter Try.func16, Try.ntmps16
    go_wp2_with (at_builtin; refine wpList_append_own_none rfl _ _ 22 rfl w.heap.size 5 i0 1 Try.underlying22 hi _ _ _ rfl hl0 rfl ?_)
    go_ret
    exact ⟨_, rfl, hl0, (Below.refl _ _).alloc (Nat.le_refl _) _⟩
  | some a =>
    have hc' := hc a rfl
    clear hc hn
    go_enter Try.func16, Try.ntmps16
    go_wp2_with (at_builtin; refine wpList_append_own _ rfl _ _ 22 rfl w.heap.size 5 i0 (.int .u8 0) 1 1 Try.underlying22 hi hz0 hz1 hz2 rfl (by decide) _ _ _ rfl hl0 a bs.length cap (Lib.byteCells bs) rfl ?c0 ?c1 ?c2 ?c3 ?c4 ?c5 ?_)
    case c0 => rw [Lib.byteCells_length, Nat.mul_one]
    case c1 => intro j u hj; exact Lib.cell?_alloc_some _ (hc' j u hj)
    case c2 => exact bytes_one bs
    case c3 => omega
    case c4 => omega
    case c5 => simp
    intro v' w1 hown' hgrow _
    go_wp2
    go_ret
    refine ⟨v', rfl, by simpa using hown', ?_⟩
    exact ((Below.refl _ _).alloc (Nat.le_refl _) _).grown hgrow (by simp) (fun k hk => (hl0.lt k hk).1)

theorem num1 : numB 1 = [2] := by
  show Lib.uvarint (Lib.zigzag 1) = _
  rw [show Lib.zigzag 1 = 2 from rfl, Lib.uvarint_small (by decide)]; rfl
theorem frameA : frameB [97] = [2, 97, 179, 33, 90, 73] := by
  have h : headB [97] = [2, 97] := by show numB 1 ++ [97] = _; rw [num1]; rfl
  unfold frameB
  rw [h]
  decide +kernel
theorem getA : getF [2, 97, 179, 33, 90, 73] 0 = ([97], 6, 0) := by decide +kernel
theorem getA0 : getAt [2, 97, 179, 33, 90, 73, 255] 0 = ([97], 6, 0) := by decide +kernel
theorem getA6 : getAt [2, 97, 179, 33, 90, 73, 255] 6 = ([], 0, 3) := by decide +kernel
theorem sum9 : sumB [49, 50, 51, 52, 53, 54, 55, 56, 57] = 3421780262 := by decide +kernel

/-- The frames of the example, whatever they are told as. -/
theorem allA {xs : List (List UInt8)} {a : Nat} (h : framesTo [2, 97, 179, 33, 90, 73, 255] 0 xs a) (he : (getAt [2, 97, 179, 33, 90, 73, 255] a).2.2 ≠ 0) : xs.length = 1 ∧ a = 6 := by
  match xs, h with
  | [], h =>
    obtain rfl : a = 0 := h
    rw [getA0] at he; exact absurd rfl he
  | x :: [], ⟨b, hb, h⟩ =>
    obtain rfl : a = b := h
    rw [getA0] at hb
    cases hb
    exact ⟨rfl, rfl⟩
  | x :: y :: ys, ⟨b, hb, c, hc, h⟩ =>
    rw [getA0] at hb
    cases hb
    rw [getA6] at hc
    cases hc

set_option maxHeartbeats 4000000 in
set_option maxRecDepth 100000 in
theorem lives02_any (w : World) :
    Calls Try.prog 20 #[] w fun e w' => e = .returned (.bool true) ∧ Below w.heap.size w w' := by
  have kc := fun (w : World) (C : Array Value) (n c : Nat) => Lib.run_convert_bytes_const (P := Try.prog) w 22 5 C n c Try.underlying22 Try.underlying5
  obtain ⟨i0, hi, hz0, hz1, hz2⟩ := info_parts info_u8
  go_enter Try.func20, Try.ntmps20
  go_wp2_with fail
  have hx1 : bytesAt (w.alloc (.cells #[.int .u8 97] 5 (1, 2))) (.slice (some ⟨w.heap.size, 0, none⟩) 1 1) [97] := bytesAt_lit rfl (by unfold maxLen; decide) (fun j u hj => by
    match j, hj with
    | 0, hj => simp [Lib.byteCells] at hj; subst hj; simp [World.cell?_alloc_mark])
  have c1 := put_any (.slice none 0 0) _ [] [97] _ (bytesAt_nil _) hx1 (by decide) (by decide)
  rw [List.nil_append, frameA] at c1
  refine c1.mono ?_
  clear c1 hx1
  rintro e w1 ⟨v1, rfl, hown1, hb1⟩
  have hB1 : Below w.heap.size w w1 := ((Below.refl _ _).alloc (Nat.le_refl _) _).trans (hb1.mono (by simp))
  have hzz1 := hB1.size
  have hy1 := bytesAt_own hown1
  have HY1 : Hid (bytesAt w1 v1 [2, 97, 179, 33, 90, 73]) := hy1
  obtain ⟨base1, cap1, rfl, hrow1, -, -, -⟩ := own_row hown1
  have HB1 : Hid (Below w.heap.size w w1) := hB1
  clear hown1 hb1 hB1 hy1 hrow1
  go_wp2_with fail
  have c2 := get_any _ _ 0 w1 HY1.out
  rw [getA] at c2
  refine c2.mono ?_
  clear c2
  rintro e w2 ⟨v2, rfl, hown2, hb2⟩
  have hz2' := hb2.size
  have HY2 : Hid (bytesAt w2 (.slice base1 6 cap1) [2, 97, 179, 33, 90, 73]) := bytesAt_below HY1.out hb2 (Nat.le_refl _)
  have HX2 : Hid (bytesAt w2 v2 [97]) := bytesAt_own hown2
  have HB2 : Hid (Below w.heap.size w w2) := HB1.out.trans (hb2.mono hzz1)
  obtain ⟨base2, cap2, rfl, hrow2, -, -, -⟩ := own_row hown2
  clear hown2 hb2 hrow2 HY1 HB1
  have hl0 : (w2.alloc (.cells #[] 5)).ownsRow w2.heap.size 5 1 (.slice (some ⟨w2.heap.size, 0, none⟩) 0 0) 0 [] := World.ownsRow_made w2 #[] 0 (Nat.le_refl _) (Nat.zero_le _) rfl
  obtain ⟨b1, o1, hba1⟩ : ∃ b o, base1 = some ⟨b, o, none⟩ := by
    obtain ⟨-, hr, -, -⟩ := bytesAt_row HY2.out
    rcases hr with h | ⟨b, o, h, _⟩
    · cases h
    · exact ⟨_, _, h⟩
  subst hba1
  have hcs : ∀ j u, (Lib.byteCells [2, 97, 179, 33, 90, 73])[j]? = some u → w2.cell? ((⟨b1, o1, none⟩ : Addr).add j) = some u := by
    obtain ⟨b', c', hv', hn', h1', h2', hc'⟩ := HY2.out
    cases hv'
    exact hc' ⟨b1, o1, none⟩ rfl
  have HCS : Hid (∀ j u, (Lib.byteCells [2, 97, 179, 33, 90, 73])[j]? = some u → w2.cell? ((⟨b1, o1, none⟩ : Addr).add j) = some u) := hcs
  clear hcs
  go_wp2_with (first
    | (at_builtin; refine wpList_append_own _ rfl _ _ 22 rfl w2.heap.size 5 i0 (.int .u8 0) 1 1 Try.underlying22 hi hz0 hz1 hz2 rfl (by decide) _ _ _ rfl hl0 ⟨b1, o1, none⟩ 6 cap1 (Lib.byteCells [2, 97, 179, 33, 90, 73]) rfl rfl (fun j u hj => Lib.cell?_alloc_some _ (HCS.out j u hj)) (bytes_one _) (by unfold maxLen; decide) (by decide) (by simp) ?_; intro v3 w3 hown3 hgrow3 _; have hb3 : Below w2.heap.size w2 w3 := ((Below.refl _ _).alloc (Nat.le_refl _) _).grown hgrow3 (by simp) (fun k hk => (hl0.lt k hk).1); have hz3 := hb3.size; clear hl0 hgrow3)
    | (at_builtin; refine wpList_append_own _ rfl _ _ 22 rfl w2.heap.size 5 i0 (.int .u8 0) 1 1 Try.underlying22 hi hz0 hz1 hz2 rfl (by decide) _ _ _ rfl (hown3.alloc _) ⟨w3.heap.size, 0, none⟩ 1 1 [.int .u8 255] rfl rfl (cell_one_new _ _ _) (by simp [Value.oneCell']) (by unfold maxLen; decide) (by decide) (by simp; omega) ?_; intro v4 w4 hown4 hgrow4 _; have hb4 : Below w2.heap.size w2 w4 := (hb3.alloc (by omega) _).grown hgrow4 (by simp; omega) (fun k hk => (hown3.lt k hk).1); clear hown3 hgrow4 hb3))
  have hown4' : w4.ownsRow w2.heap.size 5 1 v4 7 (Lib.byteCells [2, 97, 179, 33, 90, 73, 255]) := hown4
  have hz4 := hb4.size
  refine (all_any _ [2, 97, 179, 33, 90, 73, 255] w4 (bytesAt_own hown4') (by decide)).mono ?_
  rintro e w5 ⟨r, a5, ps, rfl, hf5, ha5, he5, hr5, -, hb5⟩
  obtain ⟨hp5, rfl⟩ := allA hf5 he5
  rw [List.length_map] at hp5
  have HB5 : Hid (Below w.heap.size w w5) := HB2.out.trans ((hb4.trans (hb5.mono (by omega))).mono (HB2.out.size))
  have HB25 : Hid (Below w2.heap.size w2 w5) := hb4.trans (hb5.mono (by omega))
  rw [hp5] at hr5
  obtain ⟨g5, c5, rfl⟩ := ownsRow_succ hr5
  clear hf5 ha5 he5 hr5 hb5 hown4 hown4' hb4 HB2
  have hy5 := bytesAt_below HY2.out HB25.out (Nat.le_refl _)
  obtain ⟨-, hry, -, -⟩ := bytesAt_row hy5
  obtain ⟨k0, k1⟩ : w5.cell? ⟨b1, o1, none⟩ = some (.int .u8 2) ∧ w5.cell? ⟨b1, o1 + 1, none⟩ = some (.int .u8 97) := by
    rcases hry with h | ⟨b, o, h, hc⟩
    · cases h
    · cases h
      exact ⟨hc 0 (by decide), hc 1 (by decide)⟩
  have hcv : (convert 22 9 (.slice base2 1 cap2)).run Try.prog w5 = .ok (.string ⟨#[97]⟩) w5 := conv_row w5 base2 [97] cap2 (bytesAt_row (bytesAt_below HX2.out HB25.out (Nat.le_refl _))).2.1
  have hz5 := HB5.out.size
  clear hy5 hry HX2 HY2 HB25 HCS
  go_wp2_with fail
  have hx9 : bytesAt (w5.alloc (.cells #[.int .u8 49, .int .u8 50, .int .u8 51, .int .u8 52, .int .u8 53, .int .u8 54, .int .u8 55, .int .u8 56, .int .u8 57] 5 (9, 10))) (.slice (some ⟨w5.heap.size, 0, none⟩) 9 9) [49, 50, 51, 52, 53, 54, 55, 56, 57] := bytesAt_lit rfl (by unfold maxLen; decide) (fun j u hj => by
    match j, hj with
    | 0, hj => simp [Lib.byteCells] at hj; subst hj; simp [World.cell?_alloc_mark]
    | 1, hj => simp [Lib.byteCells] at hj; subst hj; simp [World.cell?_alloc_mark]
    | 2, hj => simp [Lib.byteCells] at hj; subst hj; simp [World.cell?_alloc_mark]
    | 3, hj => simp [Lib.byteCells] at hj; subst hj; simp [World.cell?_alloc_mark]
    | 4, hj => simp [Lib.byteCells] at hj; subst hj; simp [World.cell?_alloc_mark]
    | 5, hj => simp [Lib.byteCells] at hj; subst hj; simp [World.cell?_alloc_mark]
    | 6, hj => simp [Lib.byteCells] at hj; subst hj; simp [World.cell?_alloc_mark]
    | 7, hj => simp [Lib.byteCells] at hj; subst hj; simp [World.cell?_alloc_mark]
    | 8, hj => simp [Lib.byteCells] at hj; subst hj; simp [World.cell?_alloc_mark])
  have c9 := sum_any _ [49, 50, 51, 52, 53, 54, 55, 56, 57] 9 _ (bytesAt_row hx9).2.1 (by unfold maxLen; decide)
  rw [sum9] at c9
  refine c9.mono ?_
  clear c9 hx9
  rintro e w6 ⟨rfl, rfl⟩
  go_wp2
  go_ret
  exact ⟨rfl, HB5.out.alloc hz5 _⟩
end Go.Proofs.Ytffedjgbhdaecaa
