/- What is put is got, wherever it stands, and whatever stands behind it: the walk of FrameBack. -/
import Derived.Test.YtelaignbghcccaaFMath
import Derived.Test.YtelaignbghcccaaFLives
namespace Go.Proofs.Ytelaignbghcccaa
open Go.RowKit

set_option maxHeartbeats 4000000 in
set_option maxRecDepth 100000 in
theorem fback_big (vb vx vm : Value) (bs xs ms : List UInt8) (w : World) (hb : bytesAt w vb bs) (hx : bytesAt w vx xs) (hm : bytesAt w vm ms) (h1 : bs.length ≤ 1048576) (hbig : 1048576 < xs.length) :
    Calls Try.prog 7 #[vb, vx, vm] w fun e w' => e = .returned (.bool true) ∧ Below w.heap.size w w' := by
  have hxm := bytesAt_len hx
  unfold maxLen at hxm
  have HB : Hid (bytesAt w vb bs) := hb
  have HX : Hid (bytesAt w vx xs) := hx
  obtain ⟨baseB, capB, rfl, -⟩ := hb
  obtain ⟨baseX, capX, rfl, -⟩ := hx
  obtain ⟨baseM, capM, rfl, -⟩ := hm
  go_enter Try.func7, Try.ntmps7
  go_wp2_with fail
  refine (own02_any _ bs w HB.out (by omega)).mono ?_
  rintro e w1 ⟨v1, rfl, hown1, hb1⟩
  have hy1 := bytesAt_own hown1
  clear hown1
  go_wp2_with fail
  refine (putBig_any v1 _ bs xs w1 hy1 (bytesAt_below HX.out hb1 (Nat.le_refl _)) hbig).mono ?_
  rintro e w2 ⟨rfl, rfl⟩
  go_wp2_with fail
  refine (lives02_any w1).mono ?_
  rintro e w3 ⟨rfl, hb3⟩
  have HF : Hid (Below w.heap.size w w3) := hb1.trans (hb3.mono hb1.size)
  clear hb1 hb3 hy1
  go_wp2
  go_ret
  exact ⟨rfl, HF.out⟩

set_option maxHeartbeats 4000000 in
set_option maxRecDepth 100000 in
theorem fback_walk (vb vx vm : Value) (bs xs ms : List UInt8) (w : World) (hb : bytesAt w vb bs) (hx : bytesAt w vx xs) (hm : bytesAt w vm ms) (h1 : bs.length ≤ 1048576) (h2 : xs.length ≤ 1048576) (h3 : ms.length ≤ 1048576) :
    Calls Try.prog 7 #[vb, vx, vm] w fun e w' => e = .returned (.bool true) ∧ Below w.heap.size w w' := by
  obtain ⟨i0, hi, hz0, hz1, hz2⟩ := info_parts info_u8
  have HB : Hid (bytesAt w vb bs) := hb
  have HX : Hid (bytesAt w vx xs) := hx
  have HM : Hid (bytesAt w vm ms) := hm
  have hnl := numB_len (n := (xs.length : Int)) (by omega) (by omega)
  have hfl := frameB_len xs
  obtain ⟨baseB, capB, rfl, -⟩ := hb
  obtain ⟨baseX, capX, rfl, -⟩ := hx
  obtain ⟨baseM, capM, rfl, hmn, hmc, hmx, hmcell⟩ := hm
  obtain ⟨A, hA⟩ : ∃ A, A = bs ++ frameB xs := ⟨_, rfl⟩
  have hAl : A.length = bs.length + (frameB xs).length := by rw [hA, List.length_append]
  have hAm : A.length ≤ 3000000 := by omega
  have HA : Hid (A = bs ++ frameB xs) := hA
  clear hA hAl hfl hnl
  go_enter Try.func7, Try.ntmps7
  go_wp2_with fail
  refine (own02_any _ bs w HB.out (by omega)).mono ?_
  rintro e w1 ⟨v1, rfl, hown1, hb1⟩
  have hy1 := bytesAt_own hown1
  have hzz1 := hb1.size
  clear hown1
  go_wp2_with fail
  have c2 := put_any v1 _ bs xs w1 hy1 (bytesAt_below HX.out hb1 (Nat.le_refl _)) h2 (by omega)
  rw [← HA.out] at c2
  refine c2.mono ?_
  clear c2
  rintro e w2 ⟨v2, rfl, hown2, hb2⟩
  have hzz2 := hb2.size
  have HY2 : Hid (bytesAt w2 v2 A) := bytesAt_own hown2
  obtain ⟨base2, cap2, rfl, -⟩ := own_row hown2
  have HB2 : Hid (Below w.heap.size w w2) := hb1.trans (hb2.mono hzz1)
  clear hown2 hb2 hb1 hy1
  go_wp2_with fail
  refine (own02_any _ A w2 HY2.out (by omega)).mono ?_
  rintro e w3 ⟨v3, rfl, hown3, hb3⟩
  have hzz3 := hb3.size
  have HB3 : Hid (Below w.heap.size w w3) := HB2.out.trans (hb3.mono (by omega))
  clear HB2 hb3
  have hM3 := bytesAt_below HM.out HB3.out (Nat.le_refl _)
  have hG : getF (A ++ ms) (bs.length : Int) = (xs, A.length, 0) := by
    rw [getF_in (by rw [HA.out]; simp), HA.out]; exact getAt_put h2 bs ms
  have HG : Hid (getF (A ++ ms) (bs.length : Int) = (xs, A.length, 0)) := hG
  clear hG HM
  cases baseM with
  | none =>
    obtain ⟨rfl, rfl⟩ := hmn rfl
    clear hmn hmc hmx hmcell hM3
    go_wp2_with (at_builtin; refine wpList_append_own_none rfl _ _ 22 rfl w2.heap.size 5 i0 1 Try.underlying22 hi _ _ _ rfl hown3 rfl ?_)
    have hy4 : bytesAt w3 v3 (A ++ []) := by rw [List.append_nil]; exact bytesAt_own hown3
    have HB4 : Hid (Below w.heap.size w w3) := HB3.out
    clear hown3
    have c4 := get_any v3 _ (bs.length : Int) w3 hy4
    rw [HG.out] at c4
    refine c4.mono ?_
    clear c4
    rintro e w5 ⟨v5, rfl, hown5, hb5⟩
    have hzz5 := hb5.size
    have HB5 : Hid (Below w.heap.size w w5) := HB4.out.trans (hb5.mono HB4.out.size)
    have hx5 : (convert 22 9 (.slice baseX xs.length capX)).run Try.prog w5 = .ok (.string ⟨xs.toArray⟩) w5 := conv_row w5 baseX xs capX (bytesAt_row (bytesAt_below HX.out HB5.out (Nat.le_refl _))).2.1
    obtain ⟨base5, cap5, rfl, hrow5, -, -, -⟩ := own_row hown5
    have hy5 : (convert 22 9 (.slice base5 xs.length cap5)).run Try.prog w5 = .ok (.string ⟨xs.toArray⟩) w5 := conv_row w5 base5 xs cap5 hrow5
    clear hown5 hb5 hrow5 HB4 hy4
    go_wp2_with fail
    refine (lives02_any w5).mono ?_
    rintro e w6 ⟨rfl, hb6⟩
    have HF : Hid (Below w.heap.size w w6) := HB5.out.trans (hb6.mono HB5.out.size)
    clear hb6 HB5
    go_wp2
    go_ret
    exact ⟨rfl, HF.out⟩
  | some a =>
    have hc3 : ∀ j u, (Lib.byteCells ms)[j]? = some u → w3.cell? (a.add j) = some u := by
      obtain ⟨b', c', hv', hn', h1', h2', hc'⟩ := hM3
      cases hv'
      exact hc' a rfl
    clear hmn hmcell hM3
    go_wp2_with (at_builtin; refine wpList_append_own _ rfl _ _ 22 rfl w2.heap.size 5 i0 (.int .u8 0) 1 1 Try.underlying22 hi hz0 hz1 hz2 rfl (by decide) _ _ _ rfl hown3 a ms.length capM (Lib.byteCells ms) rfl ?c0 ?c1 ?c2 ?c3 ?c4 ?c5 ?_)
    case c0 => rw [Lib.byteCells_length, Nat.mul_one]
    case c1 => exact hc3
    case c2 => exact bytes_one ms
    case c3 => unfold maxLen; omega
    case c4 => omega
    case c5 => omega
    intro v4 w4 hown4 hgrow _
    have hown4' : w4.ownsRow w2.heap.size 5 1 v4 (A ++ ms).length (Lib.byteCells (A ++ ms)) := by rw [List.length_append, Lib.byteCells_append]; exact hown4
    have hy4 := bytesAt_own hown4'
    have HB4 : Hid (Below w.heap.size w w4) := HB3.out.grown hgrow (by omega) (fun q hq => by have := (hown3.lt q hq).1; omega)
    clear hown3 hown4 hown4' hgrow hc3 HB3
    go_wp2_with fail
    have c4 := get_any v4 _ (bs.length : Int) w4 hy4
    rw [HG.out] at c4
    refine c4.mono ?_
    clear c4
    rintro e w5 ⟨v5, rfl, hown5, hb5⟩
    have hzz5 := hb5.size
    have HB5 : Hid (Below w.heap.size w w5) := HB4.out.trans (hb5.mono HB4.out.size)
    have hx5 : (convert 22 9 (.slice baseX xs.length capX)).run Try.prog w5 = .ok (.string ⟨xs.toArray⟩) w5 := conv_row w5 baseX xs capX (bytesAt_row (bytesAt_below HX.out HB5.out (Nat.le_refl _))).2.1
    obtain ⟨base5, cap5, rfl, hrow5, -, -, -⟩ := own_row hown5
    have hy5 : (convert 22 9 (.slice base5 xs.length cap5)).run Try.prog w5 = .ok (.string ⟨xs.toArray⟩) w5 := conv_row w5 base5 xs cap5 hrow5
    clear hown5 hb5 hrow5 HB4 hy4
    go_wp2_with fail
    refine (lives02_any w5).mono ?_
    rintro e w6 ⟨rfl, hb6⟩
    have HF : Hid (Below w.heap.size w w6) := HB5.out.trans (hb6.mono HB5.out.size)
    clear hb6 HB5
    go_wp2
    go_ret
    exact ⟨rfl, HF.out⟩
end Go.Proofs.Ytelaignbghcccaa
