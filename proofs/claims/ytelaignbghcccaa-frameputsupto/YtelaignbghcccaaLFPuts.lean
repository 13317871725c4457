/- Any bytes are framed behind any others as the document says: the walk of FramePuts. -/
import Derived.Test.YtelaignbghcccaaFRefPut
import Derived.Test.YtelaignbghcccaaFLives
import Derived.Test.YtelaignbghcccaaFMath
namespace Go.Proofs.Ytelaignbghcccaa
open Go.RowKit

set_option maxHeartbeats 4000000 in
set_option maxRecDepth 100000 in
theorem fputs_walk (vb vx : Value) (bs xs : List UInt8) (w : World) (hb : bytesAt w vb bs) (hx : bytesAt w vx xs) (h1 : bs.length ≤ 1048576) (h2 : xs.length ≤ 1048576) :
    Calls Try.prog 5 #[vb, vx] w fun e w' => e = .returned (.bool true) ∧ Below w.heap.size w w' := by
  have HB : Hid (bytesAt w vb bs) := hb
  have HX : Hid (bytesAt w vx xs) := hx
  obtain ⟨baseB, capB, rfl, -⟩ := hb
  obtain ⟨baseX, capX, rfl, -⟩ := hx
  obtain ⟨A, hA⟩ : ∃ A, A = bs ++ frameB xs := ⟨_, rfl⟩
  have HA : Hid (A = bs ++ frameB xs) := hA
  clear hA
  go_enter Try.func5, Try.ntmps5
  go_wp2_with fail
  refine (own02_any _ bs w HB.out (by omega)).mono ?_
  rintro e w1 ⟨v1, rfl, hown1, hb1⟩
  have HY1 : Hid (bytesAt w1 v1 bs) := bytesAt_own hown1
  have HB1 : Hid (Below w.heap.size w w1) := hb1
  have hzz1 := hb1.size
  clear hown1 hb1
  go_wp2_with fail
  refine (own02_any _ xs w1 (bytesAt_below HX.out HB1.out (Nat.le_refl _)) (by omega)).mono ?_
  rintro e w2 ⟨v2, rfl, hown2, hb2⟩
  have hy2 := bytesAt_own hown2
  have HB2 : Hid (Below w.heap.size w w2) := HB1.out.trans (hb2.mono hzz1)
  have hyb := bytesAt_below HY1.out hb2 (Nat.le_refl _)
  clear hown2 hb2 HB1 HY1
  go_wp2_with fail
  have c3 := put_any v1 v2 bs xs w2 hyb hy2 h2 (by omega)
  rw [← HA.out] at c3
  refine c3.mono ?_
  clear c3 hy2 hyb
  rintro e w3 ⟨v3, rfl, hown3, hb3⟩
  have HB3 : Hid (Below w.heap.size w w3) := HB2.out.trans (hb3.mono HB2.out.size)
  have HY3 : Hid (bytesAt w3 v3 A) := bytesAt_own hown3
  obtain ⟨base3, cap3, rfl, -⟩ := own_row hown3
  clear hown3 hb3 HB2
  have hcb : (convert 22 9 (.slice baseB bs.length capB)).run Try.prog w3 = .ok (.string ⟨bs.toArray⟩) w3 := conv_row w3 baseB bs capB (bytesAt_row (bytesAt_below HB.out HB3.out (Nat.le_refl _))).2.1
  have hcx : (convert 22 9 (.slice baseX xs.length capX)).run Try.prog w3 = .ok (.string ⟨xs.toArray⟩) w3 := conv_row w3 baseX xs capX (bytesAt_row (bytesAt_below HX.out HB3.out (Nat.le_refl _))).2.1
  go_wp2_with fail
  have c4 := refPut_any bs xs w3 h2 (by omega)
  rw [← HA.out] at c4
  refine c4.mono ?_
  clear c4
  rintro e w4 ⟨rfl, hb4⟩
  have HB4 : Hid (Below w.heap.size w w4) := HB3.out.trans (hb4.mono HB3.out.size)
  have hca : (convert 22 9 (.slice base3 A.length cap3)).run Try.prog w4 = .ok (.string ⟨A.toArray⟩) w4 := conv_row w4 base3 A cap3 (bytesAt_row (bytesAt_below HY3.out hb4 (Nat.le_refl _))).2.1
  clear hb4 hcb hcx HB3
  go_wp2_with fail
  refine (lives02_any w4).mono ?_
  rintro e w5 ⟨rfl, hb5⟩
  have HF : Hid (Below w.heap.size w w5) := HB4.out.trans (hb5.mono HB4.out.size)
  clear hb5 HB4
  go_wp2
  go_ret
  exact ⟨rfl, HF.out⟩
end Go.Proofs.Ytelaignbghcccaa
