/- The sum of bytes in two parts goes on from that of the first; the sum of three rows of one length, xor byte by byte, is their sums' xor: the walk of FrameJoined. -/
import Derived.Test.YtffedjgbhdaecaaFLinear
import Derived.Test.YtffedjgbhdaecaaWAppend
import Derived.Test.YtffedjgbhdaecaaWQuiet
import Derived.Test.YtffedjgbhdaecaaLFTurned
import Derived.Deep.AppendLies
import Derived.Deep.RegionLaw
import Derived.Deep.RegionWith
namespace Go.Proofs.Ytffedjgbhdaecaa
open Go.RowKit

/-- Three rows, xor byte by byte. -/
def xor3 (a b c : List UInt8) : List UInt8 := List.zipWith (· ^^^ ·) (List.zipWith (· ^^^ ·) a b) c

theorem xor3_len {a b c : List UInt8} {k : Nat} (ha : a.length = k) (hb : b.length = k) (hc : c.length = k) : (xor3 a b c).length = k := by
  unfold xor3; simp only [List.length_zipWith]; omega

theorem zip_snoc {a b : List UInt8} (x y : UInt8) (h : a.length = b.length) : List.zipWith (· ^^^ ·) (a ++ [x]) (b ++ [y]) = List.zipWith (· ^^^ ·) a b ++ [x ^^^ y] := by
  rw [List.zipWith_append h]; rfl

theorem xor3_snoc {a b c : List UInt8} (x y z : UInt8) (h1 : a.length = b.length) (h2 : b.length = c.length) : xor3 (a ++ [x]) (b ++ [y]) (c ++ [z]) = xor3 a b c ++ [x ^^^ y ^^^ z] := by
  unfold xor3
  rw [zip_snoc x y h1, zip_snoc _ z (by rw [List.length_zipWith]; omega)]

theorem run_min3 (w : World) (ts : Array TypeId) (t : TypeId) (x y z : Int) :
    (Builtin.min_ ts t #[.int .i64 x, .int .i64 y, .int .i64 z]).run Try.prog w = .ok (.int .i64 (min (min x y) z)) w := by
  have e : ∀ a b : Int, (if b < a then b else a) = min a b := fun a b => by
    rw [Int.min_def]; split <;> split <;> omega
  simp [Builtin.min_, Builtin.min2, e]

set_option maxHeartbeats 4000000 in
set_option maxRecDepth 100000 in
theorem fjoined_loop (va vb vc : Value) (us bs cs : List UInt8) (w : World) (ha : bytesAt w va us) (hb : bytesAt w vb bs) (hc : bytesAt w vc cs) (h1 : us.length ≤ 1048576) (h2 : bs.length ≤ 1048576) (h3 : cs.length ≤ 1048576) :
    Calls Try.prog 7 #[va, vb, vc] w fun e w' => e = .returned (.bool true) ∧ Below w.heap.size w w' := by
  obtain ⟨i0, hi, hz0, hz1, hz2⟩ := info_parts info_u8
  have HA : Hid (bytesAt w va us) := ha
  have HB : Hid (bytesAt w vb bs) := hb
  have HC : Hid (bytesAt w vc cs) := hc
  obtain ⟨baseA, capA, rfl, -, hlcA, hcmA, -⟩ := ha
  obtain ⟨baseB, capB, rfl, hmn, hlcB, hcmB, hmcell⟩ := hb
  obtain ⟨baseC, capC, rfl, -, hlcC, hcmC, -⟩ := hc
  unfold maxLen at hcmA hcmB hcmC
  obtain ⟨S, hS⟩ : ∃ S, S = sumB (us ++ bs) := ⟨_, rfl⟩
  have hmm : moreB (sumB us) bs = S := by rw [hS]; exact more_more 0 (by decide) us bs
  have HS : Hid (S = sumB (us ++ bs)) := hS
  clear hS
  obtain ⟨n, hn⟩ : ∃ n, n = min (min us.length bs.length) cs.length := ⟨_, rfl⟩
  have hnA : n ≤ us.length := by omega
  have hnB : n ≤ bs.length := by omega
  have hnC : n ≤ cs.length := by omega
  go_enter Try.func7, Try.ntmps7
  go_wp2_with fail
  refine (sum_any baseA us capA w (bytesAt_row HA.out).2.1 (by unfold maxLen; omega)).mono ?_
  rintro e w1 ⟨rfl, rfl⟩
  go_wp2_with fail
  have c2 := more_any (sumB us) (moreB_lt _ _) baseB bs capB w (bytesAt_row HB.out).2.1 (by unfold maxLen; omega)
  rw [hmm] at c2
  refine c2.mono ?_
  clear c2 hmm
  rintro e w1 ⟨rfl, rfl⟩
  go_wp2_with fail
  refine (own02_any _ us w HA.out (by omega)).mono ?_
  rintro e w3 ⟨v3, rfl, hown3, hb3⟩
  have hzz3 := hb3.size
  go_wp2_with (at_builtin; refine append_bytes rfl _ _ rfl w.heap.size _ us rfl hown3 _ bs rfl (bytesAt_below HB.out hb3 (Nat.le_refl _)) (by omega) (by omega) ?_)
  intro v4 w4 hown4 hgrow
  have hy4 := bytesAt_own hown4
  have HB4 : Hid (Below w.heap.size w w4) := hb3.grown hgrow (by omega) (fun q hq => by have := (hown3.lt q hq).1; omega)
  have hs4 : Calls Try.prog 24 #[v4] w4 fun e w' => e = .returned (.int .u32 S) ∧ w4 = w' := by
    obtain ⟨b, c, rfl, -⟩ := id hy4
    rw [HS.out]
    exact sum_any b (us ++ bs) c w4 (bytesAt_row hy4).2.1 (bytesAt_len hy4)
  clear hown3 hown4 hgrow hb3 hmn hmcell hy4
  go_wp2_with fail
  refine hs4.mono ?_
  rintro e w5 ⟨rfl, rfl⟩
  clear hs4
  have hmin := run_min3 w4 #[3, 3, 3] 3 us.length bs.length cs.length
  rw [show min (min (us.length : Int) bs.length) cs.length = (n : Int) by omega] at hmin
  clear hn
  go_wp2
  clear hmin
  go_loopw [8, 9] (fun vx vi wr => ∃ k : Nat, k ≤ n ∧ vi = .int .i64 k ∧ wr.ownsRow w.heap.size 5 1 vx k (Lib.byteCells (xor3 (us.take k) (bs.take k) (cs.take k))) ∧ Below w.heap.size w wr) (fun _ i _ => n - (intOf i).toNat)
  case atStart => exact ⟨0, Nat.zero_le _, rfl, by rw [show Lib.byteCells (xor3 (us.take 0) (bs.take 0) (cs.take 0)) = [] from rfl]; exact World.ownsRow_nil _ _ _ _, HB4.out⟩
  case round =>
    obtain ⟨k, hk, rfl, hown, hbw⟩ := hrel
    have hszw := hbw.size
    have HBW : Hid (Below w.heap.size w wr) := hbw
    by_cases hlt : k < n
    · have hA := bytesAt_row (bytesAt_below HA.out hbw (Nat.le_refl _))
      have hB := bytesAt_row (bytesAt_below HB.out hbw (Nat.le_refl _))
      have hC := bytesAt_row (bytesAt_below HC.out hbw (Nat.le_refl _))
      obtain ⟨-, hA, -, -⟩ := hA
      obtain ⟨-, hB, -, -⟩ := hB
      obtain ⟨-, hC, -, -⟩ := hC
      rcases hA with rfl | ⟨bA, oA, rfl, hA⟩
      · simp at hnA; omega
      rcases hB with rfl | ⟨bB, oB, rfl, hB⟩
      · simp at hnB; omega
      rcases hC with rfl | ⟨bC, oC, rfl, hC⟩
      · simp at hnC; omega
      have hkA : k < us.length := by omega
      have hkB : k < bs.length := by omega
      have hkC : k < cs.length := by omega
      have cA := hA k (by omega)
      have cB := hB k (by omega)
      have cC := hC k (by omega)
      obtain ⟨x, hx⟩ : ∃ x, x = (us[k]'(by omega)).toNat := ⟨_, rfl⟩
      obtain ⟨y, hy⟩ : ∃ y, y = (bs[k]'(by omega)).toNat := ⟨_, rfl⟩
      obtain ⟨z, hz⟩ : ∃ z, z = (cs[k]'(by omega)).toNat := ⟨_, rfl⟩
      have hx256 : x < 256 := by rw [hx]; exact UInt8.toNat_lt _
      have hy256 : y < 256 := by rw [hy]; exact UInt8.toNat_lt _
      have hz256 : z < 256 := by rw [hz]; exact UInt8.toNat_lt _
      have hxy := bits_xor_u8 x y hx256 hy256
      have hxy256 : x ^^^ y < 256 := Nat.xor_lt_two_pow (n := 8) hx256 hy256
      have hxyz := bits_xor_u8 (x ^^^ y) z hxy256 hz256
      have hxyz256 : x ^^^ y ^^^ z < 256 := Nat.xor_lt_two_pow (n := 8) hxy256 hz256
      obtain ⟨q, hq⟩ : ∃ q, q = x ^^^ y := ⟨_, rfl⟩
      obtain ⟨r, hr⟩ : ∃ r, r = x ^^^ y ^^^ z := ⟨_, rfl⟩
      rw [← hq] at hxy
      rw [← hr, ← hq] at hxyz
      rw [← hr] at hxyz256
      rw [← hx] at cA
      rw [← hy] at cB
      rw [← hz] at cC
      have HR : Hid (r = (us[k]'(by omega)).toNat ^^^ (bs[k]'(by omega)).toNat ^^^ (cs[k]'(by omega)).toNat) := show r = (us[k]'(by omega)).toNat ^^^ (bs[k]'(by omega)).toNat ^^^ (cs[k]'(by omega)).toNat by rw [hr, hx, hy, hz]
      clear hx hy hz hq hr hA hB hC hxy256 hbw
      have HO : Hid (wr.ownsRow w.heap.size 5 1 u8 k (Lib.byteCells (xor3 (us.take k) (bs.take k) (cs.take k)))) := hown
      clear hown
      go_wp2_with fail
      have hxl : (xor3 (us.take k) (bs.take k) (cs.take k)).length = k := xor3_len (by rw [List.length_take]; omega) (by rw [List.length_take]; omega) (by rw [List.length_take]; omega)
      have HO2 : Hid (wr.drew.ownsRow w.heap.size 5 1 u8 (xor3 (us.take k) (bs.take k) (cs.take k)).length (Lib.byteCells (xor3 (us.take k) (bs.take k) (cs.take k)))) := by rw [hxl]; exact HO.out.drew
      have HX3 : Hid (xor3 (us.take (k + 1)) (bs.take (k + 1)) (cs.take (k + 1)) = xor3 (us.take k) (bs.take k) (cs.take k) ++ [r.toUInt8]) := show _ = _ by
        rw [List.take_succ_eq_append_getElem hkA, List.take_succ_eq_append_getElem hkB, List.take_succ_eq_append_getElem hkC, xor3_snoc _ _ _ (by rw [List.length_take, List.length_take]; omega) (by rw [List.length_take, List.length_take]; omega), HR.out]
        congr 2
        rw [← UInt8.toNat_inj, Lib.toUInt8_toNat (by rw [← HR.out]; exact hxyz256), UInt8.toNat_xor, UInt8.toNat_xor]
      clear hxl
      go_region_law (refine step_append_bytes (.tmp 32) (.tmp 47) rfl (by rfl) w.heap.size u8 (xor3 (us.take k) (bs.take k) (cs.take k)) rfl (HO2.out.alloc _) _ [r.toUInt8] rfl (bytesAt_one hxyz256 (by simp)) (by rw [xor3_len (k := k) (by rw [List.length_take]; omega) (by rw [List.length_take]; omega) (by rw [List.length_take]; omega)]; simp; omega) (by simp; omega) ?_; intro vz wz hownz hgrow; have hbz : Below w.heap.size w wz := ((HBW.out.alloc hszw _).drew).grown hgrow (by simp; omega) (fun q hq => (HO.out.lt q hq).1); clear hgrow)
      all_goals
        go_wp2
        refine ⟨⟨k + 1, by omega, by go_num, ?_, hbz⟩, by simp [intOf]; omega⟩
        rw [HX3.out]
        rw [List.length_append, xor3_len (k := k) (by rw [List.length_take]; omega) (by rw [List.length_take]; omega) (by rw [List.length_take]; omega)] at hownz
        exact hownz
    · obtain rfl : n = k := by omega
      have hl1 : (us.take n).length = n := by rw [List.length_take]; omega
      have hl2 : (bs.take n).length = n := by rw [List.length_take]; omega
      have hl3 : (cs.take n).length = n := by rw [List.length_take]; omega
      have hxl : (xor3 (us.take n) (bs.take n) (cs.take n)).length = n := xor3_len hl1 hl2 hl3
      obtain ⟨baseX, capX, hvx, hrX, -, -, -⟩ := own_row hown
      have hn9 : n ≤ maxLen := by unfold maxLen; omega
      have hrA := (bytesAt_row (bytesAt_take (bytesAt_below HA.out hbw (Nat.le_refl _)) n hnA)).2.1
      have hrB := (bytesAt_row (bytesAt_take (bytesAt_below HB.out hbw (Nat.le_refl _)) n hnB)).2.1
      have hrC := (bytesAt_row (bytesAt_take (bytesAt_below HC.out hbw (Nat.le_refl _)) n hnC)).2.1
      obtain ⟨sA, hsA⟩ : ∃ q, q = sumB (us.take n) := ⟨_, rfl⟩
      obtain ⟨sB, hsB⟩ : ∃ q, q = sumB (bs.take n) := ⟨_, rfl⟩
      obtain ⟨sC, hsC⟩ : ∃ q, q = sumB (cs.take n) := ⟨_, rfl⟩
      obtain ⟨SX, hSX⟩ : ∃ q, q = sumB (xor3 (us.take n) (bs.take n) (cs.take n)) := ⟨_, rfl⟩
      obtain ⟨q1, hq1⟩ : ∃ q, q = sA ^^^ sB := ⟨_, rfl⟩
      have lA : sA < 4294967296 := by rw [hsA]; exact moreB_lt _ _
      have lB : sB < 4294967296 := by rw [hsB]; exact moreB_lt _ _
      have lC : sC < 4294967296 := by rw [hsC]; exact moreB_lt _ _
      have l1 : q1 < 4294967296 := by rw [hq1]; exact xor32 lA lB
      have x1 := bits_xor_u32 sA sB lA lB
      rw [← hq1] at x1
      have x2 := bits_xor_u32 q1 sC l1 lC
      have e3 : q1 ^^^ sC = SX := by rw [hq1, hsA, hsB, hsC, hSX]; exact (sum_three (by omega) (by omega)).symm
      rw [e3] at x2
      have row : ∀ (base : Option Addr) (l : List UInt8) (cap sm : Nat), l.length = n → rowAt wr base l → sm = sumB l → ∀ wx, Below wr.heap.size wr wx → Calls Try.prog 24 #[.slice base n cap] wx fun e w'' => e = .returned (.int .u32 sm) ∧ Below wr.heap.size wr w'' := fun base l cap sm hl hr hs wx h => by
        have hh := sum_any base l cap wx (rowAt_below hr h (Nat.le_refl _)) (by rw [hl]; exact hn9)
        rw [hl, ← hs] at hh
        exact hh.mono (fun e w' ⟨he, hw⟩ => ⟨he, hw ▸ h⟩)
      have CX : Hid (∀ wx, Below wr.heap.size wr wx → Calls Try.prog 24 #[u8] wx fun e w'' => e = .returned (.int .u32 SX) ∧ Below wr.heap.size wr w'') := by
        rw [hvx, hxl]; exact row baseX _ capX SX hxl hrX hSX
      have CA : Hid (∀ wx, Below wr.heap.size wr wx → Calls Try.prog 24 #[.slice baseA n capA] wx fun e w'' => e = .returned (.int .u32 sA) ∧ Below wr.heap.size wr w'') := row baseA _ capA sA hl1 hrA hsA
      have CB : Hid (∀ wx, Below wr.heap.size wr wx → Calls Try.prog 24 #[.slice baseB n capB] wx fun e w'' => e = .returned (.int .u32 sB) ∧ Below wr.heap.size wr w'') := row baseB _ capB sB hl2 hrB hsB
      have CC : Hid (∀ wx, Below wr.heap.size wr wx → Calls Try.prog 24 #[.slice baseC n capC] wx fun e w'' => e = .returned (.int .u32 sC) ∧ Below wr.heap.size wr w'') := row baseC _ capC sC hl3 hrC hsC
      have CL : Hid (∀ wx, Below wr.heap.size wr wx → Calls Try.prog 20 #[] wx fun e w'' => e = .returned (.bool true) ∧ Below wr.heap.size wr w'') := fun wx h =>
        (lives02_any wx).mono (fun e w' ⟨he, hb⟩ => ⟨he, h.trans (hb.mono h.size)⟩)
      have toA := fun wx => run_to wx baseA us.length capA n (by omega)
      have toB := fun wx => run_to wx baseB bs.length capB n (by omega)
      have toC := fun wx => run_to wx baseC cs.length capC n (by omega)
      clear row hvx hrX hrA hrB hrC hsA hsB hsC hSX hq1 e3 hl1 hl2 hl3 hxl hown hbw
      go_wp2_with fail
      refine wp_region_cls (n := wr.heap.size) (w0 := wr) (Below.refl _ _) (by kernel_rfl) (by kernel_rfl) ?_
      repeat (go_big_quiet_step (first | exact cls_calls CX.out _ | exact cls_calls CA.out _ | exact cls_calls CB.out _ | exact cls_calls CC.out _ | exact cls_calls CL.out _))
      refine wpQuiet_nil ?_
      rintro _ ⟨c, rfl⟩
      have HB2 : Hid (Below w.heap.size w c.1) := HBW.out.trans (c.2.mono hszw)
      clear toA toB toC
      go_wp2
      go_ret
      exact ⟨rfl, HB2.out⟩
end Go.Proofs.Ytffedjgbhdaecaa
