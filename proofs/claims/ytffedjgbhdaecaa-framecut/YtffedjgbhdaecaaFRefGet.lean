/- The document's frames, got: hindcastref02.Get. -/
import Derived.Test.YtffedjgbhdaecaaFRefPut
import Derived.Test.YtffedjgbhdaecaaFGet
import Derived.Test.YtffedjgbhdaecaaFMath
import Derived.Test.YtffedjgbhdaecaaWQuiet
import Derived.Test.YtffedjgbhdaecaaWRefText
namespace Go.Proofs.Ytffedjgbhdaecaa
open Go.RowKit

theorem cntF_form {l : List UInt8} (h : (cntF l).2.2 = 0) : l.take (cntF l).2.1 = numB (cntF l).1 ∧ (cntF l).2.1 = (numB (cntF l).1).length := by
  unfold cntF stepR at h ⊢
  rw [if_neg (by simp)] at h ⊢
  obtain ⟨v, k, e, hq⟩ : ∃ v k e, getI l = (v, k, e) := ⟨_, _, _, rfl⟩
  have hc : getC l 1048576 = if e ≠ 0 then (0, 0, e) else if v < 0 then (0, 0, 4) else if max 1048576 0 < v then (0, 0, 5) else (v, k, e) := by unfold getC; rw [hq]
  by_cases he : e ≠ 0
  · rw [if_pos he] at hc
    rw [hc, if_pos (by exact he)] at h
    exact absurd h he
  · rw [if_neg he] at hc
    obtain rfl : e = 0 := by omega
    by_cases hv : v < 0
    · rw [if_pos hv] at hc
      rw [hc] at h
      simp at h
    · rw [if_neg hv] at hc
      by_cases hm : max 1048576 0 < v
      · rw [if_pos hm] at hc
        rw [hc] at h
        simp at h
      · rw [if_neg hm] at hc
        rw [hc, if_neg (by simp)]
        have := getI_form hq
        simp only [Nat.zero_add]
        exact ⟨this.1, this.2.1⟩

theorem take_frame {l : List UInt8} {n f : Nat} (h1 : cntF l = ((n : Int), f, 0)) (h2 : f + n + 4 ≤ l.length) :
    l.take (f + n + 4) = frameB ((l.drop f).take n) ↔ (l.drop (f + n)).take 4 = leB (sumB (l.take (f + n))) := by
  have hf := cntF_form (l := l) (by rw [h1])
  rw [h1] at hf
  simp only at hf
  have hx : ((l.drop f).take n).length = n := by rw [List.length_take, List.length_drop]; omega
  have hh : headB ((l.drop f).take n) = l.take (f + n) := by
    unfold headB
    rw [hx, ← hf.1, List.take_add]
  unfold frameB
  rw [hh, List.take_add (i := f + n) (j := 4)]
  constructor
  · intro h
    exact List.append_cancel_left h
  · intro h; rw [h]

set_option maxRecDepth 100000 in
theorem slice_rest (w : World) (s : ByteArray) (a : Nat) (h : a ≤ s.size) :
    (Instr.slice 9 (.string s) (some (.int .i64 (a : Int))) none none).run Try.prog w = .ok (.string ⟨(s.data.toList.drop a).toArray⟩) w := by
  rw [run_slice_string_from_if (P := Try.prog) (w := w) 9 s .i64 _ Try.underlying9, if_pos ⟨by omega, by omega⟩]
  have e2 := Lib.extract_data s a s.size
  rw [List.take_of_length_le (by rw [List.length_drop, data_len]; omega)] at e2
  rw [Int.toNat_natCast, ← e2]

set_option maxHeartbeats 4000000 in
set_option maxRecDepth 100000 in
theorem refGet_in (s : ByteArray) (at0 : Nat) (w : World) (hs : s.size ≤ 1048576) (ha : at0 ≤ s.size) :
    Calls Try.prog 17 #[.string s, .int .i64 at0] w fun e w' => e = .returned (.tuple #[.string ⟨(getAt s.data.toList at0).1.toArray⟩, .int .i64 (getAt s.data.toList at0).2.1, .int .i64 (getAt s.data.toList at0).2.2]) ∧ Below w.heap.size w w' := by
  obtain ⟨bs, hbs⟩ : ∃ bs, bs = s.data.toList := ⟨_, rfl⟩
  have hbl : bs.length = s.size := by rw [hbs, data_len]
  obtain ⟨l, hl⟩ : ∃ l, l = bs.drop at0 := ⟨_, rfl⟩
  have hll : l.length = s.size - at0 := by rw [hl, List.length_drop, hbl]
  have hrest := fun wx => slice_rest wx s at0 ha
  rw [← hbs, ← hl] at hrest
  have hcnt : Hid (∀ wx, Calls Try.prog 28 #[.agg #[.string ⟨l.toArray⟩, .int .i64 0, .int .i64 0], .int .i64 1048576] wx fun e w' =>
      e = .returned (.tuple #[.agg #[.string ⟨l.toArray⟩, .int .i64 (cntF l).2.1, .int .i64 (cntF l).2.2], .int .i64 (cntF l).1]) ∧ Below wx.heap.size wx w') := fun wx => by
    have h := refRCount_any ⟨l.toArray⟩ 0 0 1048576 wx (by show l.length ≤ _; omega) (Nat.zero_le _)
    exact h
  rw [← hbs]
  have HL : Hid (l = bs.drop at0) := hl
  have HBS : Hid (bs = s.data.toList) := hbs
  have HLL : Hid (l.length = s.size - at0) := hll
  obtain ⟨c1, c2⟩ := cntF_le l
  have c3 := cntF_at l
  have c4 := cntF_at10 l
  obtain ⟨n, hn⟩ : ∃ n : Nat, (cntF l).1 = (n : Int) := ⟨(cntF l).1.toNat, by omega⟩
  obtain ⟨f, hf⟩ : ∃ f, (cntF l).2.1 = f := ⟨_, rfl⟩
  obtain ⟨er, her⟩ : ∃ er, (cntF l).2.2 = er := ⟨_, rfl⟩
  have her9 : er ≤ 9 := by
    rw [← her]; unfold cntF stepR
    have := getC_e l 1048576
    split
    · omega
    · split <;> simp <;> omega
  have HC : Hid (cntF l = ((n : Int), f, er)) := show cntF l = ((n : Int), f, er) by rw [← hn, ← hf, ← her]
  rw [hn, hf, her] at hcnt
  rw [hn] at c1 c2
  rw [hf] at c3 c4
  have hn20 : n ≤ 1048576 := by omega
  have hat64 : at0 ≤ 1048576 := by omega
  clear hl hbs hll hn hf her c1 c2 hbl
  go_enter Try.func17, Try.ntmps17
  go_wp2_with fail
  refine (hcnt.out w).mono ?_
  rintro e w1 ⟨rfl, hb1⟩
  clear hcnt hrest
  have HB1 : Hid (Below w.heap.size w w1) := hb1
  have hsz1 := hb1.size
  clear hb1
  by_cases he : er = 0
  · subst he
    by_cases hsh : s.size - at0 < f + n + 4
    · have HG : Hid (getAt bs at0 = ([], 0, 3)) := getAt_e2 HL.out (by rw [HC.out]) (by rw [HC.out, HLL.out]; simpa using hsh)
      go_wp2
      go_ret3
      exact ⟨by rw [HG.out]; rfl, HB1.out.alloc hsz1 _⟩
    · have hE : s.size - at0 = l.length := HLL.out.symm
      have hx1 : (l.drop f).take n = (bs.drop (at0 + f)).take n := by rw [HL.out, List.drop_drop]
      have hsl : ∀ wx, (Instr.slice 9 (.string s) (some (.int .i64 ((at0 : Int) + f))) (some (.int .i64 ((at0 : Int) + f + n))) none).run Try.prog wx = .ok (.string ⟨((l.drop f).take n).toArray⟩) wx := fun wx => by
        have h := slice_text wx s (at0 + f) n (by omega)
        rw [← HBS.out, ← hx1] at h
        rw [← h]; simp only [Int.natCast_add]
      have hse : ∀ wx, (Instr.slice 9 (.string s) (some (.int .i64 (at0 : Int))) (some (.int .i64 ((at0 : Int) + f + n + 4))) none).run Try.prog wx = .ok (.string ⟨(l.take (f + n + 4)).toArray⟩) wx := fun wx => by
        have h := slice_text wx s at0 (f + n + 4) (by omega)
        rw [← HBS.out, ← HL.out] at h
        rw [← h]
        congr 4
        omega
      have htf := take_frame HC.out (show f + n + 4 ≤ l.length by omega)
      have hxl : ((l.drop f).take n).length ≤ 1048576 := by rw [List.length_take, List.length_drop]; omega
      have HOK : Hid (l.take (f + n + 4) = frameB ((l.drop f).take n) → getAt bs at0 = ((l.drop f).take n, at0 + f + n + 4, 0)) := fun h => by
        have h9 := getAt_ok HL.out (by rw [HC.out]) (by rw [HC.out]; simp only [Int.toNat_natCast]; omega) (by rw [HC.out]; simp only [Int.toNat_natCast]; exact htf.1 h)
        rw [h9, HC.out]; simp only [Int.toNat_natCast]; congr 2; omega
      have HNO : Hid (l.take (f + n + 4) ≠ frameB ((l.drop f).take n) → getAt bs at0 = ([], 0, 4)) := fun h =>
        getAt_e3 HL.out (by rw [HC.out]) (by rw [HC.out]; simp only [Int.toNat_natCast]; omega) (by rw [HC.out]; simp only [Int.toNat_natCast]; exact fun h2 => h (htf.2 h2))
      obtain ⟨x, hx⟩ : ∃ x, x = (l.drop f).take n := ⟨_, rfl⟩
      obtain ⟨y, hy⟩ : ∃ y, y = l.take (f + n + 4) := ⟨_, rfl⟩
      rw [← hx] at hxl hsl HOK HNO
      rw [← hy] at hse HOK HNO
      have hlt : f + n + 4 ≤ s.size - at0 := by omega
      clear hx1 htf hE hsh hx hy
      obtain ⟨W, hW⟩ : ∃ W, W = w1.alloc (.cells #[.string ⟨l.toArray⟩, .int .i64 f, .int .i64 0] 27) := ⟨_, rfl⟩
      have HBW : Hid (Below w.heap.size w W) := show Below w.heap.size w W by rw [hW]; exact HB1.out.alloc hsz1 _
      have hcl := cls_calls (n := W.heap.size) (w := W) (f := 39) (args := #[.string ⟨x.toArray⟩]) (P := Try.prog) (v := .string ⟨(frameB x).toArray⟩) (fun wx h => (refFrame_any x wx hxl).mono (fun e w' ⟨he, hb⟩ => ⟨he, h.trans (hb.mono h.size)⟩))
      have HCL : Hid (∀ c : Cls W.heap.size W, Calls Try.prog 39 #[.string ⟨x.toArray⟩] c.1 fun e w'' => e = .returned (.string ⟨(frameB x).toArray⟩) ∧ ∃ c' : Cls W.heap.size W, w'' = c'.1) := hcl
      clear hcl hxl
      go_wp2
      rw [← hW]
      clear hW
      refine wp_region_cls (n := W.heap.size) (w0 := W) (Below.refl _ _) (by kernel_rfl) (by kernel_rfl) ?_
      repeat (go_big_quiet_step (exact HCL.out _))
      refine wpQuiet_nil ?_
      rintro _ ⟨c, rfl⟩
      have HB2 : Hid (Below w.heap.size w c.1) := HBW.out.trans (c.2.mono HBW.out.size)
      clear hsl hse
      by_cases h : y = frameB x
      · have HGG : Hid (getAt bs at0 = (x, at0 + f + n + 4, 0)) := HOK.out h
        have HH : Hid (y = frameB x) := h
        clear HOK HNO h
        go_wp2
        · rename_i hh
          exfalso
          rw [HH.out] at hh
          simp at hh
        · go_ret3
          refine ⟨?_, HB2.out⟩
          rw [HGG.out]
          simp only [Int.natCast_add]
          rfl
      · have HGG : Hid (getAt bs at0 = ([], 0, 4)) := HNO.out h
        have HH : Hid (¬ y = frameB x) := h
        clear HOK HNO h
        go_wp2
        · go_ret3
          exact ⟨by rw [HGG.out]; rfl, HB2.out⟩
        · rename_i hh
          exfalso
          exact HH.out (by simpa using hh)
  · have t0 : ((er : Int) != 0) = true := by rw [bne_iff_ne]; omega
    have HG : Hid (getAt bs at0 = ([], 0, er)) := show getAt bs at0 = ([], 0, er) by
      have := getAt_e1 HL.out (by rw [HC.out]; exact he)
      rw [HC.out] at this; exact this
    go_wp2
    go_quiet (fail)
    go_wp2
    go_ret3
    exact ⟨by rw [HG.out]; rfl, (HB1.out.alloc hsz1 _).trans ⟨rfl, rfl, rfl, Nat.le_refl _, fun _ _ => rfl⟩⟩

set_option maxHeartbeats 1000000 in
set_option maxRecDepth 100000 in
theorem refGet_any (s : ByteArray) (at0 : Int) (w : World) (hs : s.size ≤ 1048576) :
    Calls Try.prog 17 #[.string s, .int .i64 at0] w fun e w' => e = .returned (.tuple #[.string ⟨(getF s.data.toList at0).1.toArray⟩, .int .i64 (getF s.data.toList at0).2.1, .int .i64 (getF s.data.toList at0).2.2]) ∧ Below w.heap.size w w' := by
  by_cases ha : at0 < 0 ∨ (s.size : Int) < at0
  · have HG : Hid (getF s.data.toList at0 = ([], 0, 2)) := by
      unfold getF; rw [data_len]; exact if_pos ha
    rw [HG.out]
    rcases Int.lt_or_le at0 0 with h | h
    · clear ha
      go_enter Try.func17, Try.ntmps17
      go_wp2
      go_ret3
      exact ⟨rfl, Below.refl _ _⟩
    · have h2 : (s.size : Int) < at0 := by omega
      clear ha
      go_enter Try.func17, Try.ntmps17
      go_wp2
      go_ret3
      exact ⟨rfl, Below.refl _ _⟩
  · obtain ⟨n, rfl⟩ : ∃ n : Nat, at0 = (n : Int) := ⟨at0.toNat, by omega⟩
    rw [getF_in (by rw [data_len]; omega)]
    exact refGet_in s n w hs (by omega)
end Go.Proofs.Ytffedjgbhdaecaa
