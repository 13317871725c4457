/- A reader's calls: NewReader, Int, Bool, Count, Text, At, Err, End. -/
import Derived.Test.YtffedjgbhdaecaaWReads
namespace Go.Proofs.Ytffedjgbhdaecaa
open Go.RowKit

theorem rowAt_drop {w : World} {base : Option Addr} {bs : List UInt8} {cap lo : Nat} (hr : rowAt w base bs) (hc : bs.length ≤ cap) : rowAt w (subBase base cap lo) (bs.drop lo) := by
  have h := rowAt_sub (lo := lo) bs.length hr hc
  rw [List.take_of_length_le (by rw [List.length_drop]; omega)] at h
  exact h

theorem scan_err : ∀ (l : List UInt8) (i acc : Nat), (scan i acc l).2.2 ≤ 9
  | [], i, acc => by simp [scan]
  | x :: r, i, acc => by
    unfold scan
    split
    · simp
    · split
      · simp
      · exact scan_err r _ _

theorem getI_e (bs : List UInt8) : (getI bs).2.2 ≤ 9 := by
  unfold getI
  have h := scan_err bs 0 0
  split
  · simp
  · exact h
theorem getB_e (bs : List UInt8) : (getB bs).2.2 ≤ 9 := by
  unfold getB
  split
  · simp
  · split <;> simp
theorem getB_len (bs : List UInt8) : (getB bs).2.1 ≤ bs.length := by
  unfold getB
  split
  · simp
  · split <;> simp
theorem getC_e (bs : List UInt8) (m : Int) : (getC bs m).2.2 ≤ 9 := by
  unfold getC
  have h := getI_e bs
  split
  · exact h
  · split
    · simp
    · split
      · simp
      · exact h
theorem getT_e (bs : List UInt8) (m : Int) : (getT bs m).2.2 ≤ 9 := by
  unfold getT
  have h := getC_e bs m
  split
  · exact h
  · split
    · simp
    · simp
theorem getT_len (bs : List UInt8) (m : Int) : (getT bs m).2.1 ≤ bs.length := by
  unfold getT
  have h := getC_len bs m
  have h2 := getC_nonneg bs m
  split
  · simp
  · split
    · simp
    · simp only; omega

set_option maxHeartbeats 1000000 in
set_option maxRecDepth 100000 in
theorem int_any {w : World} {p : Nat} {base : Option Addr} {cap : Nat} {bs : List UInt8} {at0 er : Nat} (h : ReaderAt w p base cap bs at0 er) :
    Calls Try.prog 33 #[.pointer (some ⟨p, 0, none⟩)] w fun e w' =>
      e = .returned (.int .i64 (stepR 0 at0 er (getI (bs.drop at0))).1) ∧ ReaderAt w' p base cap bs (stepR 0 at0 er (getI (bs.drop at0))).2.1 (stepR 0 at0 er (getI (bs.drop at0))).2.2 ∧ w.grownBy w' (some p) := by
  have hl : (bs.drop at0).length = bs.length - at0 := List.length_drop
  have hget : Hid (∀ n, Calls Try.prog 52 #[.slice (subBase base cap at0) (bs.length - at0) (cap - at0)] (w.drewN n) fun e w' => e = .returned (.tuple #[.int .i64 (getI (bs.drop at0)).1, .int .i64 (getI (bs.drop at0)).2.1, .int .i64 (getI (bs.drop at0)).2.2]) ∧ w.drewN n = w') := fun n => by
    have hc := getInt_any (subBase base cap at0) (bs.drop at0) (cap - at0) (w.drewN n) (rowAt_drewN n (rowAt_drop h.row h.len)) (by rw [hl]; have := h.len; have := h.cap; omega)
    rw [hl] at hc
    exact hc
  have H := readInt_any h (getI (bs.drop at0)) (by rw [← hl]; exact getI_len _) (getI_e _) hget
  have HH : Hid (Calls Try.prog 46 #[.pointer (some ⟨p, 0, none⟩), .func (.func 52) #[] #[]] w fun e w' =>
      e = .returned (.int .i64 (stepR 0 at0 er (getI (bs.drop at0))).1) ∧ ReaderAt w' p base cap bs (stepR 0 at0 er (getI (bs.drop at0))).2.1 (stepR 0 at0 er (getI (bs.drop at0))).2.2 ∧ w.grownBy w' (some p)) := H
  clear H hget hl h
  generalize stepR 0 at0 er (getI (bs.drop at0)) = q at *
  go_enter Try.func33, Try.ntmps33
  go_wp2_with fail
  refine HH.out.mono ?_
  rintro e w1 ⟨rfl, hr1, hg1⟩
  have HR : Hid (ReaderAt w1 p base cap bs q.2.1 q.2.2 ∧ w.grownBy w1 (some p)) := ⟨hr1, hg1⟩
  clear hr1 hg1
  go_wp2
  go_ret
  exact ⟨rfl, HR.out⟩

set_option maxHeartbeats 1000000 in
set_option maxRecDepth 100000 in
theorem bool_any {w : World} {p : Nat} {base : Option Addr} {cap : Nat} {bs : List UInt8} {at0 er : Nat} (h : ReaderAt w p base cap bs at0 er) :
    Calls Try.prog 27 #[.pointer (some ⟨p, 0, none⟩)] w fun e w' =>
      e = .returned (.bool (stepR false at0 er (getB (bs.drop at0))).1) ∧ ReaderAt w' p base cap bs (stepR false at0 er (getB (bs.drop at0))).2.1 (stepR false at0 er (getB (bs.drop at0))).2.2 ∧ w.grownBy w' (some p) := by
  have hl : (bs.drop at0).length = bs.length - at0 := List.length_drop
  have hget : Hid (∀ n, Calls Try.prog 44 #[.slice (subBase base cap at0) (bs.length - at0) (cap - at0)] (w.drewN n) fun e w' => e = .returned (.tuple #[.bool (getB (bs.drop at0)).1, .int .i64 (getB (bs.drop at0)).2.1, .int .i64 (getB (bs.drop at0)).2.2]) ∧ w.drewN n = w') := fun n => by
    have hc := getBool_any (subBase base cap at0) (bs.drop at0) (cap - at0) (w.drewN n) (rowAt_drewN n (rowAt_drop h.row h.len)) (by rw [hl]; have := h.len; have := h.cap; omega)
    rw [hl] at hc
    exact hc
  have H := readBool_any h (getB (bs.drop at0)) (by rw [← hl]; exact getB_len _) (getB_e _) hget
  have HH : Hid (Calls Try.prog 43 #[.pointer (some ⟨p, 0, none⟩), .func (.func 44) #[] #[]] w fun e w' =>
      e = .returned (.bool (stepR false at0 er (getB (bs.drop at0))).1) ∧ ReaderAt w' p base cap bs (stepR false at0 er (getB (bs.drop at0))).2.1 (stepR false at0 er (getB (bs.drop at0))).2.2 ∧ w.grownBy w' (some p)) := H
  clear H hget hl h
  generalize stepR false at0 er (getB (bs.drop at0)) = q at *
  go_enter Try.func27, Try.ntmps27
  go_wp2_with fail
  refine HH.out.mono ?_
  rintro e w1 ⟨rfl, hr1, hg1⟩
  have HR : Hid (ReaderAt w1 p base cap bs q.2.1 q.2.2 ∧ w.grownBy w1 (some p)) := ⟨hr1, hg1⟩
  clear hr1 hg1
  go_wp2
  go_ret
  exact ⟨rfl, HR.out⟩

set_option maxHeartbeats 1000000 in
set_option maxRecDepth 100000 in
theorem count1_any (base : Option Addr) (bs : List UInt8) (cap mb : Nat) (most : Int) (w : World) (hr : rowAt w base bs) (hl : bs.length ≤ maxLen) (hm : w.cell? ⟨mb, 0, none⟩ = some (.int .i64 most)) :
    Calls Try.prog 47 #[.slice base bs.length cap, .pointer (some ⟨mb, 0, none⟩)] w fun e w' => e = .returned (.tuple #[.int .i64 (getC bs most).1, .int .i64 (getC bs most).2.1, .int .i64 (getC bs most).2.2]) ∧ w = w' := by
  have HC : Hid (Calls Try.prog 48 #[.slice base bs.length cap, .int .i64 most] w fun e w' => e = .returned (.tuple #[.int .i64 (getC bs most).1, .int .i64 (getC bs most).2.1, .int .i64 (getC bs most).2.2]) ∧ w = w') := getCount_any base bs cap most w hr hl
  clear hr hl
  generalize getC bs most = q at *
  go_enter Try.func47, Try.ntmps47
  go_wp2_with (go_at_call 48; refine (HC.out).mono ?_; rintro e w' ⟨rfl, rfl⟩)
  go_ret3
  exact ⟨rfl, rfl⟩

set_option maxHeartbeats 1000000 in
set_option maxRecDepth 100000 in
theorem text1_any (base : Option Addr) (bs : List UInt8) (cap mb : Nat) (most : Int) (w : World) (hr : rowAt w base bs) (hl : bs.length ≤ cap) (hcm : cap ≤ maxLen) (hm : w.cell? ⟨mb, 0, none⟩ = some (.int .i64 most)) :
    Calls Try.prog 50 #[.slice base bs.length cap, .pointer (some ⟨mb, 0, none⟩)] w fun e w' => e = .returned (.tuple #[.string ⟨(getT bs most).1.toArray⟩, .int .i64 (getT bs most).2.1, .int .i64 (getT bs most).2.2]) ∧ w = w' := by
  have HC : Hid (Calls Try.prog 51 #[.slice base bs.length cap, .int .i64 most] w fun e w' => e = .returned (.tuple #[.string ⟨(getT bs most).1.toArray⟩, .int .i64 (getT bs most).2.1, .int .i64 (getT bs most).2.2]) ∧ w = w') := getText_any base bs cap most w hr hl hcm
  clear hr hl hcm
  generalize getT bs most = q at *
  go_enter Try.func50, Try.ntmps50
  go_wp2_with (go_at_call 51; refine (HC.out).mono ?_; rintro e w' ⟨rfl, rfl⟩)
  go_ret3
  exact ⟨rfl, rfl⟩

set_option maxRecDepth 100000 in
theorem run_mf (fn : Fn) (first cap : Array Value) (w : World) : (Instr.makeFunc fn first cap).run Try.prog w = .ok (.func fn first cap) w := rfl

theorem grown_alloc {w w' : World} {o : Obj} {p : Nat} (hg : (w.alloc o).grownBy w' (some p)) : w.grownBy w' (some p) :=
  ⟨hg.os, hg.tape, hg.output, by have := hg.size; simp at this; omega, fun k hk hne => (hg.block k (by simp; omega) hne).trans (Below.heap_alloc _ _ _ hk)⟩

set_option maxHeartbeats 1000000 in
set_option maxRecDepth 100000 in
theorem count_any {w : World} {p : Nat} {base : Option Addr} {cap : Nat} {bs : List UInt8} {at0 er : Nat} (most : Int) (h : ReaderAt w p base cap bs at0 er) :
    Calls Try.prog 29 #[.pointer (some ⟨p, 0, none⟩), .int .i64 most] w fun e w' =>
      e = .returned (.int .i64 (stepR 0 at0 er (getC (bs.drop at0) most)).1) ∧ ReaderAt w' p base cap bs (stepR 0 at0 er (getC (bs.drop at0) most)).2.1 (stepR 0 at0 er (getC (bs.drop at0) most)).2.2 ∧ w.grownBy w' (some p) := by
  have hl : (bs.drop at0).length = bs.length - at0 := List.length_drop
  have h2 : ReaderAt (w.alloc (.cells #[.int .i64 most] 3)) p base cap bs at0 er := h.below ((Below.refl w.heap.size w).alloc (Nat.le_refl _) _) (Nat.le_refl _)
  have hget : Hid (∀ n, Calls Try.prog 47 #[.slice (subBase base cap at0) (bs.length - at0) (cap - at0), .pointer (some ⟨w.heap.size, 0, none⟩)] ((w.alloc (.cells #[.int .i64 most] 3)).drewN n) fun e w' => e = .returned (.tuple #[.int .i64 (getC (bs.drop at0) most).1, .int .i64 (getC (bs.drop at0) most).2.1, .int .i64 (getC (bs.drop at0) most).2.2]) ∧ (w.alloc (.cells #[.int .i64 most] 3)).drewN n = w') := fun n => by
    have hc := count1_any (subBase base cap at0) (bs.drop at0) (cap - at0) w.heap.size most ((w.alloc (.cells #[.int .i64 most] 3)).drewN n) (rowAt_drewN n (rowAt_drop h2.row h.len)) (by rw [hl]; have := h.len; have := h.cap; omega) (by simp)
    rw [hl] at hc
    exact hc
  have H := readCount_any h2 (getC (bs.drop at0) most) (by rw [← hl]; exact getC_len _ _) (getC_e _ _) w.heap.size hget
  have hmf := run_mf
  clear hget hl h h2
  have HH := H
  generalize stepR 0 at0 er (getC (bs.drop at0) most) = q at *
  clear H
  have HK : Hid (Calls Try.prog 46 #[.pointer (some ⟨p, 0, none⟩), .func (.func 47) #[] #[.pointer (some ⟨w.heap.size, 0, none⟩)]] (w.alloc (.cells #[.int .i64 most] 3)) fun e w' =>
      e = .returned (.int .i64 q.1) ∧ ReaderAt w' p base cap bs q.2.1 q.2.2 ∧ (w.alloc (.cells #[.int .i64 most] 3)).grownBy w' (some p)) := HH
  clear HH
  go_enter Try.func29, Try.ntmps29
  go_wp2_with fail
  refine HK.out.mono ?_
  rintro e w1 ⟨rfl, hr1, hg1⟩
  have HR : Hid (ReaderAt w1 p base cap bs q.2.1 q.2.2 ∧ w.grownBy w1 (some p)) := ⟨hr1, grown_alloc hg1⟩
  clear hr1 hg1
  go_wp2
  go_ret
  exact ⟨rfl, HR.out⟩

set_option maxHeartbeats 1000000 in
set_option maxRecDepth 100000 in
theorem text_any {w : World} {p : Nat} {base : Option Addr} {cap : Nat} {bs : List UInt8} {at0 er : Nat} (most : Int) (h : ReaderAt w p base cap bs at0 er) :
    Calls Try.prog 31 #[.pointer (some ⟨p, 0, none⟩), .int .i64 most] w fun e w' =>
      e = .returned (.string ⟨(stepR [] at0 er (getT (bs.drop at0) most)).1.toArray⟩) ∧ ReaderAt w' p base cap bs (stepR [] at0 er (getT (bs.drop at0) most)).2.1 (stepR [] at0 er (getT (bs.drop at0) most)).2.2 ∧ w.grownBy w' (some p) := by
  have hl : (bs.drop at0).length = bs.length - at0 := List.length_drop
  have h2 : ReaderAt (w.alloc (.cells #[.int .i64 most] 3)) p base cap bs at0 er := h.below ((Below.refl w.heap.size w).alloc (Nat.le_refl _) _) (Nat.le_refl _)
  have hget : Hid (∀ n, Calls Try.prog 50 #[.slice (subBase base cap at0) (bs.length - at0) (cap - at0), .pointer (some ⟨w.heap.size, 0, none⟩)] ((w.alloc (.cells #[.int .i64 most] 3)).drewN n) fun e w' => e = .returned (.tuple #[.string ⟨(getT (bs.drop at0) most).1.toArray⟩, .int .i64 (getT (bs.drop at0) most).2.1, .int .i64 (getT (bs.drop at0) most).2.2]) ∧ (w.alloc (.cells #[.int .i64 most] 3)).drewN n = w') := fun n => by
    have hc := text1_any (subBase base cap at0) (bs.drop at0) (cap - at0) w.heap.size most ((w.alloc (.cells #[.int .i64 most] 3)).drewN n) (rowAt_drewN n (rowAt_drop h2.row h.len)) (by rw [hl]; have := h.len; omega) (by have := h.cap; omega) (by simp)
    rw [hl] at hc
    exact hc
  have H := readText_any h2 (getT (bs.drop at0) most) (by rw [← hl]; exact getT_len _ _) (getT_e _ _) w.heap.size hget
  have hmf := run_mf
  clear hget hl h h2
  have HH := H
  generalize stepR [] at0 er (getT (bs.drop at0) most) = q at *
  clear H
  have HK : Hid (Calls Try.prog 49 #[.pointer (some ⟨p, 0, none⟩), .func (.func 50) #[] #[.pointer (some ⟨w.heap.size, 0, none⟩)]] (w.alloc (.cells #[.int .i64 most] 3)) fun e w' =>
      e = .returned (.string ⟨q.1.toArray⟩) ∧ ReaderAt w' p base cap bs q.2.1 q.2.2 ∧ (w.alloc (.cells #[.int .i64 most] 3)).grownBy w' (some p)) := HH
  clear HH
  go_enter Try.func31, Try.ntmps31
  go_wp2_with fail
  refine HK.out.mono ?_
  rintro e w1 ⟨rfl, hr1, hg1⟩
  have HR : Hid (ReaderAt w1 p base cap bs q.2.1 q.2.2 ∧ w.grownBy w1 (some p)) := ⟨hr1, grown_alloc hg1⟩
  clear hr1 hg1
  go_wp2
  go_ret
  exact ⟨rfl, HR.out⟩

set_option maxHeartbeats 1000000 in
set_option maxRecDepth 100000 in
theorem at_any {w : World} {p : Nat} {base : Option Addr} {cap : Nat} {bs : List UInt8} {at0 er : Nat} (h : ReaderAt w p base cap bs at0 er) :
    Calls Try.prog 10 #[.pointer (some ⟨p, 0, none⟩)] w fun e w' => e = .returned (.int .i64 at0) ∧ w = w' := by
  have h2 := h.at_
  clear h
  go_enter Try.func10, Try.ntmps10
  go_wp2
  go_ret
  exact ⟨rfl, rfl⟩

/-- What End tells. -/
def endR (len at0 er : Nat) : Nat := if er ≠ 0 then er else if at0 < len then 5 else 0

theorem drewN_zero (w : World) : w = w.drewN 0 := rfl

set_option maxHeartbeats 1000000 in
set_option maxRecDepth 100000 in
theorem end_any {w : World} {p : Nat} {base : Option Addr} {cap : Nat} {bs : List UInt8} {at0 er : Nat} (h : ReaderAt w p base cap bs at0 er) :
    Calls Try.prog 12 #[.pointer (some ⟨p, 0, none⟩)] w fun e w' => e = .returned (.int .i64 (endR bs.length at0 er)) ∧ ∃ n, w' = w.drewN n := by
  have hE : Hid (ReaderAt w p base cap bs at0 er) := h
  have h1 := h.b
  have h2 := h.at_
  clear h
  by_cases her : er ≠ 0
  · have HS : Hid (endR bs.length at0 er = er) := if_pos her
    have t0 : ((er : Int) != 0) = true := by rw [bne_iff_ne]; omega
    clear her
    go_enter Try.func12, Try.ntmps12
    go_wp2_with (go_at_call 11; refine (err_any hE.out).mono ?_; rintro e w' ⟨rfl, rfl⟩)
    go_ret
    rw [HS.out]
    exact ⟨rfl, 0, rfl⟩
  · have e9 : er = 0 := by omega
    subst e9
    by_cases hlt : at0 < bs.length
    · have HS : Hid (endR bs.length at0 0 = 5) := (if_neg her).trans (if_pos hlt)
      clear her
      go_enter Try.func12, Try.ntmps12
      go_wp2_with (go_at_call 11; refine (err_any hE.out).mono ?_; rintro e w' ⟨rfl, rfl⟩)
      go_quiet (fail)
      go_wp2
      go_ret
      rw [HS.out]
      exact ⟨rfl, _, rfl⟩
    · have HS : Hid (endR bs.length at0 0 = 0) := (if_neg her).trans (if_neg hlt)
      clear her
      go_enter Try.func12, Try.ntmps12
      go_wp2_with (go_at_call 11; refine (err_any hE.out).mono ?_; rintro e w' ⟨rfl, rfl⟩)
      go_quiet (fail)
      go_wp2
      go_ret
      rw [HS.out]
      exact ⟨rfl, _, rfl⟩

theorem own_row {w : World} {B e n : Nat} {v : Value} {bs : List UInt8} (h : w.ownsRow B e 1 v n (Lib.byteCells bs)) :
    ∃ base cap, v = .slice base bs.length cap ∧ rowAt w base bs ∧ bs.length ≤ cap ∧ cap ≤ maxLen ∧ (∀ a, base = some a → B ≤ a.block ∧ a.block < w.heap.size) := by
  have hl := h.1
  rw [Lib.byteCells_length, Nat.mul_one] at hl
  have hlt := h.lt
  obtain ⟨h1, h2⟩ := h
  rcases h2 with ⟨rfl, rfl⟩ | ⟨g, cap, cur, rfl, hg, hh, hnc, hm, hs, ht⟩
  · obtain rfl : bs = [] := List.length_eq_zero_iff.1 hl
    exact ⟨none, 0, rfl, .inl rfl, Nat.le_refl _, Nat.zero_le _, fun a ha => by cases ha⟩
  · refine ⟨some ⟨g, 0, none⟩, cap, by rw [hl], ?_, by omega, hm, fun a ha => by cases ha; exact hlt g rfl⟩
    have h' : w.ownsRow B e 1 (.slice (some ⟨g, 0, none⟩) n cap) n (Lib.byteCells bs) := ⟨h1, .inr ⟨g, cap, cur, rfl, hg, hh, hnc, hm, hs, ht⟩⟩
    refine .inr ⟨g, 0, rfl, fun j hj => ?_⟩
    have hc := h'.cells rfl j (.int .u8 (bs[j].toNat : Int)) (by unfold Lib.byteCells; rw [List.getElem?_map, List.getElem?_eq_getElem hj]; rfl)
    rw [add_plain] at hc
    exact hc

set_option maxHeartbeats 1000000 in
set_option maxRecDepth 100000 in
theorem newReader_any (v : Value) (bs : List UInt8) (w : World) (hv : bytesAt w v bs) (hb : bs.length ≤ 140737488355328) :
    Calls Try.prog 8 #[v] w fun e w' => ∃ p base cap, e = .returned (.pointer (some ⟨p, 0, none⟩)) ∧ ReaderAt w' p base cap bs 0 0 ∧ w.heap.size ≤ p ∧ p < w'.heap.size ∧ (∀ a, base = some a → w.heap.size ≤ a.block ∧ a.block < w'.heap.size) ∧ Below w.heap.size w w' := by
  have HV : Hid (bytesAt w v bs) := hv
  obtain ⟨base0, cap0, rfl, hrest⟩ := hv
  clear hrest
  go_enter Try.func8, Try.ntmps8
  go_wp2_with fail
  refine (clone_any _ bs _ HV.out hb).mono ?_
  rintro e w1 ⟨v1, rfl, hown, hb1⟩
  obtain ⟨base, cap, rfl, hrow, hlen, hcap, hblk⟩ := own_row hown
  have hsz := hb1.size
  have HR : Hid (rowAt w1 base bs ∧ bs.length ≤ cap ∧ cap ≤ maxLen ∧ (∀ a, base = some a → w.heap.size ≤ a.block ∧ a.block < w1.heap.size) ∧ Below w.heap.size w w1) := ⟨hrow, hlen, hcap, hblk, hb1⟩
  clear hrow hlen hcap hblk hb1 hown
  go_wp2
  go_ret
  obtain ⟨hrow, hlen, hcap, hblk, hb1⟩ := HR.out
  refine ⟨w1.heap.size, base, cap, rfl, ⟨by simp, by simp, by simp, by simp, by simp, by simp, ?_, hlen, hcap, Nat.zero_le _, ?_, Nat.zero_le _⟩, hsz, by simp, ?_, hb1.alloc hsz _⟩
  · exact rowAt_kept hrow (fun a _ hl => Below.heap_alloc _ _ _ hl)
  · intro a ha; have := (hblk a ha).2; omega
  · intro a ha; have := hblk a ha; simp; omega

theorem bytesAt_lit {w : World} {bs : List UInt8} {g n : Nat} (hn : n = bs.length) (hm : n ≤ maxLen) (hc : ∀ j u, (Lib.byteCells bs)[j]? = some u → w.cell? ⟨g, j, none⟩ = some u) : bytesAt w (.slice (some ⟨g, 0, none⟩) n n) bs := by
  subst hn
  refine ⟨some ⟨g, 0, none⟩, bs.length, rfl, (fun h => by cases h), Nat.le_refl _, hm, fun a ha j u hj => ?_⟩
  cases ha
  rw [add_plain, Nat.zero_add]
  exact hc j u hj

theorem below_of_grown {B : Nat} {a w w' : World} {p : Nat} (h : Below B a w) (hg : w.grownBy w' (some p)) (hB : B ≤ w.heap.size) (hp : B ≤ p) : Below B a w' :=
  h.grown hg hB (fun k hk => by cases hk; exact hp)

end Go.Proofs.Ytffedjgbhdaecaa
