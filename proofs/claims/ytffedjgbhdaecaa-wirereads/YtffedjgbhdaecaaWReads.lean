/- What read does at a truth, a count and a text. -/
import Derived.Test.YtffedjgbhdaecaaWRead
namespace Go.Proofs.Ytffedjgbhdaecaa
open Go.RowKit

set_option maxHeartbeats 2000000 in
set_option maxRecDepth 100000 in
theorem readBool_any {w : World} {p : Nat} {base : Option Addr} {cap : Nat} {bs : List UInt8} {at0 er : Nat} (h : ReaderAt w p base cap bs at0 er) (g : Bool × Nat × Nat) (hg : g.2.1 ≤ bs.length - at0) (hg9 : g.2.2 ≤ 9)
    (hget : Hid (∀ n, Calls Try.prog 44 #[.slice (subBase base cap at0) (bs.length - at0) (cap - at0)] (w.drewN n) fun e w' => e = .returned (.tuple #[.bool g.1, .int .i64 g.2.1, .int .i64 g.2.2]) ∧ w.drewN n = w')) :
    Calls Try.prog 43 #[.pointer (some ⟨p, 0, none⟩), .func (.func 44) #[] #[]] w fun e w' =>
      e = .returned (.bool (stepR false at0 er g).1) ∧ ReaderAt w' p base cap bs (stepR false at0 er g).2.1 (stepR false at0 er g).2.2 ∧ w.grownBy w' (some p) := by
  have hE : Hid (ReaderAt w p base cap bs at0 er) := h
  have hsl := fun wx => run_from wx base bs.length cap at0 h.at_le
  have h1 := h.b
  have h2 := h.at_
  have h3 := h.err
  have h4 := h.f2
  have h5 := h.f3
  have hle := h.at_le
  have hc := h.len
  have hm := h.cap
  unfold maxLen at hm
  clear h
  generalize subBase base cap at0 = base2 at *
  obtain ⟨v, sz, e0⟩ := g
  simp only at hget hg hg9
  by_cases her : er ≠ 0
  · have HS : Hid (stepR false at0 er (v, sz, e0) = (false, at0, er)) := if_pos her
    have t0 : ((er : Int) != 0) = true := by rw [bne_iff_ne]; omega
    clear her
    go_enter Try.func43, Try.ntmps43
    go_wp2_with (go_at_call 11; refine (err_any hE.out).mono ?_; rintro e w' ⟨rfl, rfl⟩)
    go_ret
    rw [HS.out]
    exact ⟨rfl, hE.out, grownBy_refl _ _⟩
  · have e9 : er = 0 := by omega
    subst e9
    by_cases he0 : e0 ≠ 0
    · have HS : Hid (stepR false at0 0 (v, sz, e0) = (false, at0, e0)) := (if_neg her).trans (if_pos he0)
      have t0 : ((e0 : Int) != 0) = true := by rw [bne_iff_ne]; omega
      clear her he0
      go_enter Try.func43, Try.ntmps43
      go_wp2_with (go_at_call 11; refine (err_any hE.out).mono ?_; rintro e w' ⟨rfl, rfl⟩)
      go_quiet ((go_at_call 44; exact quiet_mine (hget.out _)))
      go_wp2
      go_ret
      rw [HS.out]
      exact ⟨rfl, hE.out.setErr _ _ hg9, setAt_grown⟩
    · have e8 : e0 = 0 := by omega
      subst e8
      have HS : Hid (stepR false at0 0 (v, sz, 0) = (v, at0 + sz, 0)) := (if_neg her).trans (if_neg he0)
      clear her he0
      go_enter Try.func43, Try.ntmps43
      go_wp2_with (go_at_call 11; refine (err_any hE.out).mono ?_; rintro e w' ⟨rfl, rfl⟩)
      go_quiet ((go_at_call 44; exact quiet_mine (hget.out _)))
      go_wp2
      go_ret
      rw [HS.out]
      exact ⟨rfl, hE.out.setAt _ _ (by omega), setAt_grown⟩

set_option maxHeartbeats 2000000 in
set_option maxRecDepth 100000 in
theorem readCount_any {w : World} {p : Nat} {base : Option Addr} {cap : Nat} {bs : List UInt8} {at0 er : Nat} (h : ReaderAt w p base cap bs at0 er) (g : Int × Nat × Nat) (hg : g.2.1 ≤ bs.length - at0) (hg9 : g.2.2 ≤ 9) (mb : Nat)
    (hget : Hid (∀ n, Calls Try.prog 47 #[.slice (subBase base cap at0) (bs.length - at0) (cap - at0), .pointer (some ⟨mb, 0, none⟩)] (w.drewN n) fun e w' => e = .returned (.tuple #[.int .i64 g.1, .int .i64 g.2.1, .int .i64 g.2.2]) ∧ w.drewN n = w')) :
    Calls Try.prog 46 #[.pointer (some ⟨p, 0, none⟩), .func (.func 47) #[] #[.pointer (some ⟨mb, 0, none⟩)]] w fun e w' =>
      e = .returned (.int .i64 (stepR 0 at0 er g).1) ∧ ReaderAt w' p base cap bs (stepR 0 at0 er g).2.1 (stepR 0 at0 er g).2.2 ∧ w.grownBy w' (some p) := by
  have hE : Hid (ReaderAt w p base cap bs at0 er) := h
  have hsl := fun wx => run_from wx base bs.length cap at0 h.at_le
  have h1 := h.b
  have h2 := h.at_
  have h3 := h.err
  have h4 := h.f2
  have h5 := h.f3
  have hle := h.at_le
  have hc := h.len
  have hm := h.cap
  unfold maxLen at hm
  clear h
  generalize subBase base cap at0 = base2 at *
  obtain ⟨v, sz, e0⟩ := g
  simp only at hget hg hg9
  by_cases her : er ≠ 0
  · have HS : Hid (stepR 0 at0 er (v, sz, e0) = (0, at0, er)) := if_pos her
    have t0 : ((er : Int) != 0) = true := by rw [bne_iff_ne]; omega
    clear her
    go_enter Try.func46, Try.ntmps46
    go_wp2_with (go_at_call 11; refine (err_any hE.out).mono ?_; rintro e w' ⟨rfl, rfl⟩)
    go_ret
    rw [HS.out]
    exact ⟨rfl, hE.out, grownBy_refl _ _⟩
  · have e9 : er = 0 := by omega
    subst e9
    by_cases he0 : e0 ≠ 0
    · have HS : Hid (stepR 0 at0 0 (v, sz, e0) = (0, at0, e0)) := (if_neg her).trans (if_pos he0)
      have t0 : ((e0 : Int) != 0) = true := by rw [bne_iff_ne]; omega
      clear her he0
      go_enter Try.func46, Try.ntmps46
      go_wp2_with (go_at_call 11; refine (err_any hE.out).mono ?_; rintro e w' ⟨rfl, rfl⟩)
      go_quiet ((go_at_call 47; exact quiet_mine (hget.out _)))
      go_wp2
      go_ret
      rw [HS.out]
      exact ⟨rfl, hE.out.setErr _ _ hg9, setAt_grown⟩
    · have e8 : e0 = 0 := by omega
      subst e8
      have HS : Hid (stepR 0 at0 0 (v, sz, 0) = (v, at0 + sz, 0)) := (if_neg her).trans (if_neg he0)
      clear her he0
      go_enter Try.func46, Try.ntmps46
      go_wp2_with (go_at_call 11; refine (err_any hE.out).mono ?_; rintro e w' ⟨rfl, rfl⟩)
      go_quiet ((go_at_call 47; exact quiet_mine (hget.out _)))
      go_wp2
      go_ret
      rw [HS.out]
      exact ⟨rfl, hE.out.setAt _ _ (by omega), setAt_grown⟩

set_option maxHeartbeats 2000000 in
set_option maxRecDepth 100000 in
theorem readText_any {w : World} {p : Nat} {base : Option Addr} {cap : Nat} {bs : List UInt8} {at0 er : Nat} (h : ReaderAt w p base cap bs at0 er) (g : List UInt8 × Nat × Nat) (hg : g.2.1 ≤ bs.length - at0) (hg9 : g.2.2 ≤ 9) (mb : Nat)
    (hget : Hid (∀ n, Calls Try.prog 50 #[.slice (subBase base cap at0) (bs.length - at0) (cap - at0), .pointer (some ⟨mb, 0, none⟩)] (w.drewN n) fun e w' => e = .returned (.tuple #[.string ⟨g.1.toArray⟩, .int .i64 g.2.1, .int .i64 g.2.2]) ∧ w.drewN n = w')) :
    Calls Try.prog 49 #[.pointer (some ⟨p, 0, none⟩), .func (.func 50) #[] #[.pointer (some ⟨mb, 0, none⟩)]] w fun e w' =>
      e = .returned (.string ⟨(stepR [] at0 er g).1.toArray⟩) ∧ ReaderAt w' p base cap bs (stepR [] at0 er g).2.1 (stepR [] at0 er g).2.2 ∧ w.grownBy w' (some p) := by
  have hE : Hid (ReaderAt w p base cap bs at0 er) := h
  have hsl := fun wx => run_from wx base bs.length cap at0 h.at_le
  have h1 := h.b
  have h2 := h.at_
  have h3 := h.err
  have h4 := h.f2
  have h5 := h.f3
  have hle := h.at_le
  have hc := h.len
  have hm := h.cap
  unfold maxLen at hm
  clear h
  generalize subBase base cap at0 = base2 at *
  obtain ⟨v, sz, e0⟩ := g
  simp only at hget hg hg9
  by_cases her : er ≠ 0
  · have HS : Hid (stepR [] at0 er (v, sz, e0) = ([], at0, er)) := if_pos her
    have t0 : ((er : Int) != 0) = true := by rw [bne_iff_ne]; omega
    clear her
    go_enter Try.func49, Try.ntmps49
    go_wp2_with (go_at_call 11; refine (err_any hE.out).mono ?_; rintro e w' ⟨rfl, rfl⟩)
    go_ret
    rw [HS.out]
    exact ⟨rfl, hE.out, grownBy_refl _ _⟩
  · have e9 : er = 0 := by omega
    subst e9
    by_cases he0 : e0 ≠ 0
    · have HS : Hid (stepR [] at0 0 (v, sz, e0) = ([], at0, e0)) := (if_neg her).trans (if_pos he0)
      have t0 : ((e0 : Int) != 0) = true := by rw [bne_iff_ne]; omega
      clear her he0
      go_enter Try.func49, Try.ntmps49
      go_wp2_with (go_at_call 11; refine (err_any hE.out).mono ?_; rintro e w' ⟨rfl, rfl⟩)
      go_quiet ((go_at_call 50; exact quiet_mine (hget.out _)))
      go_wp2
      go_ret
      rw [HS.out]
      exact ⟨rfl, hE.out.setErr _ _ hg9, setAt_grown⟩
    · have e8 : e0 = 0 := by omega
      subst e8
      have HS : Hid (stepR [] at0 0 (v, sz, 0) = (v, at0 + sz, 0)) := (if_neg her).trans (if_neg he0)
      clear her he0
      go_enter Try.func49, Try.ntmps49
      go_wp2_with (go_at_call 11; refine (err_any hE.out).mono ?_; rintro e w' ⟨rfl, rfl⟩)
      go_quiet ((go_at_call 50; exact quiet_mine (hget.out _)))
      go_wp2
      go_ret
      rw [HS.out]
      exact ⟨rfl, hE.out.setAt _ _ (by omega), setAt_grown⟩
end Go.Proofs.Ytffedjgbhdaecaa
