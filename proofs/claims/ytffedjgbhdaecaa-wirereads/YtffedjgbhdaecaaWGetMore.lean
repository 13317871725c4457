/- getBool, getCount, getText: what they answer, of any bytes. -/
import Derived.Test.YtffedjgbhdaecaaWGetInt
import Derived.Lib.MinMax
import Derived.Laws.IdiomStrings
namespace Go.Proofs.Ytffedjgbhdaecaa
open Go.RowKit

/-- A truth off bytes. -/
def getB (bs : List UInt8) : Bool × Nat × Nat :=
  match bs with
  | [] => (false, 0, 3)
  | x :: _ => if 1 < x.toNat then (false, 0, 4) else (x.toNat == 1, 1, 0)

/-- A count off bytes. -/
def getC (bs : List UInt8) (most : Int) : Int × Nat × Nat :=
  if (getI bs).2.2 ≠ 0 then (0, 0, (getI bs).2.2) else if (getI bs).1 < 0 then (0, 0, 4) else if max most 0 < (getI bs).1 then (0, 0, 5) else getI bs

/-- A text off bytes. -/
def getT (bs : List UInt8) (most : Int) : List UInt8 × Nat × Nat :=
  if (getC bs most).2.2 ≠ 0 then ([], 0, (getC bs most).2.2) else if ((bs.length : Int) - (getC bs most).2.1) < (getC bs most).1 then ([], 0, 3)
  else ((bs.drop (getC bs most).2.1).take (getC bs most).1.toNat, (getC bs most).2.1 + (getC bs most).1.toNat, 0)

theorem ret3b {a b : Bool × Nat × Nat} (h : a = b) : (Ending.returned (.tuple #[.bool b.1, .int .i64 b.2.1, .int .i64 b.2.2]) : Ending) = Ending.returned (.tuple #[.bool a.1, .int .i64 a.2.1, .int .i64 a.2.2]) := by rw [h]
theorem ret3t {a b : List UInt8 × Nat × Nat} (h : a = b) : (Ending.returned (.tuple #[.string ⟨b.1.toArray⟩, .int .i64 b.2.1, .int .i64 b.2.2]) : Ending) = Ending.returned (.tuple #[.string ⟨a.1.toArray⟩, .int .i64 a.2.1, .int .i64 a.2.2]) := by rw [h]

set_option maxHeartbeats 2000000 in
set_option maxRecDepth 100000 in
theorem getBool_any (base : Option Addr) (bs : List UInt8) (cap : Nat) (w : World) (hr : rowAt w base bs) (hl : bs.length ≤ maxLen) :
    Calls Try.prog 44 #[.slice base bs.length cap] w fun e w' => e = .returned (.tuple #[.bool (getB bs).1, .int .i64 (getB bs).2.1, .int .i64 (getB bs).2.2]) ∧ w = w' := by
  unfold maxLen at hl
  cases bs with
  | nil =>
    have HG : Hid (getB [] = (false, 0, 3)) := rfl
    show Calls Try.prog 44 #[.slice base 0 cap] w _
    go_enter Try.func44, Try.ntmps44
    go_wp2
    go_ret3
    exact ⟨ret3b HG.out, rfl⟩
  | cons x r =>
    rcases hr with h | ⟨b, o, rfl, hcell⟩
    · cases h
    · have hc : w.cell? ⟨b, o, none⟩ = some (.int .u8 (x.toNat : Int)) := hcell 0 (by simp)
      have HG : Hid (getB (x :: r) = if 1 < x.toNat then (false, 0, 4) else (x.toNat == 1, 1, 0)) := rfl
      have hx256 : x.toNat < 256 := UInt8.toNat_lt _
      obtain ⟨len, hlen⟩ : ∃ len, len = (x :: r).length := ⟨_, rfl⟩
      have hpos : 0 < len := by rw [hlen]; simp
      rw [← hlen] at hl ⊢
      have t0 : ((len : Int) == 0) = false := by rw [beq_eq_false_iff_ne]; omega
      clear hlen hcell
      generalize x.toNat = y at *
      by_cases hy : 1 < y
      · have HH : Hid (getB (x :: r) = (false, 0, 4)) := by have h := HG.out; rw [if_pos hy] at h; exact h
        clear HG
        go_enter Try.func44, Try.ntmps44
        go_wp2
        go_ret3
        exact ⟨ret3b HH.out, rfl⟩
      · have HH : Hid (getB (x :: r) = (y == 1, 1, 0)) := by have h := HG.out; rw [if_neg hy] at h; exact h
        clear HG
        have e : ((y : Int) == 1) = (y == 1) := by
          by_cases h : y = 1
          · subst h; rfl
          · rw [beq_eq_false_iff_ne.2 h, beq_eq_false_iff_ne.2 (by omega)]
        generalize (y == 1) = z at *
        go_enter Try.func44, Try.ntmps44
        go_wp2
        go_ret3
        exact ⟨ret3b HH.out, rfl⟩

set_option maxHeartbeats 2000000 in
set_option maxRecDepth 100000 in
theorem getCount_any (base : Option Addr) (bs : List UInt8) (cap : Nat) (most : Int) (w : World) (hr : rowAt w base bs) (hl : bs.length ≤ maxLen) :
    Calls Try.prog 48 #[.slice base bs.length cap, .int .i64 most] w fun e w' => e = .returned (.tuple #[.int .i64 (getC bs most).1, .int .i64 (getC bs most).2.1, .int .i64 (getC bs most).2.2]) ∧ w = w' := by
  have HC : Hid (getC bs most = if (getI bs).2.2 ≠ 0 then (0, 0, (getI bs).2.2) else if (getI bs).1 < 0 then (0, 0, 4) else if max most 0 < (getI bs).1 then (0, 0, 5) else getI bs) := rfl
  have hI : Hid (∀ w, rowAt w base bs → Calls Try.prog 52 #[.slice base bs.length cap] w fun e w' => e = .returned (.tuple #[.int .i64 (getI bs).1, .int .i64 (getI bs).2.1, .int .i64 (getI bs).2.2]) ∧ w = w') := fun w hr => getInt_any base bs cap w hr hl
  generalize hlen : bs.length = len at *
  clear hlen
  obtain ⟨q, hq⟩ : ∃ q, q = getI bs := ⟨_, rfl⟩
  rw [← hq] at HC hI
  clear hq
  obtain ⟨n, sz, er⟩ := q
  by_cases h0 : er ≠ 0
  · have HG : Hid (getC bs most = (0, 0, er)) := by have h := HC.out; rw [if_pos h0] at h; exact h
    have t0 : ((er : Int) != 0) = true := by rw [bne_iff_ne]; omega
    clear HC h0
    go_enter Try.func48, Try.ntmps48
    go_wp2_with (go_at_call 52; refine (hI.out _ hr).mono ?_; rintro e w' ⟨rfl, rfl⟩)
    go_ret3
    exact ⟨ret3 HG.out, rfl⟩
  · have e0 : er = 0 := by omega
    subst e0
    by_cases h1 : n < 0
    · have HG : Hid (getC bs most = (0, 0, 4)) := by have h := HC.out; rw [if_neg h0, if_pos h1] at h; exact h
      clear HC h0
      go_enter Try.func48, Try.ntmps48
      go_wp2_with (go_at_call 52; refine (hI.out _ hr).mono ?_; rintro e w' ⟨rfl, rfl⟩)
      go_ret3
      exact ⟨ret3 HG.out, rfl⟩
    · by_cases h2 : max most 0 < n
      · have HG : Hid (getC bs most = (0, 0, 5)) := by have h := HC.out; rw [if_neg h0, if_neg h1, if_pos h2] at h; exact h
        clear HC h0
        go_enter Try.func48, Try.ntmps48
        go_wp2_with (go_at_call 52; refine (hI.out _ hr).mono ?_; rintro e w' ⟨rfl, rfl⟩)
        go_ret3
        exact ⟨ret3 HG.out, rfl⟩
      · have HG : Hid (getC bs most = (n, sz, 0)) := by have h := HC.out; rw [if_neg h0, if_neg h1, if_neg h2] at h; exact h
        clear HC h0
        go_enter Try.func48, Try.ntmps48
        go_wp2_with (go_at_call 52; refine (hI.out _ hr).mono ?_; rintro e w' ⟨rfl, rfl⟩)
        go_ret3
        exact ⟨ret3 HG.out, rfl⟩
end Go.Proofs.Ytffedjgbhdaecaa
