/- lex: kinds of bytes, rows of them. -/
import Derived.Test.YtchpmnmngeebjaaGreatDoorXStr
namespace Go.Proofs.YtchpmnmngeebjaaGreatDoor
open Go.RowKit

def letterN (n : Nat) : Bool := n == 95 || (decide (97 ≤ n) && decide (n ≤ 122)) || (decide (65 ≤ n) && decide (n ≤ 90))
def digitN (n : Nat) : Bool := decide (48 ≤ n) && decide (n ≤ 57)
def blankN (n : Nat) : Bool := n == 32 || n == 9 || n == 10
def noEndN (n : Nat) : Bool := n != 10

theorem retb {a b : Bool} (h : a = b) : Ending.returned (.bool a) = .returned (.bool b) := by rw [h]

set_option maxHeartbeats 1000000 in
set_option maxRecDepth 100000 in
theorem beginsName_any (n : Nat) (hn : n < 256) (w : World) :
    Calls Tryz.prog 74 #[.int .u8 n] w fun e w' => e = .returned (.bool (letterN n)) ∧ w = w' := by
  go_enter Tryz.func74, Tryz.ntmps74
  go_wp2
  all_goals go_ret
  all_goals refine ⟨retb ?_, rfl⟩
  all_goals (rw [Bool.eq_iff_iff]; simp [letterN]; try omega)

set_option maxHeartbeats 1000000 in
set_option maxRecDepth 100000 in
theorem isDigit_any (n : Nat) (hn : n < 256) (w : World) :
    Calls Tryz.prog 76 #[.int .u8 n] w fun e w' => e = .returned (.bool (digitN n)) ∧ w = w' := by
  go_enter Tryz.func76, Tryz.ntmps76
  go_wp2
  all_goals go_ret
  all_goals refine ⟨retb ?_, rfl⟩
  all_goals (rw [Bool.eq_iff_iff]; simp [digitN]; try omega)

def nameN (n : Nat) : Bool := letterN n || digitN n

set_option maxHeartbeats 1000000 in
set_option maxRecDepth 100000 in
theorem name1_any (n : Nat) (hn : n < 256) (w : World) :
    Calls Tryz.prog 87 #[.int .u8 n] w fun e w' => e = .returned (.bool (nameN n)) ∧ w = w' := by
  cases h1 : letterN n with
  | true =>
    have c1 := beginsName_any n hn w
    rw [h1] at c1
    go_enter Tryz.func87, Tryz.ntmps87
    go_wp2_with fail
    refine c1.mono ?_
    rintro e w1 ⟨rfl, rfl⟩
    go_wp2
    go_ret
    exact ⟨retb (by simp [nameN, h1]), rfl⟩
  | false =>
    have c1 := beginsName_any n hn w
    rw [h1] at c1
    go_enter Tryz.func87, Tryz.ntmps87
    go_wp2_with fail
    refine c1.mono ?_
    rintro e w1 ⟨rfl, rfl⟩
    go_wp2_with fail
    refine (isDigit_any n hn w).mono ?_
    rintro e w1 ⟨rfl, rfl⟩
    go_wp2
    go_ret
    exact ⟨retb (by simp [nameN, h1]), rfl⟩

theorem row_len (p : UInt8 → Bool) : ∀ (l : List UInt8) (k : Nat), k ≤ l.length → (∀ j (h : j < l.length), j < k → p l[j] = true) → (∀ h : k < l.length, p l[k] = false) → (l.takeWhile p).length = k
  | [], k, hk, _, _ => by simp at hk; simp [hk]
  | x :: l, 0, _, _, h2 => by
    have := h2 (by simp)
    simp at this
    simp [this]
  | x :: l, k + 1, hk, h1, h2 => by
    have h0 : p x = true := h1 0 (by simp) (by omega)
    have := row_len p l k (by simpa using hk) (fun j h hj => h1 (j + 1) (by simpa using h) (by omega)) (fun h => h2 (by simpa using h))
    simp [h0, this]

set_option maxHeartbeats 1000000 in
set_option maxRecDepth 100000 in
theorem row_digit (l : List UInt8) (w : World) (hl : l.length ≤ 9223372036854775000) :
    Calls Tryz.prog 86 #[.string (strB l), .func (.func 76) #[] #[]] w fun e w' => e = .returned (.int .i64 (l.takeWhile fun c => digitN c.toNat).length) ∧ w = w' := by
  obtain ⟨p, hpe⟩ : ∃ p : UInt8 → Bool, p = fun c => digitN c.toNat := ⟨_, rfl⟩
  have HK : Hid (∀ (c : UInt8) (wx : World), Calls Tryz.prog 76 #[.int .u8 (c.toNat : Int)] wx fun e w' => e = .returned (.bool (p c)) ∧ wx = w') := fun c wx => by rw [hpe]; exact isDigit_any c.toNat (UInt8.toNat_lt c) wx
  rw [← hpe]
  clear hpe
  have hsz : (strB l).size = l.length := rfl
  go_enter Tryz.func86, Tryz.ntmps86
  go_wp2
  go_loop [5] (fun v => ∃ i : Nat, i ≤ l.length ∧ v = .int .i64 i ∧ ∀ j (h : j < l.length), j < i → p l[j] = true) (fun v => l.length - (intOf v).toNat)
  case atStart => exact ⟨0, Nat.zero_le _, rfl, fun j h hj => by omega⟩
  case round =>
    obtain ⟨i, hi, rfl, hall⟩ := hrel
    have HA : Hid (∀ j (h : j < l.length), j < i → p l[j] = true) := hall
    clear hall
    by_cases hlt : i < l.length
    · have hidx : ∀ wx, (Instr.index 9 (.string (strB l)) (.int .i64 (i : Int))).run Tryz.prog wx = .ok (.int .u8 ((l[i]).toNat : Int)) wx := fun wx => by
        rw [run_index_string (P := Tryz.prog) (w := wx) 9 (strB l) .i64 _ Tryz.underlying9, dif_pos ⟨by omega, by rw [strB_size]; omega⟩]
        simp only [Int.toNat_natCast]
        rfl
      go_wp2_with fail
      refine (HK.out l[i] w).mono ?_
      rintro e w1 ⟨rfl, rfl⟩
      cases hp : p l[i] with
      | true =>
        go_wp2
        refine ⟨⟨i + 1, by omega, by go_num, fun j h hj => ?_⟩, by simp [intOf]; omega⟩
        by_cases hji : j < i
        · exact HA.out j h hji
        · obtain rfl : j = i := by omega
          exact hp
      | false =>
        have HL : Hid ((l.takeWhile p).length = i) := row_len p l i hi HA.out (fun _ => hp)
        go_wp2
        go_ret
        rw [HL.out]
        exact ⟨rfl, rfl⟩
    · obtain rfl : i = l.length := by omega
      have HL : Hid ((l.takeWhile p).length = l.length) := row_len p l l.length hi HA.out (fun h => absurd h (by omega))
      go_wp2
      go_ret
      rw [HL.out]
      exact ⟨rfl, rfl⟩

set_option maxHeartbeats 1000000 in
set_option maxRecDepth 100000 in
theorem row_name (l : List UInt8) (w : World) (hl : l.length ≤ 9223372036854775000) :
    Calls Tryz.prog 86 #[.string (strB l), .func (.func 87) #[] #[]] w fun e w' => e = .returned (.int .i64 (l.takeWhile fun c => nameN c.toNat).length) ∧ w = w' := by
  obtain ⟨p, hpe⟩ : ∃ p : UInt8 → Bool, p = fun c => nameN c.toNat := ⟨_, rfl⟩
  have HK : Hid (∀ (c : UInt8) (wx : World), Calls Tryz.prog 87 #[.int .u8 (c.toNat : Int)] wx fun e w' => e = .returned (.bool (p c)) ∧ wx = w') := fun c wx => by rw [hpe]; exact name1_any c.toNat (UInt8.toNat_lt c) wx
  rw [← hpe]
  clear hpe
  have hsz : (strB l).size = l.length := rfl
  go_enter Tryz.func86, Tryz.ntmps86
  go_wp2
  go_loop [5] (fun v => ∃ i : Nat, i ≤ l.length ∧ v = .int .i64 i ∧ ∀ j (h : j < l.length), j < i → p l[j] = true) (fun v => l.length - (intOf v).toNat)
  case atStart => exact ⟨0, Nat.zero_le _, rfl, fun j h hj => by omega⟩
  case round =>
    obtain ⟨i, hi, rfl, hall⟩ := hrel
    have HA : Hid (∀ j (h : j < l.length), j < i → p l[j] = true) := hall
    clear hall
    by_cases hlt : i < l.length
    · have hidx : ∀ wx, (Instr.index 9 (.string (strB l)) (.int .i64 (i : Int))).run Tryz.prog wx = .ok (.int .u8 ((l[i]).toNat : Int)) wx := fun wx => by
        rw [run_index_string (P := Tryz.prog) (w := wx) 9 (strB l) .i64 _ Tryz.underlying9, dif_pos ⟨by omega, by rw [strB_size]; omega⟩]
        simp only [Int.toNat_natCast]
        rfl
      go_wp2_with fail
      refine (HK.out l[i] w).mono ?_
      rintro e w1 ⟨rfl, rfl⟩
      cases hp : p l[i] with
      | true =>
        go_wp2
        refine ⟨⟨i + 1, by omega, by go_num, fun j h hj => ?_⟩, by simp [intOf]; omega⟩
        by_cases hji : j < i
        · exact HA.out j h hji
        · obtain rfl : j = i := by omega
          exact hp
      | false =>
        have HL : Hid ((l.takeWhile p).length = i) := row_len p l i hi HA.out (fun _ => hp)
        go_wp2
        go_ret
        rw [HL.out]
        exact ⟨rfl, rfl⟩
    · obtain rfl : i = l.length := by omega
      have HL : Hid ((l.takeWhile p).length = l.length) := row_len p l l.length hi HA.out (fun h => absurd h (by omega))
      go_wp2
      go_ret
      rw [HL.out]
      exact ⟨rfl, rfl⟩

end Go.Proofs.YtchpmnmngeebjaaGreatDoor
