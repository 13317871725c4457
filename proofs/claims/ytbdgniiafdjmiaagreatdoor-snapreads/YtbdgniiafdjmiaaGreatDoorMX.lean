import Derived.Test.YtbdgniiafdjmiaaGreatDoorWAll
import Derived.Lib.Strings
import Derived.Laws.DeepStrings4
import Derived.Test.YtbdgniiafdjmiaaGreatDoorShelf
import Derived.Deep.MidRow
import Derived.LoopN
import Derived.RangeFuncNested
import Derived.RangeFuncBound
import Derived.RangeFuncCalls
import Derived.RangeFuncLeaves
import Derived.RangeFuncBox
import Derived.Lib.Bytealg
import Derived.Shelf.Abstract
import Derived.Shelf.RegionOpen
import Derived.WalkKit
import Derived.OwnWalkIn
import Derived.TacticsInMore
import Derived.LoopNIn
import Derived.LoopIn
import Derived.Maps.AppendAt
import Derived.Sort.QuietIn
import Derived.Lib.AppendIntMem
/- Strings: a piece, a byte; in lists of bytes. -/
namespace Go.Proofs.YtbdgniiafdjmiaaGreatDoor
open Go.RowKit

/-- A string of bytes. -/
abbrev strB (l : List UInt8) : ByteArray := ⟨l.toArray⟩

theorem strB_size (l : List UInt8) : (strB l).size = l.length := rfl

theorem strB_extract (l : List UInt8) (a b : Nat) : (strB l).extract a b = strB ((l.drop a).take (b - a)) := by
  have e := Lib.extract_data (strB l) a b
  have e2 : (strB l).data.toList = l := rfl
  rw [e2] at e
  show _ = (⟨_⟩ : ByteArray)
  rw [← e]

set_option maxRecDepth 100000 in
theorem str_from (w : World) (l : List UInt8) (a : Nat) (h : a ≤ l.length) :
    (Instr.slice 9 (.string (strB l)) (some (.int .i64 (a : Int))) none none).run Tryz.prog w = .ok (.string (strB (l.drop a))) w := by
  rw [run_slice_string_from_if (P := Tryz.prog) (w := w) 9 (strB l) .i64 _ Tryz.underlying9, if_pos ⟨by omega, by rw [strB_size]; omega⟩]
  rw [Int.toNat_natCast, strB_extract, strB_size, List.take_of_length_le (by rw [List.length_drop]; omega)]

set_option maxRecDepth 100000 in
theorem str_to (w : World) (l : List UInt8) (b : Nat) (h : b ≤ l.length) :
    (Instr.slice 9 (.string (strB l)) none (some (.int .i64 (b : Int))) none).run Tryz.prog w = .ok (.string (strB (l.take b))) w := by
  rw [run_slice_string_to_if (P := Tryz.prog) (w := w) 9 (strB l) .i64 _ Tryz.underlying9, if_pos ⟨by omega, by rw [strB_size]; omega⟩]
  rw [Int.toNat_natCast, strB_extract, List.drop_zero, Nat.sub_zero]

set_option maxRecDepth 100000 in
theorem str_sub (w : World) (l : List UInt8) (a n : Nat) (h : a + n ≤ l.length) :
    (Instr.slice 9 (.string (strB l)) (some (.int .i64 (a : Int))) (some (.int .i64 ((a : Int) + (n : Int)))) none).run Tryz.prog w = .ok (.string (strB ((l.drop a).take n))) w := by
  rw [run_slice_string_if (P := Tryz.prog) (w := w) 9 (strB l) .i64 .i64 _ _ Tryz.underlying9, if_pos ⟨by omega, by rw [strB_size]; omega⟩, if_pos ⟨by omega, by omega⟩]
  have e1 : ((a : Int) + (n : Int)).toNat = a + n := by omega
  rw [e1, Int.toNat_natCast, strB_extract, show a + n - a = n by omega]
end Go.Proofs.YtbdgniiafdjmiaaGreatDoor
/- lex: kinds of bytes, rows of them. -/
namespace Go.Proofs.YtbdgniiafdjmiaaGreatDoor
open Go.RowKit

def letterN (n : Nat) : Bool := n == 95 || (decide (97 ≤ n) && decide (n ≤ 122)) || (decide (65 ≤ n) && decide (n ≤ 90))
def digitN (n : Nat) : Bool := decide (48 ≤ n) && decide (n ≤ 57)
def blankN (n : Nat) : Bool := n == 32 || n == 9 || n == 10
def noEndN (n : Nat) : Bool := n != 10

theorem retb {a b : Bool} (h : a = b) : Ending.returned (.bool a) = .returned (.bool b) := by rw [h]

set_option maxHeartbeats 1000000 in
set_option maxRecDepth 100000 in
theorem beginsName_any (n : Nat) (hn : n < 256) (w : World) :
    Calls Tryz.prog 127 #[.int .u8 n] w fun e w' => e = .returned (.bool (letterN n)) ∧ w = w' := by
  go_enter Tryz.func127, Tryz.ntmps127
  go_wp2
  all_goals go_ret
  all_goals refine ⟨retb ?_, rfl⟩
  all_goals (rw [Bool.eq_iff_iff]; simp [letterN]; try omega)

set_option maxHeartbeats 1000000 in
set_option maxRecDepth 100000 in
theorem isDigit_any (n : Nat) (hn : n < 256) (w : World) :
    Calls Tryz.prog 129 #[.int .u8 n] w fun e w' => e = .returned (.bool (digitN n)) ∧ w = w' := by
  go_enter Tryz.func129, Tryz.ntmps129
  go_wp2
  all_goals go_ret
  all_goals refine ⟨retb ?_, rfl⟩
  all_goals (rw [Bool.eq_iff_iff]; simp [digitN]; try omega)

def nameN (n : Nat) : Bool := letterN n || digitN n

set_option maxHeartbeats 1000000 in
set_option maxRecDepth 100000 in
theorem name1_any (n : Nat) (hn : n < 256) (w : World) :
    Calls Tryz.prog 136 #[.int .u8 n] w fun e w' => e = .returned (.bool (nameN n)) ∧ w = w' := by
  cases h1 : letterN n with
  | true =>
    have c1 := beginsName_any n hn w
    rw [h1] at c1
    go_enter Tryz.func136, Tryz.ntmps136
    go_wp2_with fail
    refine c1.mono ?_
    rintro e w1 ⟨rfl, rfl⟩
    go_wp2
    go_ret
    exact ⟨retb (by simp [nameN, h1]), rfl⟩
  | false =>
    have c1 := beginsName_any n hn w
    rw [h1] at c1
    go_enter Tryz.func136, Tryz.ntmps136
    go_wp2_with fail
    refine c1.mono ?_
    rintro e w1 ⟨rfl, rfl⟩
    go_wp2_with fail
    refine (isDigit_any n hn w).mono ?_
    rintro e w1 ⟨rfl, rfl⟩
    go_wp2
    go_ret
    exact ⟨retb (by simp [nameN, h1]), rfl⟩

theorem row_len (p : UInt8 → Bool) : ∀ (l : List UInt8) (k : Nat), k ≤ l.length → (∀ j (h : j < l.length), j < k → p l[j] = true) → (∀ h : k < l.length, p l[k] = false) → (l.takeWhile p).length = k
  | [], k, hk, _, _ => by simp at hk; simp [hk]
  | x :: l, 0, _, _, h2 => by
    have := h2 (by simp)
    simp at this
    simp [this]
  | x :: l, k + 1, hk, h1, h2 => by
    have h0 : p x = true := h1 0 (by simp) (by omega)
    have := row_len p l k (by simpa using hk) (fun j h hj => h1 (j + 1) (by simpa using h) (by omega)) (fun h => h2 (by simpa using h))
    simp [h0, this]

set_option maxHeartbeats 1000000 in
set_option maxRecDepth 100000 in
theorem row_digit (l : List UInt8) (w : World) (hl : l.length ≤ 9223372036854775000) :
    Calls Tryz.prog 135 #[.string (strB l), .func (.func 129) #[] #[]] w fun e w' => e = .returned (.int .i64 (l.takeWhile fun c => digitN c.toNat).length) ∧ w = w' := by
  obtain ⟨p, hpe⟩ : ∃ p : UInt8 → Bool, p = fun c => digitN c.toNat := ⟨_, rfl⟩
  have HK : Hid (∀ (c : UInt8) (wx : World), Calls Tryz.prog 129 #[.int .u8 (c.toNat : Int)] wx fun e w' => e = .returned (.bool (p c)) ∧ wx = w') := fun c wx => by rw [hpe]; exact isDigit_any c.toNat (UInt8.toNat_lt c) wx
  rw [← hpe]
  clear hpe
  have hsz : (strB l).size = l.length := rfl
  go_enter Tryz.func135, Tryz.ntmps135
  go_wp2
  go_loop [5] (fun v => ∃ i : Nat, i ≤ l.length ∧ v = .int .i64 i ∧ ∀ j (h : j < l.length), j < i → p l[j] = true) (fun v => l.length - (intOf v).toNat)
  case atStart => exact ⟨0, Nat.zero_le _, rfl, fun j h hj => by omega⟩
  case round =>
    obtain ⟨i, hi, rfl, hall⟩ := hrel
    have HA : Hid (∀ j (h : j < l.length), j < i → p l[j] = true) := hall
    clear hall
    by_cases hlt : i < l.length
    · have hidx : ∀ wx, (Instr.index 9 (.string (strB l)) (.int .i64 (i : Int))).run Tryz.prog wx = .ok (.int .u8 ((l[i]).toNat : Int)) wx := fun wx => by
        rw [run_index_string (P := Tryz.prog) (w := wx) 9 (strB l) .i64 _ Tryz.underlying9, dif_pos ⟨by omega, by rw [strB_size]; omega⟩]
        simp only [Int.toNat_natCast]
        rfl
      go_wp2_with fail
      refine (HK.out l[i] w).mono ?_
      rintro e w1 ⟨rfl, rfl⟩
      cases hp : p l[i] with
      | true =>
        go_wp2
        refine ⟨⟨i + 1, by omega, by go_num, fun j h hj => ?_⟩, by simp [intOf]; omega⟩
        by_cases hji : j < i
        · exact HA.out j h hji
        · obtain rfl : j = i := by omega
          exact hp
      | false =>
        have HL : Hid ((l.takeWhile p).length = i) := row_len p l i hi HA.out (fun _ => hp)
        go_wp2
        go_ret
        rw [HL.out]
        exact ⟨rfl, rfl⟩
    · obtain rfl : i = l.length := by omega
      have HL : Hid ((l.takeWhile p).length = l.length) := row_len p l l.length hi HA.out (fun h => absurd h (by omega))
      go_wp2
      go_ret
      rw [HL.out]
      exact ⟨rfl, rfl⟩

set_option maxHeartbeats 1000000 in
set_option maxRecDepth 100000 in
theorem row_name (l : List UInt8) (w : World) (hl : l.length ≤ 9223372036854775000) :
    Calls Tryz.prog 135 #[.string (strB l), .func (.func 136) #[] #[]] w fun e w' => e = .returned (.int .i64 (l.takeWhile fun c => nameN c.toNat).length) ∧ w = w' := by
  obtain ⟨p, hpe⟩ : ∃ p : UInt8 → Bool, p = fun c => nameN c.toNat := ⟨_, rfl⟩
  have HK : Hid (∀ (c : UInt8) (wx : World), Calls Tryz.prog 136 #[.int .u8 (c.toNat : Int)] wx fun e w' => e = .returned (.bool (p c)) ∧ wx = w') := fun c wx => by rw [hpe]; exact name1_any c.toNat (UInt8.toNat_lt c) wx
  rw [← hpe]
  clear hpe
  have hsz : (strB l).size = l.length := rfl
  go_enter Tryz.func135, Tryz.ntmps135
  go_wp2
  go_loop [5] (fun v => ∃ i : Nat, i ≤ l.length ∧ v = .int .i64 i ∧ ∀ j (h : j < l.length), j < i → p l[j] = true) (fun v => l.length - (intOf v).toNat)
  case atStart => exact ⟨0, Nat.zero_le _, rfl, fun j h hj => by omega⟩
  case round =>
    obtain ⟨i, hi, rfl, hall⟩ := hrel
    have HA : Hid (∀ j (h : j < l.length), j < i → p l[j] = true) := hall
    clear hall
    by_cases hlt : i < l.length
    · have hidx : ∀ wx, (Instr.index 9 (.string (strB l)) (.int .i64 (i : Int))).run Tryz.prog wx = .ok (.int .u8 ((l[i]).toNat : Int)) wx := fun wx => by
        rw [run_index_string (P := Tryz.prog) (w := wx) 9 (strB l) .i64 _ Tryz.underlying9, dif_pos ⟨by omega, by rw [strB_size]; omega⟩]
        simp only [Int.toNat_natCast]
        rfl
      go_wp2_with fail
      refine (HK.out l[i] w).mono ?_
      rintro e w1 ⟨rfl, rfl⟩
      cases hp : p l[i] with
      | true =>
        go_wp2
        refine ⟨⟨i + 1, by omega, by go_num, fun j h hj => ?_⟩, by simp [intOf]; omega⟩
        by_cases hji : j < i
        · exact HA.out j h hji
        · obtain rfl : j = i := by omega
          exact hp
      | false =>
        have HL : Hid ((l.takeWhile p).length = i) := row_len p l i hi HA.out (fun _ => hp)
        go_wp2
        go_ret
        rw [HL.out]
        exact ⟨rfl, rfl⟩
    · obtain rfl : i = l.length := by omega
      have HL : Hid ((l.takeWhile p).length = l.length) := row_len p l l.length hi HA.out (fun h => absurd h (by omega))
      go_wp2
      go_ret
      rw [HL.out]
      exact ⟨rfl, rfl⟩

end Go.Proofs.YtbdgniiafdjmiaaGreatDoor
/- lex: the tables; Word. -/
namespace Go.Proofs.YtbdgniiafdjmiaaGreatDoor
open Go.RowKit

def wordsL : List (List UInt8) := [[102, 110], [114, 101, 99, 111, 114, 100], [108, 101, 116], [105, 102], [101, 108, 115, 101], [119, 104, 105, 108, 101], [114, 101, 116, 117, 114, 110], [110, 101, 119], [116, 114, 117, 101], [102, 97, 108, 115, 101]]
def signsL : List (List UInt8) := [[40], [41], [123], [125], [91], [93], [44], [58], [59], [46], [61], [61, 61], [33, 61], [60], [60, 61], [62], [62, 61], [43], [45], [42], [47], [37], [33], [38, 38], [124, 124]]

/-- What the program's tables hold. -/
structure Tabs (w : World) : Prop where
  words : ∀ j (h : j < wordsL.length), w.cell? ⟨2, j, none⟩ = some (.string (strB wordsL[j]))
  signs : ∀ j (h : j < signsL.length), w.cell? ⟨0, j, none⟩ = some (.string (strB signsL[j]))
  escs : ∀ j (h : j < 6), w.cell? ⟨1, j, none⟩ = some (.int .u8 ([92, 92, 34, 34, 10, 110][j] : Nat))
  range : ∃ te pe, w.cell? ⟨5, 0, none⟩ = some (.iface te pe)

def isWord (l : List UInt8) : Bool := wordsL.contains l

set_option maxRecDepth 100000 in
theorem idx_words (w : World) (i : Nat) (h : i < 10) : (Instr.index 186 (.agg #[.string (strB wordsL[0]), .string (strB wordsL[1]), .string (strB wordsL[2]), .string (strB wordsL[3]), .string (strB wordsL[4]), .string (strB wordsL[5]), .string (strB wordsL[6]), .string (strB wordsL[7]), .string (strB wordsL[8]), .string (strB wordsL[9])]) (.int .i64 (i : Int))).run Tryz.prog w = .ok (.string (strB (wordsL[i]'h))) w := by
  have hc : i = 0 ∨ i = 1 ∨ i = 2 ∨ i = 3 ∨ i = 4 ∨ i = 5 ∨ i = 6 ∨ i = 7 ∨ i = 8 ∨ i = 9 := by omega
  rcases hc with rfl | rfl | rfl | rfl | rfl | rfl | rfl | rfl | rfl | rfl
  all_goals rfl

set_option maxRecDepth 100000 in
theorem idx_signs (w : World) (i : Nat) (h : i < 25) : (Instr.index 181 (.agg #[.string (strB signsL[0]), .string (strB signsL[1]), .string (strB signsL[2]), .string (strB signsL[3]), .string (strB signsL[4]), .string (strB signsL[5]), .string (strB signsL[6]), .string (strB signsL[7]), .string (strB signsL[8]), .string (strB signsL[9]), .string (strB signsL[10]), .string (strB signsL[11]), .string (strB signsL[12]), .string (strB signsL[13]), .string (strB signsL[14]), .string (strB signsL[15]), .string (strB signsL[16]), .string (strB signsL[17]), .string (strB signsL[18]), .string (strB signsL[19]), .string (strB signsL[20]), .string (strB signsL[21]), .string (strB signsL[22]), .string (strB signsL[23]), .string (strB signsL[24])]) (.int .i64 (i : Int))).run Tryz.prog w = .ok (.string (strB (signsL[i]'h))) w := by
  have hc : i = 0 ∨ i = 1 ∨ i = 2 ∨ i = 3 ∨ i = 4 ∨ i = 5 ∨ i = 6 ∨ i = 7 ∨ i = 8 ∨ i = 9 ∨ i = 10 ∨ i = 11 ∨ i = 12 ∨ i = 13 ∨ i = 14 ∨ i = 15 ∨ i = 16 ∨ i = 17 ∨ i = 18 ∨ i = 19 ∨ i = 20 ∨ i = 21 ∨ i = 22 ∨ i = 23 ∨ i = 24 := by omega
  rcases hc with rfl | rfl | rfl | rfl | rfl | rfl | rfl | rfl | rfl | rfl | rfl | rfl | rfl | rfl | rfl | rfl | rfl | rfl | rfl | rfl | rfl | rfl | rfl | rfl | rfl
  all_goals rfl

theorem beqL {a b : List UInt8} : (a == b) = decide (a = b) := by by_cases h : a = b <;> simp [h]

theorem word_in {l : List UInt8} {i : Nat} (h : i < wordsL.length) (he : wordsL[i] = l) : isWord l = true := by
  unfold isWord; rw [List.contains_iff_mem]; rw [← he]; exact List.getElem_mem h
theorem word_not {l : List UInt8} (h : ∀ j (h : j < wordsL.length), wordsL[j] ≠ l) : isWord l = false := by
  unfold isWord
  rw [Bool.eq_false_iff]
  intro hc
  rw [List.contains_iff_mem] at hc
  obtain ⟨j, hj, he⟩ := List.getElem_of_mem hc
  exact h j hj he

set_option maxHeartbeats 1000000 in
set_option maxRecDepth 100000 in
theorem word_any (l : List UInt8) (w : World) (ht : Tabs w) :
    Calls Tryz.prog 137 #[.string (strB l)] w fun e w' => e = .returned (.bool (isWord l)) ∧ w = w' := by
  have h0 := ht.words 0 (by decide)
  have h1 := ht.words 1 (by decide)
  have h2 := ht.words 2 (by decide)
  have h3 := ht.words 3 (by decide)
  have h4 := ht.words 4 (by decide)
  have h5 := ht.words 5 (by decide)
  have h6 := ht.words 6 (by decide)
  have h7 := ht.words 7 (by decide)
  have h8 := ht.words 8 (by decide)
  have h9 := ht.words 9 (by decide)
  clear ht
  go_enter Tryz.func137, Tryz.ntmps137
  go_wp2
  clear h0 h1 h2 h3 h4 h5 h6 h7 h8 h9
  go_loop [6] (fun v => ∃ i : Nat, i ≤ 10 ∧ v = .int .i64 i ∧ ∀ j (h : j < wordsL.length), j < i → wordsL[j] ≠ l) (fun v => 10 - (intOf v).toNat)
  case atStart => exact ⟨0, Nat.zero_le _, rfl, fun j h hj => by omega⟩
  case round =>
    obtain ⟨i, hi, rfl, hall⟩ := hrel
    have HA : Hid (∀ j (h : j < wordsL.length), j < i → wordsL[j] ≠ l) := hall
    clear hall
    by_cases hlt : i < 10
    · have hidx := fun wx => idx_words wx i hlt
      obtain ⟨x, hx⟩ : ∃ x, x = wordsL[i]'hlt := ⟨_, rfl⟩
      rw [← hx] at hidx
      have HX : Hid (x = wordsL[i]'hlt) := hx
      clear hx
      by_cases he : x = l
      · subst he
        have HW : Hid (isWord x = true) := word_in (i := i) hlt HX.out.symm
        go_wp2
        go_ret
        rw [HW.out]
        exact ⟨rfl, rfl⟩
      · have HE : Hid (x ≠ l) := he
        have hb : (x == l) = false := by rw [beqL]; exact decide_eq_false he
        clear he
        go_wp2
        refine ⟨⟨i + 1, by omega, by go_num, fun j h hj => ?_⟩, by simp [intOf]; omega⟩
        by_cases hji : j < i
        · exact HA.out j h hji
        · obtain rfl : j = i := by omega
          intro he; exact HE.out (HX.out.trans he)
    · obtain rfl : i = 10 := by omega
      have HW : Hid (isWord l = false) := word_not (fun j h => HA.out j h h)
      go_wp2
      go_ret
      rw [HW.out]
      exact ⟨rfl, rfl⟩
end Go.Proofs.YtbdgniiafdjmiaaGreatDoor
/- lex: what stands ahead of a token. -/
namespace Go.Proofs.YtbdgniiafdjmiaaGreatDoor
open Go.RowKit

/-- How many of the first bytes are such ones. -/
def rowN (p : Nat → Bool) (l : List UInt8) : Nat := (l.takeWhile fun c => p c.toNat).length
theorem rowN_le (p : Nat → Bool) (l : List UInt8) : rowN p l ≤ l.length := by
  unfold rowN
  exact (List.takeWhile_sublist _).length_le
/-- Do two slashes stand here? -/
def remB (l : List UInt8) : Bool := Lib.hasPrefix l [47, 47]
theorem remB_form {l : List UInt8} (h : remB l = true) : ∃ t, l = 47 :: 47 :: t := by
  unfold remB Lib.hasPrefix at h
  match l, h with
  | [], h => simp at h
  | [a], h => simp at h
  | a :: b :: t, h => simp at h; exact ⟨t, by rw [← h.1, ← h.2]⟩
theorem remB_row {l : List UInt8} (h : remB l = true) : 2 ≤ rowN noEndN l := by
  obtain ⟨t, rfl⟩ := remB_form h
  unfold rowN
  rw [List.takeWhile_cons_of_pos (by decide), List.takeWhile_cons_of_pos (by decide)]
  simp

/-- How many bytes stand ahead of the first token. -/
def gapN (l : List UInt8) : Nat :=
  if _h : remB (l.drop (rowN blankN l)) = true then
    rowN blankN l + (rowN noEndN (l.drop (rowN blankN l)) + gapN ((l.drop (rowN blankN l)).drop (rowN noEndN (l.drop (rowN blankN l)))))
  else rowN blankN l
termination_by l.length
decreasing_by
  have := remB_row ‹_›
  have h3 := rowN_le noEndN (l.drop (rowN blankN l))
  simp only [List.length_drop] at *
  omega

/-- Behind the blanks. -/
def remN (r : List UInt8) : Nat := if remB r = true then rowN noEndN r + gapN (r.drop (rowN noEndN r)) else 0

theorem gapN_eq (l : List UInt8) : gapN l = rowN blankN l + remN (l.drop (rowN blankN l)) := by
  rw [gapN]
  unfold remN
  by_cases h : remB (l.drop (rowN blankN l)) = true
  · rw [dif_pos h, if_pos h]
  · rw [dif_neg h, if_neg h]; rfl

theorem gapN_le : ∀ (n : Nat) (l : List UInt8), l.length ≤ n → gapN l ≤ l.length
  | n, l, hn => by
    rw [gapN]
    have h1 := rowN_le blankN l
    by_cases h : remB (l.drop (rowN blankN l)) = true
    · rw [dif_pos h]
      have h2 := remB_row h
      have h3 := rowN_le noEndN (l.drop (rowN blankN l))
      rw [List.length_drop] at h3
      have h4 := gapN_le (n - 1) ((l.drop (rowN blankN l)).drop (rowN noEndN (l.drop (rowN blankN l)))) (by simp only [List.length_drop]; omega)
      simp only [List.length_drop] at h4
      omega
    · rw [dif_neg h]; exact h1
termination_by _ l => l.length
decreasing_by
  have := remB_row ‹_›
  have h3 := rowN_le noEndN (l.drop (rowN blankN l))
  simp only [List.length_drop] at *
  omega

end Go.Proofs.YtbdgniiafdjmiaaGreatDoor
/- lex: a token at the front of a text: names, numbers, signs. -/
namespace Go.Proofs.YtbdgniiafdjmiaaGreatDoor
open Go.RowKit

/-- A token that is read: its kind, its text, its number, how many bytes it has, what is wrong. -/
structure TR where
  k : Nat
  s : List UInt8
  n : Nat
  sz : Nat
  e : Nat

def resV (r : TR) : Value := .tuple #[.agg #[.int .i64 r.k, .string (strB r.s), .int .i64 r.n, .int .i64 0, .int .i64 0], .int .i64 r.sz, .int .i64 r.e]

def nameL (l : List UInt8) : List UInt8 := l.takeWhile fun c => nameN c.toNat
def nameR (l : List UInt8) : TR := if isWord (nameL l) = true then ⟨5, nameL l, 0, (nameL l).length, 0⟩ else if 20 < (nameL l).length then ⟨0, [], 0, 0, 5⟩ else ⟨1, nameL l, 0, (nameL l).length, 0⟩

theorem take_row (p : UInt8 → Bool) (l : List UInt8) : l.take (l.takeWhile p).length = l.takeWhile p := by
  induction l with
  | nil => rfl
  | cons x l ih =>
    by_cases h : p x = true
    · simp [h, ih]
    · simp [h]

theorem nameL_le (l : List UInt8) : (nameL l).length ≤ l.length := (List.takeWhile_sublist _).length_le

theorem Tabs.alloc {w : World} (h : Tabs w) (o : Obj) : Tabs (w.alloc o) :=
  ⟨fun j hj => Lib.cell?_alloc_some o (h.words j hj), fun j hj => Lib.cell?_alloc_some o (h.signs j hj), fun j hj => Lib.cell?_alloc_some o (h.escs j hj), by obtain ⟨a, b, c⟩ := h.range; exact ⟨a, b, Lib.cell?_alloc_some o c⟩⟩

theorem Tabs.below {w w' : World} {B : Nat} (h : Tabs w) (hb : Below B w w') (hB : w.heap.size ≤ B) : Tabs w' := by
  have key : ∀ {p : Addr} {v : Value}, w.cell? p = some v → w'.cell? p = some v := fun {p v} hp => by
    rw [hb.cell (Nat.lt_of_lt_of_le (World.block_lt_of_cell? w _ hp) hB)]; exact hp
  exact ⟨fun j hj => key (h.words j hj), fun j hj => key (h.signs j hj), fun j hj => key (h.escs j hj), by obtain ⟨a, b, c⟩ := h.range; exact ⟨a, b, key c⟩⟩

set_option maxHeartbeats 2000000 in
set_option maxRecDepth 100000 in
theorem nameToken_any (l : List UInt8) (w : World) (hl : l.length ≤ 9223372036854775000) (ht : Tabs w) :
    Calls Tryz.prog 128 #[.string (strB l)] w fun e w' => e = .returned (resV (nameR l)) ∧ Below w.heap.size w w' := by
  have HT : Hid (Tabs w) := ht
  have hnl := nameL_le l
  obtain ⟨m, hm⟩ : ∃ m, m = (nameL l).length := ⟨_, rfl⟩
  rw [← hm] at hnl
  have hto := fun wx => str_to wx l m hnl
  rw [show l.take m = nameL l by rw [hm]; exact take_row _ l] at hto
  have HM : Hid (m = (nameL l).length) := hm
  clear ht
  have HN : Hid (∀ wx, Calls Tryz.prog 135 #[.string (strB l), .func (.func 136) #[] #[]] wx fun e w' => e = .returned (.int .i64 m) ∧ wx = w') := fun wx => by
    rw [hm]; exact row_name l wx hl
  have HW : Hid (∀ wx, Tabs wx → Calls Tryz.prog 137 #[.string (strB (nameL l))] wx fun e w' => e = .returned (.bool (isWord (nameL l))) ∧ wx = w') := fun wx h => word_any _ wx h
  clear hm
  have hb := (Below.refl w.heap.size w).alloc (Nat.le_refl _)
  obtain ⟨x, hx⟩ : ∃ x, x = nameL l := ⟨_, rfl⟩
  rw [← hx] at hto HW HM
  have HX : Hid (x = nameL l) := hx
  clear hx
  go_enter Tryz.func128, Tryz.ntmps128
  go_wp2_with fail
  refine (HN.out _).mono ?_
  rintro e w1 ⟨rfl, rfl⟩
  go_wp2_with fail
  refine (HW.out _ (HT.out.alloc _)).mono ?_
  rintro e w1 ⟨rfl, rfl⟩
  cases hq : isWord x with
  | true =>
    have HR : Hid (nameR l = ⟨5, x, 0, m, 0⟩) := by unfold nameR; rw [← HX.out, if_pos hq, ← HM.out]; rfl
    go_wp2
    refine bodyPost_ret (v := resV ⟨5, x, 0, m, 0⟩) (by simp [results, Tryz.results128, go_sem, resV]) rfl ⟨by rw [HR.out], ?_⟩
    exact (Below.refl w.heap.size w).alloc (Nat.le_refl _) _
  | false =>
    by_cases h20 : 20 < m
    · have HR : Hid (nameR l = ⟨0, [], 0, 0, 5⟩) := by unfold nameR; rw [← HX.out, if_neg (by rw [hq]; simp), if_pos (by rw [← HM.out]; exact h20)]; rfl
      go_wp2
      refine bodyPost_ret (v := resV ⟨0, [], 0, 0, 5⟩) (by simp [results, Tryz.results128, go_sem, resV]) rfl ⟨by rw [HR.out], ?_⟩
      exact (Below.refl w.heap.size w).alloc (Nat.le_refl _) _
    · have HR : Hid (nameR l = ⟨1, x, 0, m, 0⟩) := by unfold nameR; rw [← HX.out, if_neg (by rw [hq]; simp), if_neg (by rw [← HM.out]; exact h20), ← HM.out]; rfl
      go_wp2
      refine bodyPost_ret (v := resV ⟨1, x, 0, m, 0⟩) (by simp [results, Tryz.results128, go_sem, resV]) rfl ⟨by rw [HR.out], ?_⟩
      exact (Below.refl w.heap.size w).alloc (Nat.le_refl _) _
end Go.Proofs.YtbdgniiafdjmiaaGreatDoor
/- lex: numbers and signs at the front of a text. -/
namespace Go.Proofs.YtbdgniiafdjmiaaGreatDoor
open Go.RowKit

/-- The number that digits spell, behind others. -/
def valA (acc : Nat) : List UInt8 → Nat
  | [] => acc
  | c :: r => valA (acc * 10 + (c.toNat - 48)) r

theorem valA_ge : ∀ (r : List UInt8) (acc : Nat), acc ≤ valA acc r
  | [], _ => Nat.le_refl _
  | c :: r, acc => Nat.le_trans (by omega) (valA_ge r (acc * 10 + (c.toNat - 48)))

theorem parse_digits (ds : List UInt8) : ∀ (acc : Nat), (∀ c ∈ ds, digitN c.toNat = true) → acc < 18446744073709551616 →
    Lib.parseUint10 acc ds = if valA acc ds < 18446744073709551616 then .ok (valA acc ds) else .range := by
  induction ds with
  | nil =>
    intro acc _ ha
    rw [show valA acc [] = acc from rfl, if_pos ha]
    rfl
  | cons c r ih =>
    intro acc h ha
    have hc := h c (List.mem_cons_self ..)
    unfold digitN at hc
    rw [Bool.and_eq_true, decide_eq_true_eq, decide_eq_true_eq] at hc
    have hge := valA_ge r (acc * 10 + (c.toNat - 48))
    rw [show valA acc (c :: r) = valA (acc * 10 + (c.toNat - 48)) r from rfl]
    unfold Lib.parseUint10
    rw [if_pos hc]
    by_cases h1 : 1844674407370955162 ≤ acc
    · rw [if_pos h1, if_neg (by omega)]
    · rw [if_neg h1]
      by_cases h2 : 18446744073709551616 ≤ acc * 10 + (c.toNat - 48)
      · rw [if_pos h2, if_neg (by omega)]
      · rw [if_neg h2]
        exact ih _ (fun d hd => h d (List.mem_cons_of_mem _ hd)) (by omega)

theorem atoi_digits {ds : List UInt8} (h : ∀ c ∈ ds, digitN c.toNat = true) (hne : ds ≠ []) :
    Lib.atoiAll ds = if valA 0 ds < 9223372036854775808 then .ok (valA 0 ds : Int) else .range := by
  cases ds with
  | nil => exact absurd rfl hne
  | cons c r =>
    have hc := h c (List.mem_cons_self ..)
    unfold digitN at hc
    rw [Bool.and_eq_true, decide_eq_true_eq, decide_eq_true_eq] at hc
    have h1 : ¬ (c.toNat = 43 ∨ c.toNat = 45) := by omega
    have h2 : ¬ c.toNat = 45 := by omega
    have hp : Lib.parseMag (c :: r) = if valA 0 (c :: r) < 18446744073709551616 then .ok (valA 0 (c :: r)) else .range := by
      unfold Lib.parseMag; rw [if_neg (by simp)]; exact parse_digits _ 0 h (by omega)
    generalize valA 0 (c :: r) = v at hp ⊢
    have e1 : (if c.toNat = 43 ∨ c.toNat = 45 then r else c :: r) = c :: r := if_neg h1
    unfold Lib.atoiAll
    simp only [e1]
    rw [hp]
    by_cases h3 : v < 18446744073709551616
    · rw [if_pos h3]
      by_cases h4 : v < 9223372036854775808
      · simp only
        rw [if_neg (by omega), if_neg (by omega), if_neg h2, if_pos h4]
      · simp only
        rw [if_pos ⟨h2, by omega⟩, if_neg h4]
    · rw [if_neg h3, if_neg (by omega)]

theorem mem_row {p : UInt8 → Bool} : ∀ (l : List UInt8) (c : UInt8), c ∈ l.takeWhile p → p c = true
  | [], c, h => by simp at h
  | x :: l, c, h => by
    by_cases hx : p x = true
    · rw [List.takeWhile_cons_of_pos hx] at h
      rcases List.mem_cons.1 h with rfl | h
      · exact hx
      · exact mem_row l c h
    · rw [List.takeWhile_cons_of_neg hx] at h
      simp at h

def digL (l : List UInt8) : List UInt8 := l.takeWhile fun c => digitN c.toNat
def numT (l : List UInt8) : TR := if valA 0 (digL l) < 9223372036854775808 then ⟨2, [], valA 0 (digL l), (digL l).length, 0⟩ else ⟨0, [], 0, 0, 5⟩
theorem digL_le (l : List UInt8) : (digL l).length ≤ l.length := (List.takeWhile_sublist _).length_le
theorem digL_all (l : List UInt8) : ∀ c ∈ digL l, digitN c.toNat = true := fun c hc => mem_row (p := fun c => digitN c.toNat) l c hc

set_option maxHeartbeats 2000000 in
set_option maxRecDepth 100000 in
theorem numberToken_any (l : List UInt8) (w : World) (hl : l.length ≤ 140737488351232) (hne : digL l ≠ []) (ht : Tabs w) :
    Calls Tryz.prog 130 #[.string (strB l)] w fun e w' => e = .returned (resV (numT l)) ∧ Below w.heap.size w w' := by
  have HT : Hid (Tabs w) := ht
  have hnl := digL_le l
  obtain ⟨m, hm⟩ : ∃ m, m = (digL l).length := ⟨_, rfl⟩
  rw [← hm] at hnl
  have hto := fun wx => str_to wx l m hnl
  rw [show l.take m = digL l by rw [hm]; exact take_row _ l] at hto
  have HM : Hid (m = (digL l).length) := hm
  have hm47 : m ≤ 140737488351232 := by omega
  clear ht
  have HN : Hid (∀ wx, Calls Tryz.prog 135 #[.string (strB l), .func (.func 129) #[] #[]] wx fun e w' => e = .returned (.int .i64 m) ∧ wx = w') := fun wx => by
    rw [hm]; exact row_digit l wx (by omega)
  have hat := atoi_digits (digL_all l) hne
  obtain ⟨x, hx⟩ : ∃ x, x = digL l := ⟨_, rfl⟩
  rw [← hx] at hto HM hat
  obtain ⟨v, hv⟩ : ∃ v, v = valA 0 x := ⟨_, rfl⟩
  rw [← hv] at hat
  have HX : Hid (x = digL l) := hx
  have HV : Hid (v = valA 0 x) := hv
  have HAT : Hid (Lib.atoiAll x = if v < 9223372036854775808 then .ok (v : Int) else .range) := hat
  clear hx hv hat hm
  go_enter Tryz.func130, Tryz.ntmps130
  go_wp2_with fail
  refine (HN.out _).mono ?_
  rintro e w1 ⟨rfl, rfl⟩
  by_cases h63 : v < 9223372036854775808
  · have c1 := fun wx => Tryz.strconv_Atoi_ok (strB x) (by rw [strB_size, ← HM.out]; omega) v (by show Lib.atoiAll x = _; rw [HAT.out, if_pos h63]) wx
    have HR : Hid (numT l = ⟨2, [], v, m, 0⟩) := by unfold numT; rw [← HX.out, ← HV.out, if_pos h63, ← HM.out]; rfl
    go_wp2_with fail
    refine (c1 _).mono ?_
    clear c1
    rintro e w1 ⟨rfl, hw1⟩
    have hb1 : Below (w.heap.size + 1) (w.alloc (Obj.cells #[Value.int IntKind.i64 0, Value.string ⟨#[]⟩, Value.int IntKind.i64 0, Value.int IntKind.i64 0, Value.int IntKind.i64 0] 165)) w1 := by
      rcases hw1 with rfl | ⟨t, rfl⟩
      · exact Below.refl _ _
      · have hbw := Lib.bytesWorld_below (w.alloc (Obj.cells #[Value.int IntKind.i64 0, Value.string ⟨#[]⟩, Value.int IntKind.i64 0, Value.int IntKind.i64 0, Value.int IntKind.i64 0] 165)) 5 t
        rw [World.size_alloc] at hbw
        exact hbw
    clear hw1
    obtain ⟨hc1, hf1⟩ : (∀ o, w1.cell? ⟨w.heap.size, o, none⟩ = (w.alloc (Obj.cells #[Value.int IntKind.i64 0, Value.string ⟨#[]⟩, Value.int IntKind.i64 0, Value.int IntKind.i64 0, Value.int IntKind.i64 0] 165)).cell? ⟨w.heap.size, o, none⟩) ∧ (∀ o, w1.frozen? ⟨w.heap.size, o, none⟩ = (w.alloc (Obj.cells #[Value.int IntKind.i64 0, Value.string ⟨#[]⟩, Value.int IntKind.i64 0, Value.int IntKind.i64 0, Value.int IntKind.i64 0] 165)).frozen? ⟨w.heap.size, o, none⟩) :=
      ⟨fun o => hb1.cell (p := ⟨w.heap.size, o, none⟩) (by simp), fun o => hb1.frozen (p := ⟨w.heap.size, o, none⟩) (by simp)⟩
    have HB : Hid (Below w.heap.size w w1) := ((Below.refl w.heap.size w).alloc (Nat.le_refl _) _).trans (hb1.mono (by omega))
    clear hb1
    go_wp2
    refine bodyPost_ret (v := resV ⟨2, [], v, m, 0⟩) (by simp [results, Tryz.results130, go_sem, resV, hc1]) rfl ⟨by rw [HR.out], ?_⟩
    exact ((((HB.out.setCell (p := ⟨w.heap.size, 0, none⟩) (Nat.le_refl _) _).setCell (p := ⟨w.heap.size, 1, none⟩) (Nat.le_refl _) _).setCell (p := ⟨w.heap.size, 2, none⟩) (Nat.le_refl _) _).setCell (p := ⟨w.heap.size, 3, none⟩) (Nat.le_refl _) _).setCell (p := ⟨w.heap.size, 4, none⟩) (Nat.le_refl _) _
  · obtain ⟨te, pe, hrg⟩ := HT.out.range
    have c1 := Tryz.strconv_Atoi_range (strB x) (by rw [strB_size, ← HM.out]; omega) (by show Lib.atoiAll x = _; rw [HAT.out, if_neg h63]) (.iface te pe) (w.alloc (Obj.cells #[Value.int IntKind.i64 0, Value.string ⟨#[]⟩, Value.int IntKind.i64 0, Value.int IntKind.i64 0, Value.int IntKind.i64 0] 165)) (Lib.cell?_alloc_some _ hrg) (.inr ⟨te, pe, rfl⟩)
    have HR : Hid (numT l = ⟨0, [], 0, 0, 5⟩) := by unfold numT; rw [← HX.out, ← HV.out, if_neg h63]; rfl
    go_wp2_with fail
    refine c1.mono ?_
    clear c1
    rintro e w1 ⟨NN, rfl, -, -, hb1⟩
    rw [World.size_alloc] at hb1
    obtain ⟨hc1, hf1⟩ : (∀ o, w1.cell? ⟨w.heap.size, o, none⟩ = (w.alloc (Obj.cells #[Value.int IntKind.i64 0, Value.string ⟨#[]⟩, Value.int IntKind.i64 0, Value.int IntKind.i64 0, Value.int IntKind.i64 0] 165)).cell? ⟨w.heap.size, o, none⟩) ∧ (∀ o, w1.frozen? ⟨w.heap.size, o, none⟩ = (w.alloc (Obj.cells #[Value.int IntKind.i64 0, Value.string ⟨#[]⟩, Value.int IntKind.i64 0, Value.int IntKind.i64 0, Value.int IntKind.i64 0] 165)).frozen? ⟨w.heap.size, o, none⟩) :=
      ⟨fun o => hb1.cell (p := ⟨w.heap.size, o, none⟩) (by simp), fun o => hb1.frozen (p := ⟨w.heap.size, o, none⟩) (by simp)⟩
    have HB : Hid (Below w.heap.size w w1) := ((Below.refl w.heap.size w).alloc (Nat.le_refl _) _).trans (hb1.mono (by omega))
    clear hb1 hrg
    go_wp2
    refine bodyPost_ret (v := resV ⟨0, [], 0, 0, 5⟩) (by simp [results, Tryz.results130, go_sem, resV, hc1]) rfl ⟨by rw [HR.out], ?_⟩
    exact ((((HB.out.setCell (p := ⟨w.heap.size, 0, none⟩) (Nat.le_refl _) _).setCell (p := ⟨w.heap.size, 1, none⟩) (Nat.le_refl _) _).setCell (p := ⟨w.heap.size, 2, none⟩) (Nat.le_refl _) _).setCell (p := ⟨w.heap.size, 3, none⟩) (Nat.le_refl _) _).setCell (p := ⟨w.heap.size, 4, none⟩) (Nat.le_refl _) _
end Go.Proofs.YtbdgniiafdjmiaaGreatDoor
/- lex: signs, and a byte of a text. -/
namespace Go.Proofs.YtbdgniiafdjmiaaGreatDoor
open Go.RowKit

/-- The longer one of two signs, if it stands here. -/
def longer (l best x : List UInt8) : List UInt8 := if best.length < x.length ∧ Lib.hasPrefix l x = true then x else best
def bestS (l : List UInt8) (n : Nat) : List UInt8 := (signsL.take n).foldl (longer l) []
def signT (l : List UInt8) : TR := if bestS l 25 = [] then ⟨0, [], 0, 0, 6⟩ else ⟨4, bestS l 25, 0, (bestS l 25).length, 0⟩

theorem bestS_succ (l : List UInt8) (n : Nat) (h : n < signsL.length) : bestS l (n + 1) = longer l (bestS l n) signsL[n] := by
  unfold bestS; rw [List.take_succ_eq_append_getElem h, List.foldl_append]; rfl

theorem bestS_len (l : List UInt8) (n : Nat) : (bestS l n).length ≤ 2 := by
  have key : ∀ (xs : List (List UInt8)) (b : List UInt8), (∀ x ∈ xs, x.length ≤ 2) → b.length ≤ 2 → (xs.foldl (longer l) b).length ≤ 2 := by
    intro xs
    induction xs with
    | nil => intro b _ hb; exact hb
    | cons x xs ih =>
      intro b hx hb
      refine ih _ (fun y hy => hx y (List.mem_cons_of_mem _ hy)) ?_
      unfold longer
      split
      · exact hx x (List.mem_cons_self ..)
      · exact hb
  exact key _ _ (fun x hx => by
    have : ∀ x ∈ signsL, x.length ≤ 2 := by decide
    exact this x (List.mem_of_mem_take hx)) (by simp)

def signsC : List Value := signsL.map fun x => .string (strB x)
def signsV : Value := .agg signsC.toArray

theorem signs_range {w : World} (ht : Tabs w) : w.rangeAt 0 0 signsC := fun j v hv => by
  unfold signsC at hv
  rw [List.getElem?_map] at hv
  rcases Nat.lt_or_ge j signsL.length with h | h
  · rw [List.getElem?_eq_getElem h] at hv
    simp only [Option.map_some, Option.some.injEq] at hv
    rw [Nat.zero_add, ht.signs j h, hv]
  · rw [List.getElem?_eq_none h] at hv; cases hv

set_option maxRecDepth 100000 in
theorem signs_size : (Tryz.prog.info? 181).map (·.size) = some signsC.length := by kernel_rfl

set_option maxHeartbeats 4000000 in
set_option maxRecDepth 100000 in
theorem signToken_any (l : List UInt8) (w : World) (ht : Tabs w) :
    Calls Tryz.prog 132 #[.string (strB l)] w fun e w' => e = .returned (resV (signT l)) ∧ Below w.heap.size w w' := by
  have HT : Hid (Tabs w) := ht
  clear ht
  go_enter Tryz.func132, Tryz.ntmps132
  go_wp2_with (refine wpList_load_mid rfl 181 _ rfl 0 0 rfl signsC _ (signs_range (HT.out.alloc _)) Tryz.underlying181 rfl signs_size ?_)
  have HI : Hid (∀ (wx : World) (i : Nat) (h : i < 25), (Instr.index 181 signsV (.int .i64 (i : Int))).run Tryz.prog wx = .ok (.string (strB (signsL[i]'h))) wx) := fun wx i h => idx_signs wx i h
  rw [show Value.agg signsC.toArray = signsV from rfl]
  generalize signsV = A at *
  go_loop [5, 9] (fun vb v => ∃ i : Nat, i ≤ 25 ∧ v = .int .i64 i ∧ vb = .string (strB (bestS l i))) (fun _ v => 25 - (intOf v).toNat)
  case atStart => exact ⟨0, Nat.zero_le _, rfl, rfl⟩
  case round =>
    obtain ⟨i, hi, rfl, rfl⟩ := hrel
    have hbl := bestS_len l i
    obtain ⟨b, hb⟩ : ∃ b, b = bestS l i := ⟨_, rfl⟩
    rw [← hb] at hbl ⊢
    have HB : Hid (b = bestS l i) := hb
    clear hb
    by_cases hlt : i < 25
    · have hidx := fun wx => HI.out wx i hlt
      obtain ⟨x, hx⟩ : ∃ x, x = signsL[i]'hlt := ⟨_, rfl⟩
      rw [← hx] at hidx
      have hx2 : x.length ≤ 2 := by
        have : ∀ x ∈ signsL, x.length ≤ 2 := by decide
        rw [hx]; exact this _ (List.getElem_mem _)
      have HN : Hid (bestS l (i + 1) = longer l b x) := show bestS l (i + 1) = longer l b x by rw [bestS_succ l i hlt, HB.out, hx]
      have hsx : (strB x).size = x.length := rfl
      have hsb : (strB b).size = b.length := rfl
      clear hx
      by_cases hlen : b.length < x.length
      · have cp := fun wx => Tryz.strings_HasPrefix (strB l) (strB x) wx
        cases hp : Lib.hasPrefix l x with
        | true =>
          have e1 : Lib.hasPrefix (strB l).data.toList (strB x).data.toList = true := hp
          rw [e1] at cp
          have HN2 : Hid (bestS l (i + 1) = x) := show bestS l (i + 1) = x by rw [HN.out]; unfold longer; rw [if_pos ⟨hlen, hp⟩]
          clear e1
          go_wp2_with (go_at_call 140; refine (cp _).mono ?_; rintro e w1 ⟨rfl, rfl⟩)
          refine ⟨⟨i + 1, by omega, by go_num, by rw [HN2.out]⟩, by simp [intOf]; omega⟩
        | false =>
          have e1 : Lib.hasPrefix (strB l).data.toList (strB x).data.toList = false := hp
          rw [e1] at cp
          have HN2 : Hid (bestS l (i + 1) = b) := show bestS l (i + 1) = b by rw [HN.out]; unfold longer; rw [if_neg (fun h => by rw [hp] at h; exact absurd h.2 (by decide))]
          clear e1
          go_wp2_with (go_at_call 140; refine (cp _).mono ?_; rintro e w1 ⟨rfl, rfl⟩)
          refine ⟨⟨i + 1, by omega, by go_num, by rw [HN2.out]⟩, by simp [intOf]; omega⟩
      · have HN2 : Hid (bestS l (i + 1) = b) := show bestS l (i + 1) = b by rw [HN.out]; unfold longer; rw [if_neg (fun h => hlen h.1)]
        go_wp2
        refine ⟨⟨i + 1, by omega, by go_num, by rw [HN2.out]⟩, by simp [intOf]; omega⟩
    · obtain rfl : i = 25 := by omega
      have hsb : (strB b).size = b.length := rfl
      cases b with
      | nil =>
        have HR : Hid (signT l = ⟨0, [], 0, 0, 6⟩) := by unfold signT; rw [← HB.out, if_pos rfl]; rfl
        go_wp2
        refine bodyPost_ret (v := resV ⟨0, [], 0, 0, 6⟩) (by simp [results, Tryz.results132, go_sem, resV]) rfl ⟨by rw [HR.out], ?_⟩
        exact (Below.refl w.heap.size w).alloc (Nat.le_refl _) _
      | cons y ys =>
        have HR : Hid (signT l = ⟨4, y :: ys, 0, (y :: ys).length, 0⟩) := by unfold signT; rw [← HB.out, if_neg (by simp)]; rfl
        go_wp2
        refine bodyPost_ret (v := resV ⟨4, y :: ys, 0, (y :: ys).length, 0⟩) (by simp [results, Tryz.results132, go_sem, resV]) rfl ⟨by rw [HR.out], ?_⟩
        exact (Below.refl w.heap.size w).alloc (Nat.le_refl _) _

/-- The byte that is meant, and how many bytes stand for it: none, if it may not stand there. -/
def tbR : List UInt8 → Nat × Nat
  | [] => (0, 0)
  | x :: r => if x.toNat < 32 ∨ 126 < x.toNat then (0, 0) else if x.toNat ≠ 92 then (x.toNat, 1) else
    match r with
    | [] => (0, 0)
    | y :: _ => if y.toNat = 92 then (92, 2) else if y.toNat = 34 then (34, 2) else if y.toNat = 110 then (10, 2) else (0, 0)
end Go.Proofs.YtbdgniiafdjmiaaGreatDoor
/- lex: a byte of a text. -/
namespace Go.Proofs.YtbdgniiafdjmiaaGreatDoor
open Go.RowKit

set_option maxRecDepth 100000 in
theorem str_at (w : World) (l : List UInt8) (i : Nat) (h : i < l.length) : (Instr.index 9 (.string (strB l)) (.int .i64 (i : Int))).run Tryz.prog w = .ok (.int .u8 ((l[i]).toNat : Int)) w := by
  rw [run_index_string (P := Tryz.prog) (w := w) 9 (strB l) .i64 _ Tryz.underlying9, dif_pos ⟨by omega, by rw [strB_size]; omega⟩]
  simp only [Int.toNat_natCast]
  rfl

theorem ret2u {a : Nat × Nat} {c k : Nat} (h : a = (c, k)) : (Ending.returned (.tuple #[.int .u8 (c : Int), .int .i64 (k : Int)]) : Ending) = .returned (.tuple #[.int .u8 (a.1 : Int), .int .i64 (a.2 : Int)]) := by rw [h]

theorem tbR_bad {x : UInt8} {r : List UInt8} (h : x.toNat < 32 ∨ 126 < x.toNat) : tbR (x :: r) = (0, 0) := by
  show (if _ then _ else _) = _; rw [if_pos h]
theorem tbR_one {x : UInt8} {r : List UInt8} (h : ¬ (x.toNat < 32 ∨ 126 < x.toNat)) (h2 : x.toNat ≠ 92) : tbR (x :: r) = (x.toNat, 1) := by
  show (if _ then _ else _) = _; rw [if_neg h, if_pos h2]
theorem tbR_end {x : UInt8} (h : ¬ (x.toNat < 32 ∨ 126 < x.toNat)) (h2 : x.toNat = 92) : tbR [x] = (0, 0) := by
  show (if _ then _ else _) = _; rw [if_neg h, if_neg (by omega)]
/-- What a byte behind a \ stands for. -/
def tbE (m : Nat) : Nat × Nat := if m = 92 then (92, 2) else if m = 34 then (34, 2) else if m = 110 then (10, 2) else (0, 0)
theorem tbR_two {x y : UInt8} {t : List UInt8} (h : ¬ (x.toNat < 32 ∨ 126 < x.toNat)) (h2 : x.toNat = 92) : tbR (x :: y :: t) = tbE y.toNat := by
  show (if _ then _ else _) = _; rw [if_neg h, if_neg (by omega)]; rfl
def escW : List Nat := [92, 34, 110]
def escM : List Nat := [92, 34, 10]
theorem tbE_in {m i : Nat} (hi : i < 3) (h : ∀ j (hj : j < 3), j < i → (escW[j]'hj) ≠ m) (he : (escW[i]'hi) = m) : tbE m = ((escM[i]'hi), 2) := by
  have hc : i = 0 ∨ i = 1 ∨ i = 2 := by omega
  rcases hc with rfl | rfl | rfl
  · rw [← he]; rfl
  · rw [← he]; rfl
  · rw [← he]; rfl
theorem tbE_out {m : Nat} (h : ∀ j (hj : j < 3), (escW[j]'hj) ≠ m) : tbE m = (0, 0) := by
  have h0 : 92 ≠ m := h 0 (by decide)
  have h1 : 34 ≠ m := h 1 (by decide)
  have h2 : 110 ≠ m := h 2 (by decide)
  unfold tbE
  rw [if_neg (by omega), if_neg (by omega), if_neg (by omega)]

set_option maxRecDepth 100000 in
theorem idx_escs (w : World) (i : Nat) (h : i < 3) : (Instr.index 185 (.agg #[.int .u8 92, .int .u8 92, .int .u8 34, .int .u8 34, .int .u8 10, .int .u8 110]) (.int .i64 (i : Int))).run Tryz.prog w = .ok (.agg #[.int .u8 ((escM[i]'h : Nat) : Int), .int .u8 ((escW[i]'h : Nat) : Int)]) w := by
  have hc : i = 0 ∨ i = 1 ∨ i = 2 := by omega
  rcases hc with rfl | rfl | rfl
  all_goals rfl

set_option maxHeartbeats 2000000 in
set_option maxRecDepth 100000 in
theorem textByte_any (x : UInt8) (r : List UInt8) (w : World) (hl : r.length ≤ 9223372036854775000) (ht : Tabs w) :
    Calls Tryz.prog 139 #[.string (strB (x :: r))] w fun e w' => e = .returned (.tuple #[.int .u8 (tbR (x :: r)).1, .int .i64 (tbR (x :: r)).2]) ∧ Below w.heap.size w w' := by
  have h0 := fun wx => str_at wx (x :: r) 0 (by simp)
  rw [show ((0 : Nat) : Int) = 0 from rfl, show (x :: r)[0] = x from rfl] at h0
  have hsz : (strB (x :: r)).size = r.length + 1 := rfl
  obtain ⟨n, hn⟩ : ∃ n, n = x.toNat := ⟨_, rfl⟩
  have hn256 : n < 256 := by rw [hn]; exact UInt8.toNat_lt x
  rw [← hn] at h0
  obtain ⟨S, hS⟩ : ∃ S, S = strB (x :: r) := ⟨_, rfl⟩
  rw [← hS] at h0 hsz ⊢
  have e0 := ht.escs 0 (by decide)
  have e1 := ht.escs 1 (by decide)
  have e2 := ht.escs 2 (by decide)
  have e3 := ht.escs 3 (by decide)
  have e4 := ht.escs 4 (by decide)
  have e5 := ht.escs 5 (by decide)
  simp only [List.getElem_cons_zero, List.getElem_cons_succ] at e0 e1 e2 e3 e4 e5
  clear ht
  by_cases hbad : n < 32 ∨ 126 < n
  · have HR : Hid (tbR (x :: r) = (0, 0)) := tbR_bad (by rw [← hn]; exact hbad)
    clear hS hn
    rcases hbad with hb | hb
    · go_enter Tryz.func139, Tryz.ntmps139
      go_wp2
      go_ret2
      exact ⟨ret2u HR.out, Below.refl _ _⟩
    · go_enter Tryz.func139, Tryz.ntmps139
      go_wp2
      go_ret2
      exact ⟨ret2u HR.out, Below.refl _ _⟩
  · by_cases h92 : n = 92
    · cases r with
      | nil =>
        have HR : Hid (tbR [x] = (0, 0)) := tbR_end (by rw [← hn]; exact hbad) (by rw [← hn]; exact h92)
        have hsz1 : S.size = 1 := hsz
        clear hS hn hbad hsz
        subst h92
        go_enter Tryz.func139, Tryz.ntmps139
        go_wp2
        go_ret2
        exact ⟨ret2u HR.out, Below.refl _ _⟩
      | cons y t =>
        have h1 := fun wx => str_at wx (x :: y :: t) 1 (by simp)
        rw [show ((1 : Nat) : Int) = 1 from rfl, show (x :: y :: t)[1] = y from rfl] at h1
        obtain ⟨m, hm⟩ : ∃ m, m = y.toNat := ⟨_, rfl⟩
        have hm256 : m < 256 := by rw [hm]; exact UInt8.toNat_lt y
        rw [← hm, ← hS] at h1
        have HR0 : Hid (tbR (x :: y :: t) = tbE m) := show _ = _ by rw [hm]; exact tbR_two (by rw [← hn]; exact hbad) (by rw [← hn]; exact h92)
        have hszl : S.size = t.length + 2 := hsz
        have hne1 : ((t.length : Int) + 2 == 1) = false := by rw [beq_eq_false_iff_ne]; omega
        have htl : t.length + 1 ≤ 9223372036854775000 := by simpa using hl
        clear hS hn hbad hsz hm hl
        subst h92
        go_enter Tryz.func139, Tryz.ntmps139
        go_wp2
        clear e0 e1 e2 e3 e4 e5
        go_loopw [26] (fun v wr => ∃ i : Nat, i ≤ 3 ∧ v = .int .i64 i ∧ (∀ j (hj : j < 3), j < i → (escW[j]'hj) ≠ m) ∧ Below w.heap.size w wr) (fun v _ => 3 - (intOf v).toNat)
        case atStart => exact ⟨0, Nat.zero_le _, rfl, fun j _ h => by omega, Below.refl _ _⟩
        case round =>
          obtain ⟨i, hi, rfl, hall, hbw⟩ := hrel
          have HA : Hid (∀ j (hj : j < 3), j < i → (escW[j]'hj) ≠ m) := hall
          have HB : Hid (Below w.heap.size w wr) := hbw
          have hszw := hbw.size
          clear hall hbw
          by_cases hlt : i < 3
          · have hidx := fun wx => idx_escs wx i hlt
            obtain ⟨a, ha⟩ : ∃ a, a = escM[i]'hlt := ⟨_, rfl⟩
            obtain ⟨b, hb⟩ : ∃ b, b = escW[i]'hlt := ⟨_, rfl⟩
            rw [← ha, ← hb] at hidx
            by_cases he : b = m
            · have HR : Hid (tbR (x :: y :: t) = (a, 2)) := show _ = _ by rw [HR0.out, ha]; exact tbE_in hlt HA.out (by rw [← hb]; exact he)
              subst he
              clear ha hb
              go_wp2
              go_quiet (fail)
              go_wp2
              go_ret2
              refine ⟨ret2u HR.out, ?_⟩
              exact (HB.out.alloc hszw _).trans ⟨rfl, rfl, rfl, Nat.le_refl _, fun _ _ => rfl⟩
            · have hbe : ((b : Int) == (m : Int)) = false := by rw [beq_eq_false_iff_ne]; omega
              have HE : Hid ((escW[i]'hlt) ≠ m) := show (escW[i]'hlt) ≠ m by rw [← hb]; exact he
              clear ha hb he
              go_wp2
              go_quiet (fail)
              go_wp2
              refine ⟨⟨i + 1, by omega, by go_num, fun j hj hji => ?_, (HB.out.alloc hszw _).trans ⟨rfl, rfl, rfl, Nat.le_refl _, fun _ _ => rfl⟩⟩, by simp [intOf]; omega⟩
              by_cases h : j < i
              · exact HA.out j hj h
              · obtain rfl : j = i := by omega
                exact HE.out
          · obtain rfl : i = 3 := by omega
            have HR : Hid (tbR (x :: y :: t) = (0, 0)) := show _ = _ by rw [HR0.out]; exact tbE_out (fun j hj => HA.out j hj hj)
            go_wp2
            go_ret2
            exact ⟨ret2u HR.out, HB.out⟩
    · have HR : Hid (tbR (x :: r) = (n, 1)) := show tbR (x :: r) = (n, 1) by rw [hn]; exact tbR_one (by rw [← hn]; exact hbad) (by rw [← hn]; exact h92)
      have hb1 : 32 ≤ n := by omega
      have hb2 : n ≤ 126 := by omega
      clear hS hn hbad
      go_enter Tryz.func139, Tryz.ntmps139
      go_wp2
      go_ret2
      exact ⟨ret2u HR.out, Below.refl _ _⟩
end Go.Proofs.YtbdgniiafdjmiaaGreatDoor
/- lex: a text at the front; a token at the front. -/
namespace Go.Proofs.YtbdgniiafdjmiaaGreatDoor
open Go.RowKit

/-- A text, from a place behind its first sign on; what it stands for so far. -/
def textF : Nat → List UInt8 → Nat → List UInt8 → TR
  | 0, _, _, _ => ⟨0, [], 0, 0, 6⟩
  | _ + 1, _, _, [] => ⟨0, [], 0, 0, 6⟩
  | f + 1, meant, at0, x :: r => if x.toNat = 34 then ⟨3, meant, 0, at0 + 1, 0⟩ else if (tbR (x :: r)).2 = 0 then ⟨0, [], 0, 0, 6⟩ else if meant.length = 255 then ⟨0, [], 0, 0, 5⟩
    else textF f (meant ++ [(tbR (x :: r)).1.toUInt8]) (at0 + (tbR (x :: r)).2) ((x :: r).drop (tbR (x :: r)).2)
def textT (l : List UInt8) : TR := textF l.length [] 1 (l.drop 1)

theorem tbR_le (l : List UInt8) : (tbR l).2 ≤ l.length ∧ (tbR l).1 < 256 := by
  cases l with
  | nil => exact ⟨Nat.le_refl _, by decide⟩
  | cons x r =>
    by_cases h : x.toNat < 32 ∨ 126 < x.toNat
    · rw [tbR_bad h]; simp
    · by_cases h2 : x.toNat = 92
      · cases r with
        | nil => rw [tbR_end h h2]; simp
        | cons y t =>
          rw [tbR_two h h2]
          unfold tbE
          split
          · simp
          · split
            · simp
            · split <;> simp
      · rw [tbR_one h h2]
        have := UInt8.toNat_lt x
        simp; omega

abbrev tokZ : Obj := Obj.cells #[Value.int IntKind.i64 0, Value.string ⟨#[]⟩, Value.int IntKind.i64 0, Value.int IntKind.i64 0, Value.int IntKind.i64 0] 165

/-- The place of a result is as it was made. -/
theorem tok_kept {w w1 : World} (hb : Below (w.heap.size + 1) (w.alloc tokZ) w1) :
    (∀ o, w1.cell? ⟨w.heap.size, o, none⟩ = (w.alloc tokZ).cell? ⟨w.heap.size, o, none⟩) ∧ (∀ o, w1.frozen? ⟨w.heap.size, o, none⟩ = (w.alloc tokZ).frozen? ⟨w.heap.size, o, none⟩) :=
  ⟨fun o => hb.cell (p := ⟨w.heap.size, o, none⟩) (by simp), fun o => hb.frozen (p := ⟨w.heap.size, o, none⟩) (by simp)⟩

theorem below_set5 {w w1 : World} (h : Below w.heap.size w w1) (a b c d e : Value) :
    Below w.heap.size w (((((w1.setCell ⟨w.heap.size, 0, none⟩ a).setCell ⟨w.heap.size, 1, none⟩ b).setCell ⟨w.heap.size, 2, none⟩ c).setCell ⟨w.heap.size, 3, none⟩ d).setCell ⟨w.heap.size, 4, none⟩ e) :=
  ((((h.setCell (p := ⟨w.heap.size, 0, none⟩) (Nat.le_refl _) _).setCell (p := ⟨w.heap.size, 1, none⟩) (Nat.le_refl _) _).setCell (p := ⟨w.heap.size, 2, none⟩) (Nat.le_refl _) _).setCell (p := ⟨w.heap.size, 3, none⟩) (Nat.le_refl _) _).setCell (p := ⟨w.heap.size, 4, none⟩) (Nat.le_refl _) _

theorem own_keptX {w w' : World} {B C e n : Nat} {v : Value} {xs : List Value} (h : w.ownsRow B e 1 v n xs) (hb : Below C w w') (hC : w.heap.size ≤ C) : w'.ownsRow B e 1 v n xs :=
  h.kept (row := none) ⟨hb.os, hb.tape, hb.output, hb.size, fun k hk _ => hb.block k (by omega)⟩ (by cases h' : v.ownBlock <;> simp)

set_option maxHeartbeats 4000000 in
set_option maxRecDepth 100000 in
theorem textToken_any (l : List UInt8) (w : World) (hl : l.length ≤ 140737488351232) (hl1 : 1 ≤ l.length) (ht : Tabs w) :
    Calls Tryz.prog 131 #[.string (strB l)] w fun e w' => e = .returned (resV (textT l)) ∧ Below w.heap.size w w' := by
  have HT : Hid (Tabs w) := ht
  have hsz : (strB l).size = l.length := rfl
  have hA : Below w.heap.size w (w.alloc tokZ) := (Below.refl w.heap.size w).alloc (Nat.le_refl _) _
  have HA : Hid (Below w.heap.size w (w.alloc tokZ)) := hA
  clear ht hA
  go_enter Tryz.func131, Tryz.ntmps131
  go_wp2
  go_loopw [5, 6] (fun vm va wr => ∃ (f at0 : Nat) (meant : List UInt8), va = .int .i64 at0 ∧ at0 ≤ l.length ∧ l.length ≤ at0 + f ∧ meant.length ≤ 255 ∧ textT l = textF f meant at0 (l.drop at0) ∧
      wr.ownsRow (w.heap.size + 1) 5 1 vm meant.length (Lib.byteCells meant) ∧ Below (w.heap.size + 1) (w.alloc tokZ) wr) (fun _ a _ => l.length - (intOf a).toNat)
  case atStart => exact ⟨l.length, 1, [], rfl, hl1, by omega, by simp, rfl, World.ownsRow_nil _ _ _ _, Below.refl _ _⟩
  case round =>
    obtain ⟨f, at0, meant, rfl, hat, hfu, hme, htx, hown, hbw⟩ := hrel
    have HTX : Hid (textT l = textF f meant at0 (l.drop at0)) := htx
    have HBW : Hid (Below (w.heap.size + 1) (w.alloc tokZ) wr) := hbw
    have HB : Hid (Below w.heap.size w wr) := HA.out.trans (hbw.mono (by omega))
    have hszw := hbw.size
    rw [World.size_alloc] at hszw
    obtain ⟨hc1, hf1⟩ := tok_kept hbw
    have HO : Hid (wr.ownsRow (w.heap.size + 1) 5 1 u5 meant.length (Lib.byteCells meant)) := hown
    clear htx hbw hown
    by_cases hlt : at0 < l.length
    · obtain ⟨x, r, hxr⟩ : ∃ x r, l.drop at0 = x :: r := ⟨l[at0], l.drop (at0 + 1), List.drop_eq_getElem_cons hlt⟩
      have hx0 : l[at0] = x := by
        have h := List.drop_eq_getElem_cons hlt
        rw [hxr] at h
        exact (List.cons.inj h).1.symm
      have hidx := fun wx => str_at wx l at0 hlt
      rw [hx0] at hidx
      obtain ⟨n, hn⟩ : ∃ n, n = x.toNat := ⟨_, rfl⟩
      rw [← hn] at hidx
      have hn256 : n < 256 := by rw [hn]; exact UInt8.toNat_lt x
      obtain ⟨f', rfl⟩ : ∃ f', f = f' + 1 := ⟨f - 1, by omega⟩
      have HT1 : Hid (textT l = if n = 34 then ⟨3, meant, 0, at0 + 1, 0⟩ else if (tbR (x :: r)).2 = 0 then ⟨0, [], 0, 0, 6⟩ else if meant.length = 255 then ⟨0, [], 0, 0, 5⟩ else textF f' (meant ++ [(tbR (x :: r)).1.toUInt8]) (at0 + (tbR (x :: r)).2) ((x :: r).drop (tbR (x :: r)).2)) := show _ = _ by
        rw [HTX.out, hxr, hn]; rfl
      have hsl := fun wx => str_from wx l at0 (by omega)
      rw [hxr] at hsl
      have hrl : (x :: r).length = l.length - at0 := by rw [← hxr, List.length_drop]
      have HXR : Hid (l.drop at0 = x :: r) := hxr
      clear hx0 hn hxr
      by_cases h34 : n = 34
      · have HR : Hid (textT l = ⟨3, meant, 0, at0 + 1, 0⟩) := show _ = _ by rw [HT1.out, if_pos h34]
        subst h34
        obtain ⟨baseM, capM, rfl, hrowM, -, -, -⟩ := own_row HO.out
        have hcv := conv_row wr baseM meant capM hrowM
        clear hrowM
        go_wp2
        refine bodyPost_ret (v := resV ⟨3, meant, 0, at0 + 1, 0⟩) (by simp [results, Tryz.results131, go_sem, resV, hc1]) rfl ⟨by rw [HR.out], ?_⟩
        exact below_set5 HB.out _ _ _ _ _
      · have h34b : ((n : Int) == 34) = false := by rw [beq_eq_false_iff_ne]; omega
        have htb := tbR_le (x :: r)
        have cb := textByte_any x r wr (by simp at hrl; omega) (HT.out.below HB.out (Nat.le_refl _))
        obtain ⟨c, sz, hcs⟩ : ∃ c sz, tbR (x :: r) = (c, sz) := ⟨_, _, rfl⟩
        rw [hcs] at cb htb
        simp only at htb
        have HT2 : Hid (textT l = if sz = 0 then ⟨0, [], 0, 0, 6⟩ else if meant.length = 255 then ⟨0, [], 0, 0, 5⟩ else textF f' (meant ++ [c.toUInt8]) (at0 + sz) ((x :: r).drop sz)) := show _ = _ by
          rw [HT1.out, if_neg h34, hcs]
        clear hcs h34
        go_wp2_with fail
        refine cb.mono ?_
        clear cb hc1 hf1
        rintro e w2 ⟨rfl, hb2⟩
        have hsz2 := hb2.size
        have hB2 : Below (w.heap.size + 1) (w.alloc tokZ) w2 := HBW.out.trans (hb2.mono hszw)
        obtain ⟨hc1, hf1⟩ := tok_kept hB2
        have HB2 : Hid (Below (w.heap.size + 1) (w.alloc tokZ) w2) := hB2
        have HB3 : Hid (Below w.heap.size w w2) := HA.out.trans (hB2.mono (by omega))
        have HO2 : Hid (w2.ownsRow (w.heap.size + 1) 5 1 u5 meant.length (Lib.byteCells meant)) := own_keptX HO.out hb2 (Nat.le_refl _)
        clear hb2 hB2 HO HBW
        by_cases hs0 : sz = 0
        · have HR : Hid (textT l = ⟨0, [], 0, 0, 6⟩) := show _ = _ by rw [HT2.out, if_pos hs0]
          subst hs0
          go_wp2
          refine bodyPost_ret (v := resV ⟨0, [], 0, 0, 6⟩) (by simp [results, Tryz.results131, go_sem, resV, hc1]) rfl ⟨by rw [HR.out], ?_⟩
          exact below_set5 HB3.out _ _ _ _ _
        · have hs0b : ((sz : Int) == 0) = false := by rw [beq_eq_false_iff_ne]; omega
          obtain ⟨baseM, capM, rfl, -, -, -, -⟩ := own_row HO2.out
          obtain ⟨ml, hml⟩ : ∃ ml, ml = meant.length := ⟨_, rfl⟩
          have HML : Hid (ml = meant.length) := hml
          rw [← hml]
          by_cases h255 : ml = 255
          · have HR : Hid (textT l = ⟨0, [], 0, 0, 5⟩) := show _ = _ by rw [HT2.out, if_neg hs0, if_pos (by rw [← hml]; exact h255)]
            clear hml
            subst h255
            go_wp2
            refine bodyPost_ret (v := resV ⟨0, [], 0, 0, 5⟩) (by simp [results, Tryz.results131, go_sem, resV, hc1]) rfl ⟨by rw [HR.out], ?_⟩
            exact below_set5 HB3.out _ _ _ _ _
          · have h255b : ((ml : Int) == 255) = false := by rw [beq_eq_false_iff_ne]; omega
            have HR : Hid (textT l = textF f' (meant ++ [c.toUInt8]) (at0 + sz) (l.drop (at0 + sz))) := show _ = _ by
              rw [HT2.out, if_neg hs0, if_neg (by rw [← hml]; exact h255), ← HXR.out, List.drop_drop]
            have HO3 : Hid (w2.ownsRow (w.heap.size + 1) 5 1 (.slice baseM ml capM) meant.length (Lib.byteCells meant)) := by rw [hml]; exact HO2.out
            have hc256 := htb.2
            have hszl := htb.1
            rw [hrl] at hszl
            have hmlb : meant.length ≤ 255 := hme
            clear hml HO2 htb
            go_wp2_with (at_builtin; refine append_bytes rfl _ _ rfl (w.heap.size + 1) _ meant rfl (HO3.out.alloc _) _ [c.toUInt8] rfl (bytesAt_one hc256 (by simp)) (by simp; omega) (by simp; omega) ?_)
            intro v3 w3 hown3 hgrow
            have HB4 : Hid (Below (w.heap.size + 1) (w.alloc tokZ) w3) := (HB2.out.alloc (by omega) _).grown hgrow (by simp; omega) (fun q hq => (HO3.out.lt q hq).1)
            have HO4 : Hid (w3.ownsRow (w.heap.size + 1) 5 1 v3 (meant ++ [c.toUInt8]).length (Lib.byteCells (meant ++ [c.toUInt8]))) := by
              rw [show (meant ++ [c.toUInt8]).length = meant.length + 1 by simp]; exact hown3
            clear hgrow hown3
            go_wp2
            refine ⟨⟨f', at0 + sz, meant ++ [c.toUInt8], by go_num, by omega, by omega, ?_, HR.out, HO4.out, HB4.out⟩, by simp [intOf]; omega⟩
            rw [List.length_append, List.length_singleton, ← HML.out]
            have := HML.out
            omega
    · obtain rfl : at0 = l.length := by omega
      have HR : Hid (textT l = ⟨0, [], 0, 0, 6⟩) := show _ = _ by
        rw [HTX.out, List.drop_length]; cases f <;> rfl
      go_wp2
      refine bodyPost_ret (v := resV ⟨0, [], 0, 0, 6⟩) (by simp [results, Tryz.results131, go_sem, resV, hc1]) rfl ⟨by rw [HR.out], ?_⟩
      exact below_set5 HB.out _ _ _ _ _

/-- The token with which a text begins. -/
def tokT (l : List UInt8) : TR :=
  match l with
  | [] => ⟨0, [], 0, 0, 0⟩
  | x :: _ => if letterN x.toNat = true then nameR l else if digitN x.toNat = true then numT l else if x.toNat = 34 then textT l else signT l

theorem digL_ne {x : UInt8} {r : List UInt8} (h : digitN x.toNat = true) : digL (x :: r) ≠ [] := by
  unfold digL; simp [h]

set_option maxHeartbeats 4000000 in
set_option maxRecDepth 100000 in
theorem token_any (l : List UInt8) (w : World) (hl : l.length ≤ 140737488351232) (ht : Tabs w) :
    Calls Tryz.prog 122 #[.string (strB l)] w fun e w' => e = .returned (resV (tokT l)) ∧ Below w.heap.size w w' := by
  have hA : Below w.heap.size w (w.alloc tokZ) := (Below.refl w.heap.size w).alloc (Nat.le_refl _) _
  have HA : Hid (Below w.heap.size w (w.alloc tokZ)) := hA
  have HT : Hid (Tabs (w.alloc tokZ)) := ht.alloc _
  clear ht hA
  cases l with
  | nil =>
    go_enter Tryz.func122, Tryz.ntmps122
    go_wp2
    refine bodyPost_ret (v := resV ⟨0, [], 0, 0, 0⟩) (by simp [results, Tryz.results122, go_sem, resV]) rfl ⟨rfl, ?_⟩
    exact HA.out
  | cons x r =>
    have hidx := fun wx => str_at wx (x :: r) 0 (by simp)
    rw [show ((0 : Nat) : Int) = 0 from rfl, show (x :: r)[0] = x from rfl] at hidx
    obtain ⟨n, hn⟩ : ∃ n, n = x.toNat := ⟨_, rfl⟩
    rw [← hn] at hidx
    have hn256 : n < 256 := by rw [hn]; exact UInt8.toNat_lt x
    have HTT : Hid (tokT (x :: r) = if letterN n = true then nameR (x :: r) else if digitN n = true then numT (x :: r) else if n = 34 then textT (x :: r) else signT (x :: r)) := show _ = _ by rw [hn]; rfl
    have HD : Hid (digitN n = true → digL (x :: r) ≠ []) := fun h => digL_ne (by rw [← hn]; exact h)
    have hne : ¬ (x :: r) = [] := by simp
    clear hn
    go_enter Tryz.func122, Tryz.ntmps122
    have hl' : (x :: r).length ≤ 140737488351232 := hl
    have fin : Hid (∀ (R : TR) (w1 : World), Below (w.alloc tokZ).heap.size (w.alloc tokZ) w1 → Below (w.heap.size + 1) (w.alloc tokZ) w1) := fun R w1 h => by rw [World.size_alloc] at h; exact h
    have cn := beginsName_any n hn256 (w.alloc tokZ)
    go_wp2_with fail
    refine cn.mono ?_
    clear cn
    rintro e w1 ⟨rfl, rfl⟩
    cases h1 : letterN n with
    | true =>
      obtain ⟨R, hR⟩ : ∃ R, R = nameR (x :: r) := ⟨_, rfl⟩
      have c1 := nameToken_any (x :: r) (w.alloc tokZ) (by omega) HT.out
      rw [← hR] at c1
      have HR : Hid (tokT (x :: r) = R) := show _ = _ by rw [HTT.out, if_pos h1, hR]
      unfold resV at c1
      clear hR
      go_wp2_with fail
      refine c1.mono ?_
      clear c1
      rintro e w1 ⟨rfl, hb1⟩
      have hb2 := fin.out R w1 hb1
      obtain ⟨hc1, hf1⟩ := tok_kept hb2
      have HB : Hid (Below w.heap.size w w1) := HA.out.trans (hb2.mono (by omega))
      clear hb1 hb2
      go_wp2
      refine bodyPost_ret (v := resV R) (by simp [results, Tryz.results122, go_sem, resV, hc1]) rfl ⟨by rw [HR.out], ?_⟩
      exact below_set5 HB.out _ _ _ _ _
    | false =>
      have cd := isDigit_any n hn256 (w.alloc tokZ)
      go_wp2_with fail
      refine cd.mono ?_
      clear cd
      rintro e w1 ⟨rfl, rfl⟩
      cases h2 : digitN n with
      | true =>
        obtain ⟨R, hR⟩ : ∃ R, R = numT (x :: r) := ⟨_, rfl⟩
        have c1 := numberToken_any (x :: r) (w.alloc tokZ) (by omega) (HD.out h2) HT.out
        rw [← hR] at c1
        have HR : Hid (tokT (x :: r) = R) := show _ = _ by rw [HTT.out, if_neg (by rw [h1]; simp), if_pos h2, hR]
        unfold resV at c1
        clear hR
        go_wp2_with fail
        refine c1.mono ?_
        clear c1
        rintro e w1 ⟨rfl, hb1⟩
        have hb2 := fin.out R w1 hb1
        obtain ⟨hc1, hf1⟩ := tok_kept hb2
        have HB : Hid (Below w.heap.size w w1) := HA.out.trans (hb2.mono (by omega))
        clear hb1 hb2
        go_wp2
        refine bodyPost_ret (v := resV R) (by simp [results, Tryz.results122, go_sem, resV, hc1]) rfl ⟨by rw [HR.out], ?_⟩
        exact below_set5 HB.out _ _ _ _ _
      | false =>
        by_cases h34 : n = 34
        · obtain ⟨R, hR⟩ : ∃ R, R = textT (x :: r) := ⟨_, rfl⟩
          have c1 := textToken_any (x :: r) (w.alloc tokZ) (by omega) (by simp) HT.out
          rw [← hR] at c1
          have HR : Hid (tokT (x :: r) = R) := show _ = _ by rw [HTT.out, if_neg (by rw [h1]; simp), if_neg (by rw [h2]; simp), if_pos h34, hR]
          subst h34
          unfold resV at c1
          clear hR
          go_wp2_with fail
          refine c1.mono ?_
          clear c1
          rintro e w1 ⟨rfl, hb1⟩
          have hb2 := fin.out R w1 hb1
          obtain ⟨hc1, hf1⟩ := tok_kept hb2
          have HB : Hid (Below w.heap.size w w1) := HA.out.trans (hb2.mono (by omega))
          clear hb1 hb2
          go_wp2
          refine bodyPost_ret (v := resV R) (by simp [results, Tryz.results122, go_sem, resV, hc1]) rfl ⟨by rw [HR.out], ?_⟩
          exact below_set5 HB.out _ _ _ _ _
        · obtain ⟨R, hR⟩ : ∃ R, R = signT (x :: r) := ⟨_, rfl⟩
          have h34b : ((n : Int) == 34) = false := by rw [beq_eq_false_iff_ne]; omega
          have c1 := signToken_any (x :: r) (w.alloc tokZ) HT.out
          rw [← hR] at c1
          have HR : Hid (tokT (x :: r) = R) := show _ = _ by rw [HTT.out, if_neg (by rw [h1]; simp), if_neg (by rw [h2]; simp), if_neg h34, hR]
          unfold resV at c1
          clear hR
          go_wp2_with fail
          refine c1.mono ?_
          clear c1
          rintro e w1 ⟨rfl, hb1⟩
          have hb2 := fin.out R w1 hb1
          obtain ⟨hc1, hf1⟩ := tok_kept hb2
          have HB : Hid (Below w.heap.size w w1) := HA.out.trans (hb2.mono (by omega))
          clear hb1 hb2
          go_wp2
          refine bodyPost_ret (v := resV R) (by simp [results, Tryz.results122, go_sem, resV, hc1]) rfl ⟨by rw [HR.out], ?_⟩
          exact below_set5 HB.out _ _ _ _ _
end Go.Proofs.YtbdgniiafdjmiaaGreatDoor
/- lex: the function that iterates over tokens. -/
namespace Go.Proofs.YtbdgniiafdjmiaaGreatDoor
open Go.RowKit Go.Shelf

attribute [local go_sem] Oper.semAt_some

theorem nameL_pos {x : UInt8} {r : List UInt8} (h : letterN x.toNat = true) : 1 ≤ (nameL (x :: r)).length := by
  unfold nameL; simp [nameN, h]

theorem textF_sz : ∀ (f : Nat) (meant : List UInt8) (at0 : Nat) (r : List UInt8), (textF f meant at0 r).e = 0 → 1 ≤ (textF f meant at0 r).sz ∧ (textF f meant at0 r).sz ≤ at0 + r.length
  | 0, _, _, _, h => by simp [textF] at h
  | _ + 1, _, _, [], h => by simp [textF] at h
  | f + 1, meant, at0, x :: r, h => by
    have htb := (tbR_le (x :: r)).1
    unfold textF at h ⊢
    by_cases h1 : x.toNat = 34
    · rw [if_pos h1]; simp
    · rw [if_neg h1] at h ⊢
      by_cases h2 : (tbR (x :: r)).2 = 0
      · rw [if_pos h2] at h; simp at h
      · rw [if_neg h2] at h ⊢
        by_cases h3 : meant.length = 255
        · rw [if_pos h3] at h; simp at h
        · rw [if_neg h3] at h ⊢
          have := textF_sz f _ _ _ h
          rw [List.length_drop] at this
          omega

theorem bestS_pre (l : List UInt8) : bestS l 25 = [] ∨ Lib.hasPrefix l (bestS l 25) = true := by
  have key : ∀ (xs : List (List UInt8)) (b : List UInt8), (b = [] ∨ Lib.hasPrefix l b = true) → (xs.foldl (longer l) b = [] ∨ Lib.hasPrefix l (xs.foldl (longer l) b) = true) := by
    intro xs
    induction xs with
    | nil => intro b hb; exact hb
    | cons x xs ih =>
      intro b hb
      refine ih _ ?_
      unfold longer
      split
      · rename_i h; exact .inr h.2
      · exact hb
  exact key _ _ (.inl rfl)

theorem pre_len {l x : List UInt8} (h : Lib.hasPrefix l x = true) : x.length ≤ l.length := by
  unfold Lib.hasPrefix at h
  exact (List.isPrefixOf_iff_prefix.1 h).length_le

/-- A token that is one has bytes, but for the end; they are the text's. -/
theorem tokT_sz (l : List UInt8) (he : (tokT l).e = 0) : (tokT l).sz ≤ l.length ∧ ((tokT l).k ≠ 0 → 1 ≤ (tokT l).sz) ∧ ((tokT l).k = 0 → l = []) := by
  cases l with
  | nil => simp [tokT]
  | cons x r =>
    unfold tokT at he ⊢
    simp only at he ⊢
    by_cases h1 : letterN x.toNat = true
    · rw [if_pos h1] at he ⊢
      have hp := nameL_pos (r := r) h1
      have hle := nameL_le (x :: r)
      unfold nameR at he ⊢
      split
      · exact ⟨hle, fun _ => hp, fun h => by simp at h⟩
      · rename_i hw
        rw [if_neg hw] at he
        split
        · rename_i h20; rw [if_pos h20] at he; simp at he
        · exact ⟨hle, fun _ => hp, fun h => by simp at h⟩
    · rw [if_neg h1] at he ⊢
      by_cases h2 : digitN x.toNat = true
      · rw [if_pos h2] at he ⊢
        have hp : 1 ≤ (digL (x :: r)).length := by unfold digL; simp [h2]
        have hle := digL_le (x :: r)
        unfold numT at he ⊢
        split
        · exact ⟨hle, fun _ => hp, fun h => by simp at h⟩
        · rename_i h63; rw [if_neg h63] at he; simp at he
      · rw [if_neg h2] at he ⊢
        by_cases h3 : x.toNat = 34
        · rw [if_pos h3] at he ⊢
          have := textF_sz _ _ _ _ he
          unfold textT
          have hk : ∀ (f : Nat) (m : List UInt8) (a : Nat) (q : List UInt8), (textF f m a q).e = 0 → (textF f m a q).k = 3 := by
            intro f
            induction f with
            | zero => intro m a q h; simp [textF] at h
            | succ f ih =>
              intro m a q h
              cases q with
              | nil => simp [textF] at h
              | cons y q =>
                unfold textF at h ⊢
                split
                · rfl
                · rename_i g1; rw [if_neg g1] at h
                  split
                  · rename_i g2; rw [if_pos g2] at h; simp at h
                  · rename_i g2; rw [if_neg g2] at h
                    split
                    · rename_i g3; rw [if_pos g3] at h; simp at h
                    · rename_i g3; rw [if_neg g3] at h; exact ih _ _ _ h
          have hk3 := hk _ _ _ _ he
          refine ⟨?_, fun _ => this.1, fun h => by rw [hk3] at h; simp at h⟩
          have h9 := this.2
          rw [List.length_drop] at h9
          simp at h9 ⊢
          omega
        · rw [if_neg h3] at he ⊢
          have hp0 := bestS_pre (x :: r)
          unfold signT at he ⊢
          generalize bestS (x :: r) 25 = bb at he hp0 ⊢
          cases bb with
          | nil => simp at he
          | cons y ys =>
            rw [if_neg (by simp)]
            exact ⟨pre_len (hp0.resolve_left (by simp)), fun _ => by simp, fun h => by simp at h⟩

/-- A token, and where it is. -/
structure Tk where
  k : Nat
  s : List UInt8
  n : Nat
  line : Nat
  at0 : Nat

def tokV (t : Tk) : Value := .agg #[.int .i64 t.k, .string (strB t.s), .int .i64 t.n, .int .i64 t.line, .int .i64 t.at0]
/-- What is read next, from a place on; its line; its place. -/
def nextT (l : List UInt8) (at0 : Nat) : TR := tokT (l.drop (at0 + gapN (l.drop at0)))
def lineT (l : List UInt8) (line at0 : Nat) : Nat := line + Lib.countByte ((l.drop at0).take (gapN (l.drop at0))) 10
def placeT (l : List UInt8) (at0 : Nat) : Nat := at0 + gapN (l.drop at0)
def tkT (l : List UInt8) (line at0 : Nat) : Tk := ⟨(nextT l at0).k, (nextT l at0).s, (nextT l at0).n, lineT l line at0, placeT l at0⟩

theorem placeT_le {l : List UInt8} {at0 : Nat} (h : at0 ≤ l.length) : placeT l at0 ≤ l.length := by
  unfold placeT
  have := gapN_le _ (l.drop at0) (Nat.le_refl _)
  rw [List.length_drop] at this
  omega

theorem count_le (l : List UInt8) (c : UInt8) : Lib.countByte l c ≤ l.length := List.count_le_length

end Go.Proofs.YtbdgniiafdjmiaaGreatDoor
/- lex: the tokens of a text. -/
namespace Go.Proofs.YtbdgniiafdjmiaaGreatDoor
open Go.RowKit

/-- From one place on these tokens are read, up to another. -/
def scanTo (l : List UInt8) : Nat → Nat → List Tk → Nat → Nat → Prop
  | line0, a0, [], line, a => line = line0 ∧ a = a0
  | line0, a0, t :: ts, line, a => (nextT l a0).e = 0 ∧ t = tkT l line0 a0 ∧ scanTo l (lineT l line0 a0) (placeT l a0 + (nextT l a0).sz) ts line a

theorem scanTo_snoc {l : List UInt8} {line a : Nat} (he : (nextT l a).e = 0) : ∀ {ts : List Tk} {line0 a0 : Nat}, scanTo l line0 a0 ts line a →
    scanTo l line0 a0 (ts ++ [tkT l line a]) (lineT l line a) (placeT l a + (nextT l a).sz)
  | [], line0, a0, ⟨h1, h2⟩ => by subst h1; subst h2; exact ⟨he, rfl, rfl, rfl⟩
  | t :: ts, line0, a0, ⟨h1, h2, h3⟩ => ⟨h1, h2, scanTo_snoc he h3⟩

theorem scanTo_last {l : List UInt8} {t : Tk} {line a : Nat} : ∀ {ts : List Tk} {line0 a0 : Nat}, scanTo l line0 a0 (ts ++ [t]) line a →
    ∃ line1 a1, scanTo l line0 a0 ts line1 a1 ∧ (nextT l a1).e = 0 ∧ t = tkT l line1 a1
  | [], line0, a0, h => ⟨line0, a0, ⟨rfl, rfl⟩, h.1, h.2.1⟩
  | _ :: ts, line0, a0, h => by
    obtain ⟨line1, a1, h1, h2, h3⟩ := scanTo_last (ts := ts) h.2.2
    exact ⟨line1, a1, ⟨h.1, h.2.1, h1⟩, h2, h3⟩

/-- The tokens from a place on; or where it is wrong, and what. -/
def scanS (l : List UInt8) : Nat → Nat → Nat → List Tk × Nat × Nat
  | 0, _, _ => ([], 0, 0)
  | f + 1, line, a =>
    if (nextT l a).e ≠ 0 then ([], placeT l a, (nextT l a).e) else if (nextT l a).k = 0 then ([tkT l line a], 0, 0)
    else if (scanS l f (lineT l line a) (placeT l a + (nextT l a).sz)).2.2 ≠ 0 then ([], (scanS l f (lineT l line a) (placeT l a + (nextT l a).sz)).2.1, (scanS l f (lineT l line a) (placeT l a + (nextT l a).sz)).2.2)
    else (tkT l line a :: (scanS l f (lineT l line a) (placeT l a + (nextT l a).sz)).1, 0, 0)
def scanB (l : List UInt8) : List Tk × Nat × Nat := if 4096 < l.length then ([], 0, 5) else scanS l (l.length + 1) 1 0

theorem nextT_move {l : List UInt8} {a : Nat} (ha : a ≤ l.length) (he : (nextT l a).e = 0) (hk : (nextT l a).k ≠ 0) : a < placeT l a + (nextT l a).sz ∧ placeT l a + (nextT l a).sz ≤ l.length := by
  have hp := placeT_le ha
  have hz := tokT_sz (l.drop (a + gapN (l.drop a))) he
  have h1 := hz.2.1 hk
  have h2 := hz.1
  rw [List.length_drop] at h2
  unfold placeT at hp ⊢
  unfold nextT
  omega

theorem scanS_err {l : List UInt8} {line a : Nat} (he : (nextT l a).e ≠ 0) : ∀ (ts : List Tk) (line0 a0 f : Nat), scanTo l line0 a0 ts line a → (∀ t ∈ ts, t.k ≠ 0) → a0 ≤ l.length → l.length < a0 + f →
    scanS l f line0 a0 = ([], placeT l a, (nextT l a).e)
  | [], line0, a0, f, ⟨h1, h2⟩, _, ha, hf => by
    subst h1; subst h2
    obtain ⟨f, rfl⟩ : ∃ g, f = g + 1 := ⟨f - 1, by omega⟩
    unfold scanS; rw [if_pos he]
  | t :: ts, line0, a0, f, ⟨h1, h2, h3⟩, hk, ha, hf => by
    obtain ⟨f, rfl⟩ : ∃ g, f = g + 1 := ⟨f - 1, by omega⟩
    have hk0 : (nextT l a0).k ≠ 0 := by have := hk t (List.mem_cons_self ..); rw [h2] at this; exact this
    have hm := nextT_move ha h1 hk0
    have ih := scanS_err he ts _ _ f h3 (fun t ht => hk t (List.mem_cons_of_mem _ ht)) hm.2 (by omega)
    unfold scanS
    rw [if_neg (by simp [h1]), if_neg hk0, ih, if_pos he]

theorem scanS_end {l : List UInt8} {line a : Nat} (he : (nextT l a).e = 0) (hz : (nextT l a).k = 0) : ∀ (ts : List Tk) (line0 a0 f : Nat), scanTo l line0 a0 ts line a → (∀ t ∈ ts, t.k ≠ 0) → a0 ≤ l.length → l.length < a0 + f →
    scanS l f line0 a0 = (ts ++ [tkT l line a], 0, 0)
  | [], line0, a0, f, ⟨h1, h2⟩, _, ha, hf => by
    subst h1; subst h2
    obtain ⟨f, rfl⟩ : ∃ g, f = g + 1 := ⟨f - 1, by omega⟩
    unfold scanS; rw [if_neg (by simp [he]), if_pos hz]; rfl
  | t :: ts, line0, a0, f, ⟨h1, h2, h3⟩, hk, ha, hf => by
    obtain ⟨f, rfl⟩ : ∃ g, f = g + 1 := ⟨f - 1, by omega⟩
    have hk0 : (nextT l a0).k ≠ 0 := by have := hk t (List.mem_cons_self ..); rw [h2] at this; exact this
    have hm := nextT_move ha h1 hk0
    have ih := scanS_end he hz ts _ _ f h3 (fun t ht => hk t (List.mem_cons_of_mem _ ht)) hm.2 (by omega)
    unfold scanS
    rw [if_neg (by simp [h1]), if_neg hk0, ih, if_neg (by simp), h2]
    rfl

theorem scanTo_len {l : List UInt8} {line a : Nat} : ∀ (ts : List Tk) (line0 a0 : Nat), scanTo l line0 a0 ts line a → (∀ t ∈ ts, t.k ≠ 0) → a0 ≤ l.length → line0 ≤ a0 + 1 → a0 + ts.length ≤ a ∧ a ≤ l.length ∧ line ≤ a + 1
  | [], line0, a0, ⟨h1, h2⟩, _, ha, hl => by subst h1; subst h2; exact ⟨by simp, ha, hl⟩
  | t :: ts, line0, a0, ⟨h1, h2, h3⟩, hk, ha, hl => by
    have hk0 : (nextT l a0).k ≠ 0 := by have := hk t (List.mem_cons_self ..); rw [h2] at this; exact this
    have hm := nextT_move ha h1 hk0
    have hc : lineT l line0 a0 ≤ placeT l a0 + 1 := by
      unfold lineT placeT
      have := count_le ((l.drop a0).take (gapN (l.drop a0))) 10
      have h2 : ((l.drop a0).take (gapN (l.drop a0))).length ≤ gapN (l.drop a0) := List.length_take_le ..
      omega
    have := scanTo_len ts _ _ h3 (fun t ht => hk t (List.mem_cons_of_mem _ ht)) hm.2 (by omega)
    rw [List.length_cons]
    omega

/-- The cells of tokens. -/
def tkCells (ts : List Tk) : List Value := ts.flatMap fun t => [.int .i64 t.k, .string (strB t.s), .int .i64 t.n, .int .i64 t.line, .int .i64 t.at0]
theorem tkCells_len (ts : List Tk) : (tkCells ts).length = ts.length * 5 := by
  induction ts with
  | nil => rfl
  | cons t ts ih => unfold tkCells at ih ⊢; rw [List.flatMap_cons, List.length_append, ih, List.length_cons]; simp; omega
theorem tkCells_append (a b : List Tk) : tkCells (a ++ b) = tkCells a ++ tkCells b := by unfold tkCells; rw [List.flatMap_append]
theorem textF_s : ∀ (f : Nat) (meant : List UInt8) (at0 : Nat) (r : List UInt8), meant.length ≤ 255 → (textF f meant at0 r).s.length ≤ 255
  | 0, _, _, _, _ => by simp [textF]
  | _ + 1, _, _, [], _ => by simp [textF]
  | f + 1, meant, at0, x :: r, h => by
    unfold textF
    split
    · exact h
    · split
      · simp
      · split
        · simp
        · rename_i h3
          exact textF_s f _ _ _ (by rw [List.length_append]; simp; omega)

theorem tokT_s (l : List UInt8) : (tokT l).s.length ≤ l.length + 255 := by
  cases l with
  | nil => simp [tokT]
  | cons x r =>
    unfold tokT
    simp only
    split
    · have := nameL_le (x :: r)
      unfold nameR
      split
      · exact Nat.le_trans this (by omega)
      · split
        · simp
        · exact Nat.le_trans this (by omega)
    · split
      · unfold numT; split <;> exact Nat.zero_le _
      · split
        · have h9 : (textT (x :: r)).s.length ≤ 255 := textF_s (x :: r).length [] 1 ((x :: r).drop 1) (Nat.zero_le _)
          exact Nat.le_trans h9 (Nat.le_add_left 255 _)
        · unfold signT
          have h9 := bestS_len (x :: r) 25
          generalize bestS (x :: r) 25 = bb at h9 ⊢
          split
          · exact Nat.zero_le _
          · have h8 : 2 ≤ (x :: r).length + 255 := Nat.le_trans (by decide) (Nat.le_add_left 255 _)
            exact Nat.le_trans h9 h8
end Go.Proofs.YtbdgniiafdjmiaaGreatDoor
/- lex.Scan. -/
namespace Go.Proofs.YtbdgniiafdjmiaaGreatDoor
open Go.RowKit Go.Shelf

attribute [local go_sem] Oper.semAt_some

set_option maxRecDepth 100000 in
set_option maxHeartbeats 1000000 in
theorem clone_str (l : List UInt8) (w : World) (hl : l.length ≤ 281474976710656) :
    Calls Tryz.prog 120 #[.string (strB l)] w fun e w' => e = .returned (.string (strB l)) ∧ Below w.heap.size w w' := by
  go_enter Tryz.func120, Tryz.ntmps120
  go_wp2_with fail
  refine (Tryz.stringslite_Clone (strB l) w hl).mono ?_
  rintro e w1 ⟨rfl, hb⟩
  have HB : Hid (Below w.heap.size w w1) := hb
  clear hb
  go_wp2
  go_ret
  exact ⟨rfl, HB.out⟩

/-- A range over a function's value, in no round, under a fence without a bound. -/
theorem rangeFunc_x {n : Nat} {P : Program} {g : Operand} {ps : Array Tmp} {assign body : Code} {Q : Exit → Act → World → Prop} {a : Act} {w : World} {gf : Nat} {lb : Array Value}
    (hg : a.eval g = .func (.func gf) #[] lb) (eg : ∀ args w, (callFunc gf args).run P w = .ok (.enter gf args) w)
    (h : ∀ r0 : Loop, r0.state = .ready → r0.pending = none → r0.tmps = a.tmps → r0.params = ps → r0.assign = assign → r0.body = body →
      CallsIn Fence.wide (n - 1) P gf (#[.func (.yield (w.heap.size + 1)) #[] #[]] ++ lb) ((w.alloc (.deferred (some []))).alloc (.loop r0)) (rangePost Fence.wide n P (w.heap.size + 1) Q { a with defers := [{ target := .collected w.heap.size, args := #[] }] ++ a.defers })) :
    (Code.rangeFunc g ps assign body).wpIn Fence.wide n P Q a w :=
  wpIn_rangeFunc fun fn _ => ⟨_, _, _, { target := .fn (.func gf) lb, args := #[.func (.yield (w.heap.size + 1)) #[] #[]] }, _, gf, _, _, run_enterLoop_outer fn a.tmps ps assign body,
    by simp only [resolve, hg]; simp [go_sem]; rfl, fun _ _ => trivial, by simp [invoke, go_sem, eg]; rfl, (fun hd => by cases hd), h _ rfl rfl rfl rfl rfl rfl⟩

set_option maxRecDepth 100000 in
theorem info_tok : (Tryz.prog.info? 165).map (fun i => (i.zero, i.size, i.bytes)) = some (some (.agg #[.int .i64 0, .string ⟨#[]⟩, .int .i64 0, .int .i64 0, .int .i64 0]), 5, 48) := by kernel_rfl

theorem own_blockX {w w' : World} {B e sz n : Nat} {v : Value} {xs : List Value} (h : w.ownsRow B e sz v n xs) (hk : ∀ (k : Nat) (cur : Array Value), w.heap[k]? = some (Obj.cells cur e (0, 0)) → w'.heap[k]? = w.heap[k]?) : w'.ownsRow B e sz v n xs := by
  obtain ⟨h1, h2⟩ := h
  refine ⟨h1, ?_⟩
  rcases h2 with h2 | ⟨g, cap, cur, hv, hg, hh, r⟩
  · exact .inl h2
  · exact .inr ⟨g, cap, cur, hv, hg, (hk g cur hh).trans hh, r⟩

theorem own_baseX {w : World} {B B' e sz n : Nat} {v : Value} {xs : List Value} (h : w.ownsRow B e sz v n xs) (hB : B' ≤ B) : w.ownsRow B' e sz v n xs := by
  obtain ⟨h1, h2⟩ := h
  refine ⟨h1, ?_⟩
  rcases h2 with h2 | ⟨g, cap, cur, hv, hg, r⟩
  · exact .inl h2
  · exact .inr ⟨g, cap, cur, hv, Nat.le_trans hB hg, r⟩

theorem setCell_same {W : World} {b i : Nat} {v : Value} {cur : Array Value} {t : TypeId} {fr : Nat × Nat} (h : W.heap[b]? = some (.cells cur t fr)) (hv : cur[i]? = some v) : W.setCell ⟨b, i, none⟩ v = W := by
  have e : W.heap.modify b (fun | .cells c elem frozen => .cells (if (none : Option Unit).isSome then c else c.setIfInBounds i v) elem frozen | o => o) = W.heap := by
    apply Array.ext_getElem?
    intro k
    by_cases hk : k = b
    · subst hk
      rw [Array.getElem?_modify, h]
      have : cur.setIfInBounds i v = cur := by
        apply Array.ext_getElem?
        intro j
        rw [Array.getElem?_setIfInBounds]
        by_cases hj : i = j
        · subst hj
          rw [hv]
          have := (Array.getElem?_eq_some_iff.1 hv).1
          simp [this]
        · simp [hj]
      simp [this]
    · rw [Array.getElem?_modify, if_neg (by omega)]
  cases W
  unfold World.setCell
  simp only at e ⊢
  congr 1

theorem results_cell3 {fn : Func} {p q s : Tmp} {t1 t2 t3 : TypeId} (h : fn.results = #[.cell p t1, .cell q t2, .cell s t3]) (tmps : Array Value) (P : Program) (w : World) {a1 a2 a3 : Addr} {v1 v2 v3 : Value}
    (h1 : tmps.getD p undef = .pointer (some a1)) (h2 : tmps.getD q undef = .pointer (some a2)) (h3 : tmps.getD s undef = .pointer (some a3))
    (l1 : (loadVar t1 a1).run P w = .ok v1 w) (l2 : (loadVar t2 a2).run P w = .ok v2 w) (l3 : (loadVar t3 a3).run P w = .ok v3 w) :
    (results fn tmps).run P w = .ok (.tuple #[v1, v2, v3]) w := by
  rw [Array.getD_eq_getD_getElem?] at h1 h2 h3
  simp only [results, h]
  simp [Sem.run_bind, Result.andThen, h1, h2, h3, l1, l2, l3, asAddr]

theorem row_frozen {W : World} {b i : Nat} {cur : Array Value} {t : TypeId} (h : W.heap[b]? = some (.cells cur t (0, 0))) : W.frozen? ⟨b, i, none⟩ = false := by simp [World.frozen?, h]

theorem cells_new (W : World) (cs : List Value) (t : TypeId) : ∀ j u, cs[j]? = some u → (W.alloc (.cells cs.toArray t)).cell? ((⟨W.heap.size, 0, none⟩ : Addr).add j) = some u := fun j u h => by
  rw [show (⟨W.heap.size, 0, none⟩ : Addr).add j = ⟨W.heap.size, j, none⟩ by simp [Addr.add]; try omega, cell_of_row _ _ _ _ _ _ (World.alloc_heap_new W _)]
  simpa using h

end Go.Proofs.YtbdgniiafdjmiaaGreatDoor
/- lex.Scan, for any text. -/
namespace Go.Proofs.YtbdgniiafdjmiaaGreatDoor
open Go.RowKit Go.Shelf

attribute [local go_sem] Oper.semAt_some

end Go.Proofs.YtbdgniiafdjmiaaGreatDoor
/- lex: what Scan answers for the document's examples. -/
namespace Go.Proofs.YtbdgniiafdjmiaaGreatDoor
open Go.RowKit

/-- gapN, by its length. -/
def gapF : Nat → List UInt8 → Nat
  | 0, _ => 0
  | f + 1, l => if remB (l.drop (rowN blankN l)) = true then
      rowN blankN l + (rowN noEndN (l.drop (rowN blankN l)) + gapF f ((l.drop (rowN blankN l)).drop (rowN noEndN (l.drop (rowN blankN l)))))
    else rowN blankN l

theorem gapF_eq : ∀ (f : Nat) (l : List UInt8), l.length < f → gapN l = gapF f l
  | 0, l, h => by omega
  | f + 1, l, h => by
    rw [gapN, gapF]
    by_cases hr : remB (l.drop (rowN blankN l)) = true
    · rw [dif_pos hr, if_pos hr, gapF_eq f _ (by
        have := remB_row hr
        have h3 := rowN_le noEndN (l.drop (rowN blankN l))
        simp only [List.length_drop] at *
        omega)]
    · rw [dif_neg hr, if_neg hr]

theorem gapN_fun : gapN = fun l => gapF (l.length + 1) l := funext fun l => gapF_eq _ l (Nat.lt_succ_self _)

def nextG (g : List UInt8 → Nat) (l : List UInt8) (a : Nat) : TR := tokT (l.drop (a + g (l.drop a)))
def lineG (g : List UInt8 → Nat) (l : List UInt8) (line a : Nat) : Nat := line + Lib.countByte ((l.drop a).take (g (l.drop a))) 10
def placeG (g : List UInt8 → Nat) (l : List UInt8) (a : Nat) : Nat := a + g (l.drop a)
def tkG (g : List UInt8 → Nat) (l : List UInt8) (line a : Nat) : Tk := ⟨(nextG g l a).k, (nextG g l a).s, (nextG g l a).n, lineG g l line a, placeG g l a⟩
def scanG (g : List UInt8 → Nat) (l : List UInt8) : Nat → Nat → Nat → List Tk × Nat × Nat
  | 0, _, _ => ([], 0, 0)
  | f + 1, line, a =>
    if (nextG g l a).e ≠ 0 then ([], placeG g l a, (nextG g l a).e) else if (nextG g l a).k = 0 then ([tkG g l line a], 0, 0)
    else if (scanG g l f (lineG g l line a) (placeG g l a + (nextG g l a).sz)).2.2 ≠ 0 then ([], (scanG g l f (lineG g l line a) (placeG g l a + (nextG g l a).sz)).2.1, (scanG g l f (lineG g l line a) (placeG g l a + (nextG g l a).sz)).2.2)
    else (tkG g l line a :: (scanG g l f (lineG g l line a) (placeG g l a + (nextG g l a).sz)).1, 0, 0)

theorem scanS_G (l : List UInt8) : ∀ (f line a : Nat), scanS l f line a = scanG gapN l f line a
  | 0, _, _ => rfl
  | f + 1, line, a => by
    unfold scanS scanG
    rw [scanS_G l f]
    rfl

def scanC (l : List UInt8) : List Tk × Nat × Nat := scanG (fun l => gapF (l.length + 1) l) l (l.length + 1) 1 0
theorem scanB_C {l : List UInt8} (h : l.length ≤ 4096) : scanB l = scanC l := by
  unfold scanB scanC
  rw [if_neg (by omega), scanS_G, gapN_fun]

def exA : List UInt8 := [108, 101, 116, 32, 120, 49, 61, 97, 91, 48, 93, 59, 32, 47, 47, 32, 120]
def exB : List UInt8 := [34, 97, 92, 34, 98, 34]
def exC : List UInt8 := [97, 38, 98]
def exD : List UInt8 := [57, 50, 50, 51, 51, 55, 50, 48, 51, 54, 56, 53, 52, 55, 55, 53, 56, 48, 56]

set_option maxRecDepth 100000 in
theorem scan_exA : scanB exA = ([⟨5, [108, 101, 116], 0, 1, 0⟩, ⟨1, [120, 49], 0, 1, 4⟩, ⟨4, [61], 0, 1, 6⟩, ⟨1, [97], 0, 1, 7⟩, ⟨4, [91], 0, 1, 8⟩, ⟨2, [], 0, 1, 9⟩, ⟨4, [93], 0, 1, 10⟩, ⟨4, [59], 0, 1, 11⟩, ⟨0, [], 0, 1, 17⟩], 0, 0) := by
  rw [scanB_C (by decide)]
  kernel_rfl
set_option maxRecDepth 100000 in
theorem scan_exB : scanB exB = ([⟨3, [97, 34, 98], 0, 1, 0⟩, ⟨0, [], 0, 1, 6⟩], 0, 0) := by
  rw [scanB_C (by decide)]
  kernel_rfl
set_option maxRecDepth 100000 in
theorem scan_exC : scanB exC = ([], 1, 6) := by
  rw [scanB_C (by decide)]
  kernel_rfl
set_option maxRecDepth 100000 in
theorem scan_exD : scanB exD = ([], 0, 5) := by
  rw [scanB_C (by decide)]
  kernel_rfl
end Go.Proofs.YtbdgniiafdjmiaaGreatDoor
/- the laws' lives, layer 3. -/
namespace Go.Proofs.YtbdgniiafdjmiaaGreatDoor
open Go.RowKit Go.Shelf

theorem row_cells {w : World} {B e sz n : Nat} {v : Value} {xs : List Value} (h : w.ownsRow B e sz v n xs) (hn : 1 ≤ n) : ∃ g cap, v = .slice (some ⟨g, 0, none⟩) n cap ∧ B ≤ g ∧ g < w.heap.size ∧ n ≤ cap ∧ ∀ j u, xs[j]? = some u → w.cell? ⟨g, j, none⟩ = some u := by
  obtain ⟨-, ⟨-, h0⟩ | ⟨g, cap, cur, rfl, hg, hh, hc, -, -, hx⟩⟩ := h
  · omega
  · refine ⟨g, cap, rfl, hg, (Array.getElem?_eq_some_iff.1 hh).1, hc, fun j u hj => ?_⟩
    rw [cell_of_row _ _ _ _ _ _ hh]
    rw [← hx, List.getElem?_take] at hj
    split at hj
    · rw [Array.getElem?_toList] at hj; exact hj
    · cases hj

theorem below_cell {n : Nat} {w w' : World} (h : Below n w w') {g j : Nat} (hg : g < n) : w'.cell? ⟨g, j, none⟩ = w.cell? ⟨g, j, none⟩ := World.cell?_of_block (h.block g hg)

end Go.Proofs.YtbdgniiafdjmiaaGreatDoor
/- lex: how a byte, and a text, is written. -/
namespace Go.Proofs.YtbdgniiafdjmiaaGreatDoor
open Go.RowKit Go.Shelf

/-- A byte as it is written in a text. -/
def escB (c : UInt8) : List UInt8 := if c.toNat = 92 then [92, 92] else if c.toNat = 34 then [92, 34] else if c.toNat = 10 then [92, 110] else [c]
/-- A text as it is written. -/
def quoteB (s : List UInt8) : List UInt8 := 34 :: (s.flatMap escB ++ [34])

theorem esc_in {c : UInt8} {i : Nat} (hi : i < 3) (he : (escM[i]'hi) = c.toNat) : escB c = [92, (escW[i]'hi).toUInt8] := by
  have hc : i = 0 ∨ i = 1 ∨ i = 2 := by omega
  unfold escB
  rcases hc with rfl | rfl | rfl
  · rw [← he]; rfl
  · rw [← he]; rfl
  · rw [← he]; rfl
theorem esc_out {c : UInt8} (h : ∀ j (hj : j < 3), (escM[j]'hj) ≠ c.toNat) : escB c = [c] := by
  have h0 : 92 ≠ c.toNat := h 0 (by decide)
  have h1 : 34 ≠ c.toNat := h 1 (by decide)
  have h2 : 10 ≠ c.toNat := h 2 (by decide)
  unfold escB
  rw [if_neg (by omega), if_neg (by omega), if_neg (by omega)]
theorem esc_len (c : UInt8) : (escB c).length ≤ 2 := by
  unfold escB
  split
  · simp
  · split
    · simp
    · split <;> simp

theorem bytesAt_two {w : World} {g r q : Nat} (hr : r < 256) (hq : q < 256) (hc : w.cell? ⟨g, 0, none⟩ = some (.int .u8 (r : Int))) (hd : w.cell? ⟨g, 1, none⟩ = some (.int .u8 (q : Int))) : bytesAt w (.slice (some ⟨g, 0, none⟩) 2 2) [r.toUInt8, q.toUInt8] :=
  bytesAt_lit rfl (by unfold maxLen; decide) (fun j u hj => by
    match j, hj with
    | 0, hj => simp [Lib.byteCells, Lib.toUInt8_toNat hr] at hj; subst hj; exact hc
    | 1, hj => simp [Lib.byteCells, Lib.toUInt8_toNat hq] at hj; subst hj; exact hd)

set_option maxHeartbeats 2000000 in
set_option maxRecDepth 100000 in
theorem appTB_any (B : Nat) (v : Value) (us : List UInt8) (c : UInt8) (w : World) (hown : w.ownsRow B 5 1 v us.length (Lib.byteCells us)) (hB : B ≤ w.heap.size) (hl : us.length ≤ 1000000000) (ht : Tabs w) :
    Calls Tryz.prog 134 #[v, .int .u8 (c.toNat : Int)] w fun e w' => ∃ v', e = .returned v' ∧ w'.ownsRow B 5 1 v' (us ++ escB c).length (Lib.byteCells (us ++ escB c)) ∧
      Below B w w' ∧ ∀ k, k < w.heap.size → some k ≠ v.ownBlock → w'.heap[k]? = w.heap[k]? := by
  have e0 := ht.escs 0 (by decide)
  have e1 := ht.escs 1 (by decide)
  have e2 := ht.escs 2 (by decide)
  have e3 := ht.escs 3 (by decide)
  have e4 := ht.escs 4 (by decide)
  have e5 := ht.escs 5 (by decide)
  simp only [List.getElem_cons_zero, List.getElem_cons_succ] at e0 e1 e2 e3 e4 e5
  clear ht
  have HO : Hid (w.ownsRow B 5 1 v us.length (Lib.byteCells us)) := hown
  obtain ⟨n, hn⟩ : ∃ n, n = c.toNat := ⟨_, rfl⟩
  have hn256 : n < 256 := by rw [hn]; exact UInt8.toNat_lt c
  rw [← hn]
  have HN : Hid (n = c.toNat) := hn
  clear hown hn
  go_enter Tryz.func134, Tryz.ntmps134
  go_wp2
  clear e0 e1 e2 e3 e4 e5
  go_loopw [8] (fun x wr => ∃ i : Nat, i ≤ 3 ∧ x = .int .i64 i ∧ (∀ j (hj : j < 3), j < i → (escM[j]'hj) ≠ n) ∧ Below w.heap.size w wr) (fun x _ => 3 - (intOf x).toNat)
  case atStart => exact ⟨0, Nat.zero_le _, rfl, fun j _ h => by omega, Below.refl _ _⟩
  case round =>
    obtain ⟨i, hi, rfl, hall, hbw⟩ := hrel
    have HA : Hid (∀ j (hj : j < 3), j < i → (escM[j]'hj) ≠ n) := hall
    have HB : Hid (Below w.heap.size w wr) := hbw
    have hszw := hbw.size
    have HOW : Hid (wr.ownsRow B 5 1 v us.length (Lib.byteCells us)) := own_keptX HO.out hbw (Nat.le_refl _)
    clear hall hbw
    by_cases hlt : i < 3
    · have hidx := fun wx => idx_escs wx i hlt
      obtain ⟨a, ha⟩ : ∃ a, a = escM[i]'hlt := ⟨_, rfl⟩
      obtain ⟨b, hb⟩ : ∃ b, b = escW[i]'hlt := ⟨_, rfl⟩
      have hb256 : b < 256 := by
        have : ∀ j (hj : j < 3), (escW[j]'hj) < 256 := by decide
        rw [hb]; exact this i hlt
      rw [← ha, ← hb] at hidx
      by_cases he : a = n
      · have HE : Hid (escB c = [(92 : Nat).toUInt8, b.toUInt8]) := show _ = _ by rw [hb]; exact esc_in hlt (by rw [← ha, he, HN.out])
        subst he
        clear ha hb
        go_wp2_with (at_builtin; refine append_bytes rfl _ _ rfl B _ us rfl ((HOW.out.alloc _).alloc _) _ [(92 : Nat).toUInt8, b.toUInt8] rfl (bytesAt_two (by decide) hb256 (by simp) (by simp)) (by simp; omega) (by simp; omega) ?_; intro v3 w3 hown3 hgrow)
        have hbl : ∀ k, k < w.heap.size → some k ≠ v.ownBlock → w3.heap[k]? = w.heap[k]? := fun k hk hne => by
          rw [hgrow.block k (by simp; omega) hne, Below.heap_alloc _ _ _ (by simp; omega), Below.heap_alloc _ _ _ (by omega), HB.out.block k hk]
        have hB3 : Below B w w3 := (((HB.out.mono hB).alloc (by omega) _).alloc (by simp; omega) _).grown hgrow (by simp; omega) (fun q hq => (HO.out.lt q hq).1)
        go_ret
        refine ⟨v3, rfl, ?_, hB3, hbl⟩
        rw [HE.out]
        exact hown3
      · have hbe : ((a : Int) == (n : Int)) = false := by rw [beq_eq_false_iff_ne]; omega
        have HE : Hid ((escM[i]'hlt) ≠ n) := show (escM[i]'hlt) ≠ n by rw [← ha]; exact he
        clear ha hb he
        go_wp2
        refine ⟨⟨i + 1, by omega, by go_num, fun j hj hji => ?_, HB.out.alloc hszw _⟩, by simp [intOf]; omega⟩
        by_cases h : j < i
        · exact HA.out j hj h
        · obtain rfl : j = i := by omega
          exact HE.out
    · obtain rfl : i = 3 := by omega
      have HE : Hid (escB c = [n.toUInt8]) := show _ = _ by
        rw [esc_out (fun j hj => by rw [← HN.out]; exact HA.out j hj hj), HN.out]
        congr 1
        exact (UInt8.toNat_inj.1 (Lib.toUInt8_toNat (by rw [← HN.out]; exact hn256))).symm
      go_wp2_with (at_builtin; refine append_bytes rfl _ _ rfl B _ us rfl (HOW.out.alloc _) _ [n.toUInt8] rfl (bytesAt_one hn256 (by simp)) (by simp; omega) (by simp; omega) ?_; intro v3 w3 hown3 hgrow)
      have hbl : ∀ k, k < w.heap.size → some k ≠ v.ownBlock → w3.heap[k]? = w.heap[k]? := fun k hk hne => by
        rw [hgrow.block k (by simp; omega) hne, Below.heap_alloc _ _ _ (by omega), HB.out.block k hk]
      have hB3 : Below B w w3 := ((HB.out.mono hB).alloc (by omega) _).grown hgrow (by simp; omega) (fun q hq => (HO.out.lt q hq).1)
      go_ret
      refine ⟨v3, rfl, ?_, hB3, hbl⟩
      rw [HE.out]
      exact hown3

theorem own_fresh1 (w : World) (c : Nat) (hc : c < 256) : (w.alloc (.cells #[.int .u8 (c : Int)] 5)).ownsRow w.heap.size 5 1 (.slice (some ⟨w.heap.size, 0, none⟩) 1 1) [c.toUInt8].length (Lib.byteCells [c.toUInt8]) := by
  refine ⟨by simp [Lib.byteCells], .inr ⟨w.heap.size, 1, #[.int .u8 (c : Int)], rfl, Nat.le_refl _, World.alloc_heap_new w _, Nat.le_refl _, by unfold maxLen; decide, by simp, ?_⟩⟩
  simp [Lib.byteCells, Lib.toUInt8_toNat hc]

theorem flat_take (s : List UInt8) (i : Nat) (h : i < s.length) : (s.take (i + 1)).flatMap escB = (s.take i).flatMap escB ++ escB s[i] := by
  rw [List.take_succ_eq_append_getElem h, List.flatMap_append]
  simp

theorem flat_len (s : List UInt8) : (s.flatMap escB).length ≤ 2 * s.length := by
  induction s with
  | nil => simp
  | cons x s ih =>
    have := esc_len x
    rw [List.flatMap_cons, List.length_append, List.length_cons]
    omega

set_option maxHeartbeats 4000000 in
set_option maxRecDepth 100000 in
theorem quoted_any (s : List UInt8) (w : World) (hl : s.length ≤ 100000000) (ht : Tabs w) :
    Calls Tryz.prog 126 #[.string (strB s)] w fun e w' => e = .returned (.string (strB (quoteB s))) ∧ Below w.heap.size w w' := by
  have HT : Hid (Tabs w) := ht
  have hsz : (strB s).size = s.length := rfl
  obtain ⟨w1, hw1⟩ : ∃ w1, w1 = w.alloc (.cells #[.int .u8 ((34 : Nat) : Int)] 5) := ⟨_, rfl⟩
  have hz1 : w1.heap.size = w.heap.size + 1 := by rw [hw1]; simp
  have hb1 : Below w.heap.size w w1 := by rw [hw1]; exact (Below.refl _ w).alloc (Nat.le_refl _) _
  have ho1 : w1.ownsRow w.heap.size 5 1 (.slice (some ⟨w.heap.size, 0, none⟩) 1 1) [(34 : Nat).toUInt8].length (Lib.byteCells [(34 : Nat).toUInt8]) := by rw [hw1]; exact own_fresh1 w 34 (by decide)
  have hconv := fun (wx : World) => Lib.run_convert_string_bytes (P := Tryz.prog) wx 9 30 5 (strB s) Tryz.underlying9 Tryz.underlying30 Tryz.underlying5
  have hz2 : (Lib.bytesWorld w1 5 (strB s)).heap.size = w1.heap.size + 1 := Lib.bytesWorld_size w1 5 _
  have hb2 : Below w1.heap.size w1 (Lib.bytesWorld w1 5 (strB s)) := bytesWorld_below w1 5 _
  have hcl : ∀ j (h : j < s.length), (Lib.bytesWorld w1 5 (strB s)).cell? ⟨w1.heap.size, j, none⟩ = some (.int .u8 ((s[j]).toNat : Int)) := fun j h => by
    have h9 := Lib.bytesWorld_cell w1 5 (strB s) j h
    rw [h9]
    simp [List.getD_eq_getElem?_getD, List.getElem?_eq_getElem h]
  have hnw := Lib.bytesWorld_at_new w1 5 (strB s)
  have hfz : ∀ cur, (Lib.bytesWorld w1 5 (strB s)).heap[w1.heap.size]? ≠ some (.cells cur 5 (0, 0)) := fun cur h => by
    rw [hnw] at h
    simp at h
  have hgc := grownCap_ge w1 (strB s).size 0 5
  have hgm := grownCap_le_maxLen w1 (strB s).size 0 5 (by rw [strB_size]; unfold maxLen; omega)
  rw [strB_size] at hgc hgm
  unfold maxLen at hgm
  rw [hz1] at hz2 hcl hfz
  clear hnw ht
  go_enter Tryz.func126, Tryz.ntmps126
  go_wp2_with fail
  rw [show w.alloc (Obj.cells #[Value.int IntKind.u8 34] 5) = w1 from hw1.symm]
  generalize grownCap w1 s.length 0 5 = cp at *
  have HCL : Hid (∀ j (h : j < s.length), (Lib.bytesWorld w1 5 (strB s)).cell? ⟨w.heap.size + 1, j, none⟩ = some (.int .u8 ((s[j]).toNat : Int))) := hcl
  have HFZ : Hid (∀ cur, (Lib.bytesWorld w1 5 (strB s)).heap[w.heap.size + 1]? ≠ some (.cells cur 5 (0, 0))) := hfz
  have HB2 : Hid (Below w.heap.size w (Lib.bytesWorld w1 5 (strB s))) := hb1.trans (hb2.mono (by omega))
  have HO2 : Hid ((Lib.bytesWorld w1 5 (strB s)).ownsRow w.heap.size 5 1 (.slice (some ⟨w.heap.size, 0, none⟩) 1 1) [(34 : Nat).toUInt8].length (Lib.byteCells [(34 : Nat).toUInt8])) := own_keptX ho1 hb2 (Nat.le_refl _)
  have HZ2 : Hid ((Lib.bytesWorld w1 5 (strB s)).heap.size = w.heap.size + 2) := hz2
  clear hcl hfz hb1 hb2 ho1 hz2 hconv hw1 hz1
  generalize Lib.bytesWorld w1 5 (strB s) = w2 at *
  go_loopw [3, 10] (fun vb vi wr => ∃ i : Nat, i ≤ s.length ∧ vi = .int .i64 i ∧ wr.ownsRow w.heap.size 5 1 vb (34 :: (s.take i).flatMap escB).length (Lib.byteCells (34 :: (s.take i).flatMap escB)) ∧ Below w.heap.size w wr ∧ wr.heap[w.heap.size + 1]? = w2.heap[w.heap.size + 1]?) (fun _ vi _ => s.length - (intOf vi).toNat)
  case atStart => exact ⟨0, Nat.zero_le _, rfl, HO2.out, HB2.out, rfl⟩
  case round =>
    obtain ⟨i, hi, rfl, hown, hbw, hkp⟩ := hrel
    have hszw := hbw.size
    have HB : Hid (Below w.heap.size w wr) := hbw
    have HO : Hid (wr.ownsRow w.heap.size 5 1 u3 (34 :: (s.take i).flatMap escB).length (Lib.byteCells (34 :: (s.take i).flatMap escB))) := hown
    have HKP : Hid (wr.heap[w.heap.size + 1]? = w2.heap[w.heap.size + 1]?) := hkp
    have hfl : (34 :: (s.take i).flatMap escB).length ≤ 2 * s.length + 1 := by
      have h9 := flat_len (s.take i)
      rw [List.length_take] at h9
      rw [List.length_cons]
      omega
    clear hown hbw hkp
    by_cases hlt : i < s.length
    · have hc : wr.cell? ⟨w.heap.size + 1, i, none⟩ = some (.int .u8 ((s[i]).toNat : Int)) := by
        rw [World.cell?_of_block HKP.out]; exact HCL.out i hlt
      have hi2 : (i : Int) < s.length := by omega
      have ca := appTB_any w.heap.size u3 (34 :: (s.take i).flatMap escB) s[i] wr HO.out hszw (by omega) (HT.out.below HB.out (Nat.le_refl _))
      have HNX : Hid ((34 :: (s.take i).flatMap escB) ++ escB s[i] = 34 :: (s.take (i + 1)).flatMap escB) := by
        show _ = _
        rw [flat_take s i hlt]; rfl
      rw [HNX.out] at ca
      have HNB : Hid (some (w.heap.size + 1) ≠ u3.ownBlock) := fun e => by
        obtain ⟨-, ⟨hv, -⟩ | ⟨g, cap, cur, hv, -, hh, -⟩⟩ := HO.out
        · rw [hv] at e; simp [Value.ownBlock] at e
        · rw [hv] at e
          simp [Value.ownBlock] at e
          rw [← e, HKP.out] at hh
          exact HFZ.out _ hh
      have hz : w.heap.size + 1 < wr.heap.size := World.block_lt_of_cell? wr _ hc
      obtain ⟨n, hn⟩ : ∃ n, n = (s[i]).toNat := ⟨_, rfl⟩
      rw [← hn] at hc ca
      clear hn
      go_wp2_with fail
      refine ca.mono ?_
      clear ca
      rintro e w3 ⟨v3, rfl, ho3, hb3, hk3⟩
      have HO3 : Hid (w3.ownsRow w.heap.size 5 1 v3 (34 :: (s.take (i + 1)).flatMap escB).length (Lib.byteCells (34 :: (s.take (i + 1)).flatMap escB))) := ho3
      have HB3 : Hid (Below w.heap.size w w3) := HB.out.trans hb3
      have HK3 : Hid (w3.heap[w.heap.size + 1]? = w2.heap[w.heap.size + 1]?) := (hk3 _ hz HNB.out).trans HKP.out
      clear ho3 hb3 hk3
      go_wp2
      exact ⟨⟨i + 1, by omega, by go_num, HO3.out, HB3.out, HK3.out⟩, by simp [intOf]; omega⟩
    · obtain rfl : i = s.length := by omega
      have hi2 : ¬ (s.length : Int) < s.length := by omega
      have HQ : Hid (quoteB s = (34 :: (s.take s.length).flatMap escB) ++ [(34 : Nat).toUInt8]) := by
        show _ = _
        rw [List.take_length]; rfl
      obtain ⟨us, hus⟩ : ∃ us, us = 34 :: (s.take s.length).flatMap escB := ⟨_, rfl⟩
      rw [← hus] at HQ HO hfl
      clear hus
      go_wp2_with (at_builtin; refine append_bytes rfl _ _ rfl w.heap.size _ us rfl (HO.out.alloc _) _ [(34 : Nat).toUInt8] rfl (bytesAt_one (by decide) (by simp)) (by simp; omega) (by simp; omega) ?_; intro v3 w3 hown3 hgrow; obtain ⟨b3, cap3, rfl, hrow3, -, -, -⟩ := own_row hown3; have hcv := conv_row w3 b3 _ cap3 hrow3; rw [show (us ++ [(34 : Nat).toUInt8]).length = us.length + 1 by simp] at hcv ⊢)
      have HB3 : Hid (Below w.heap.size w w3) := (HB.out.alloc hszw _).grown hgrow (by simp; omega) (fun q hq => (HO.out.lt q hq).1)
      clear hrow3 hown3 hgrow
      go_ret
      rw [HQ.out]
      exact ⟨rfl, HB3.out⟩
end Go.Proofs.YtbdgniiafdjmiaaGreatDoor
/- lex: how a token is written. -/
namespace Go.Proofs.YtbdgniiafdjmiaaGreatDoor
open Go.RowKit Go.Shelf

/-- The tables, and that of Itoa. -/
def TabsP (w : World) : Prop := Tabs w ∧ Lib.TabIs Tryz.prog w "internal/strconv.uint64pow10" .u64 Lib.pow10Tab

theorem TabsP.below {w w' : World} {B : Nat} (h : TabsP w) (hb : Below B w w') (hB : w.heap.size ≤ B) : TabsP w' :=
  ⟨h.1.below hb hB, Lib.tabBelow_of_tabIs h.2 w' (hb.mono hB)⟩

/-- How a token is written, if it is one. -/
def wrB (k n : Int) (s : List UInt8) : List UInt8 := if k = 2 then Lib.itoa n else if k = 3 then quoteB s else s

set_option maxHeartbeats 4000000 in
set_option maxRecDepth 100000 in
theorem written_any (k n a b : Int) (s : List UInt8) (w : World) (hn0 : -9223372036854775808 ≤ n) (hn1 : n ≤ 9223372036854775807) (hl : s.length ≤ 100000000) (ht : TabsP w) :
    Calls Tryz.prog 121 #[.agg #[.int .i64 k, .string (strB s), .int .i64 n, .int .i64 a, .int .i64 b]] w fun e w' => e = .returned (.string (strB (wrB k n s))) ∧ Below w.heap.size w w' := by
  obtain ⟨w1, hw1⟩ : ∃ w1, w1 = w.alloc (.cells #[.int .i64 k, .string (strB s), .int .i64 n, .int .i64 a, .int .i64 b] 165) := ⟨_, rfl⟩
  have hb1 : Below w.heap.size w w1 := by rw [hw1]; exact (Below.refl _ w).alloc (Nat.le_refl _) _
  have HT : Hid (TabsP w1) := ht.below hb1 (Nat.le_refl _)
  have HB1 : Hid (Below w.heap.size w w1) := hb1
  have hz1 := hb1.size
  clear ht hb1
  by_cases h2 : k = 2
  · have HR : Hid (wrB k n s = Lib.itoa n) := if_pos h2
    have c1 := Tryz.strconv_Itoa n hn0 hn1 w1 HT.out.2
    rw [hw1] at c1
    subst h2
    go_enter Tryz.func121, Tryz.ntmps121
    go_wp2_with fail
    refine c1.mono ?_
    clear c1
    rintro e w2 ⟨rfl, q, os, hw2⟩
    have HB2 : Hid (Below w.heap.size w w2) := by
      show Below w.heap.size w w2
      rw [← hw1] at hw2
      rw [hw2]
      exact HB1.out.trans (Lib.below_grow w.heap.size w1 hz1 q os)
    clear hw2 hw1
    go_wp2
    go_ret
    rw [HR.out]
    exact ⟨rfl, HB2.out⟩
  · have h2b : (k == 2) = false := by rw [beq_eq_false_iff_ne]; exact h2
    by_cases h3 : k = 3
    · have HR : Hid (wrB k n s = quoteB s) := show _ = _ by unfold wrB; rw [if_neg h2, if_pos h3]
      have c1 := quoted_any s w1 hl HT.out.1
      rw [hw1] at c1
      subst h3
      go_enter Tryz.func121, Tryz.ntmps121
      go_wp2_with fail
      refine c1.mono ?_
      clear c1
      rintro e w2 ⟨rfl, hb2⟩
      have HB2 : Hid (Below w.heap.size w w2) := by
        show Below w.heap.size w w2
        rw [← hw1] at hb2
        exact HB1.out.trans (hb2.mono hz1)
      clear hb2 hw1
      go_wp2
      go_ret
      rw [HR.out]
      exact ⟨rfl, HB2.out⟩
    · have h3b : (k == 3) = false := by rw [beq_eq_false_iff_ne]; exact h3
      have HR : Hid (wrB k n s = s) := show _ = _ by unfold wrB; rw [if_neg h2, if_neg h3]
      have HB2 : Hid (Below w.heap.size w (w.alloc (.cells #[.int .i64 k, .string (strB s), .int .i64 n, .int .i64 a, .int .i64 b] 165))) := by rw [← hw1]; exact HB1.out
      clear hw1
      go_enter Tryz.func121, Tryz.ntmps121
      go_wp2
      go_ret
      rw [HR.out]
      exact ⟨rfl, HB2.out⟩

/-- Is a token read from what is written of it? -/
def backB (k n : Int) (s : List UInt8) : Prop := (tokT (wrB k n s)).e = 0 ∧ ((tokT (wrB k n s)).k : Int) = k ∧ (tokT (wrB k n s)).s = s ∧ ((tokT (wrB k n s)).n : Int) = n
instance (k n : Int) (s : List UInt8) : Decidable (backB k n s) := by unfold backB; infer_instance
/-- A token's text, or ErrArg. -/
def tkB (k n : Int) (s : List UInt8) : List UInt8 × Nat := if backB k n s then (wrB k n s, 0) else ([], 2)

theorem wrB_len (k n : Int) (s : List UInt8) (hn0 : -9223372036854775808 ≤ n) (hn1 : n ≤ 9223372036854775807) : (wrB k n s).length ≤ 2 * s.length + 30 := by
  have key : ∀ u : Nat, u ≤ 9223372036854775808 → (Lib.decDigits u).length ≤ 20 := fun u hu => by
    rw [Lib.decDigits_length]
    rcases Nat.lt_or_ge (Lib.nDigits u) 21 with h | h
    · omega
    · exfalso
      have h1 := Lib.nDigits_pos u
      have : ∀ (j u : Nat), j + 1 ≤ Lib.nDigits u → 10 ^ j ≤ u ∨ j = 0 := by
        intro j
        induction j with
        | zero => intro u _; exact .inr rfl
        | succ j ih =>
          intro u hj
          by_cases hu : u < 10
          · rw [Lib.nDigits_small hu] at hj; omega
          · rw [Lib.nDigits_big hu] at hj
            left
            rcases ih (u / 10) (by omega) with h9 | h9
            · rw [Nat.pow_succ]; omega
            · subst h9; omega
      rcases this 19 u (by omega) with h9 | h9
      · have : (10 : Nat) ^ 19 = 10000000000000000000 := by decide
        omega
      · omega
  unfold wrB
  split
  · unfold Lib.itoa
    split
    · have := key n.natAbs (by omega)
      rw [List.length_cons]
      omega
    · have := key n.toNat (by omega)
      omega
  · split
    · unfold quoteB
      have := flat_len s
      rw [List.length_cons, List.length_append, List.length_singleton]
      omega
    · omega

set_option maxHeartbeats 4000000 in
set_option maxRecDepth 100000 in
theorem lexText_any (k n a b : Int) (s : List UInt8) (w : World) (hn0 : -9223372036854775808 ≤ n) (hn1 : n ≤ 9223372036854775807) (hl : s.length ≤ 100000000) (ht : TabsP w) :
    Calls Tryz.prog 117 #[.agg #[.int .i64 k, .string (strB s), .int .i64 n, .int .i64 a, .int .i64 b]] w fun e w' => e = .returned (.tuple #[.string (strB (tkB k n s).1), .int .i64 (tkB k n s).2]) ∧ Below w.heap.size w w' := by
  obtain ⟨w1, hw1⟩ : ∃ w1, w1 = w.alloc (.cells #[.int .i64 k, .string (strB s), .int .i64 n, .int .i64 0, .int .i64 0] 165) := ⟨_, rfl⟩
  have hb1 : Below w.heap.size w w1 := by rw [hw1]; exact (Below.refl _ w).alloc (Nat.le_refl _) _
  have hz1 : w1.heap.size = w.heap.size + 1 := by rw [hw1]; simp
  have hblk : w1.heap[w.heap.size]? = some (.cells #[.int .i64 k, .string (strB s), .int .i64 n, .int .i64 0, .int .i64 0] 165 (0, 0)) := by rw [hw1]; exact World.alloc_heap_new w _
  have HT : Hid (TabsP w1) := ht.below hb1 (Nat.le_refl _)
  have HB1 : Hid (Below w.heap.size w w1) := hb1
  have c1 := written_any k n 0 0 s w1 hn0 hn1 hl HT.out
  have hwl := wrB_len k n s hn0 hn1
  have HTK : Hid (tkB k n s = if backB k n s then (wrB k n s, 0) else ([], 2)) := rfl
  have HBB : Hid (backB k n s ↔ (tokT (wrB k n s)).e = 0 ∧ ((tokT (wrB k n s)).k : Int) = k ∧ (tokT (wrB k n s)).s = s ∧ ((tokT (wrB k n s)).n : Int) = n) := Iff.rfl
  obtain ⟨x, hx⟩ : ∃ x, x = wrB k n s := ⟨_, rfl⟩
  rw [← hx] at c1 hwl HTK HBB
  obtain ⟨R, hR⟩ : ∃ R, R = tokT x := ⟨_, rfl⟩
  rw [← hR] at HBB
  have c2 := fun wx (h : Tabs wx) => token_any x wx (by omega) h
  rw [← hR] at c2
  unfold resV at c2
  have c3 := fun wx => clone_str x wx (by omega)
  clear ht hb1 hx hR
  rw [hw1] at c1
  go_enter Tryz.func117, Tryz.ntmps117
  go_wp2_with fail
  refine c1.mono ?_
  clear c1
  rw [← hw1]
  rintro e w2 ⟨rfl, hb2⟩
  have hT2 := HT.out.below hb2 (Nat.le_refl _)
  have hblk2 := (hb2.block w.heap.size (by omega)).trans hblk
  have HB2 : Hid (Below w.heap.size w w2) := HB1.out.trans (hb2.mono (by omega))
  have hz2 : w.heap.size + 1 ≤ w2.heap.size := by rw [← hz1]; exact hb2.size
  have c2' := c2 w2 hT2.1
  clear hb2 c2 hw1 hblk hT2
  go_wp2_with fail
  refine c2'.mono ?_
  clear c2'
  rintro e w3 ⟨rfl, hb3⟩
  have hblk3 := (hb3.block w.heap.size (by omega)).trans hblk2
  have HB3 : Hid (Below w.heap.size w w3) := HB2.out.trans (hb3.mono (by omega))
  have hz3 : w.heap.size + 1 ≤ w3.heap.size := Nat.le_trans hz2 hb3.size
  have q0 : ∀ o, (w3.alloc o).cell? ⟨w.heap.size, 0, none⟩ = some (.int .i64 k) := fun o => Lib.cell?_alloc_some o (by rw [cell_of_row _ _ _ _ _ _ hblk3]; rfl)
  have q1 : ∀ o, (w3.alloc o).cell? ⟨w.heap.size, 1, none⟩ = some (.string (strB s)) := fun o => Lib.cell?_alloc_some o (by rw [cell_of_row _ _ _ _ _ _ hblk3]; rfl)
  have q2 : ∀ o, (w3.alloc o).cell? ⟨w.heap.size, 2, none⟩ = some (.int .i64 n) := fun o => Lib.cell?_alloc_some o (by rw [cell_of_row _ _ _ _ _ _ hblk3]; rfl)
  have q3 : ∀ o, (w3.alloc o).cell? ⟨w.heap.size, 3, none⟩ = some (.int .i64 0) := fun o => Lib.cell?_alloc_some o (by rw [cell_of_row _ _ _ _ _ _ hblk3]; rfl)
  have q4 : ∀ o, (w3.alloc o).cell? ⟨w.heap.size, 4, none⟩ = some (.int .i64 0) := fun o => Lib.cell?_alloc_some o (by rw [cell_of_row _ _ _ _ _ _ hblk3]; rfl)
  clear hb3 hblk2 hblk3
  by_cases he : R.e = 0
  · rw [he]
    by_cases hk : (R.k : Int) = k
    · by_cases hs : R.s = s
      · by_cases hn : (R.n : Int) = n
        · have HTT : Hid (tkB k n s = (x, 0)) := HTK.out.trans (if_pos (HBB.out.2 ⟨he, hk, hs, hn⟩))
          rw [hk, hs, hn]
          have c3' := c3 (w3.alloc (.cells #[.int .i64 k, .string (strB s), .int .i64 n, .int .i64 0, .int .i64 0] 165))
          go_wp2_with fail
          refine c3'.mono ?_
          clear c3' c3
          rintro e w4 ⟨rfl, hb4⟩
          have HB4 : Hid (Below w.heap.size w w4) := (HB3.out.alloc (by omega) _).trans (hb4.mono (by simp; omega))
          clear hb4
          go_wp2
          go_ret2
          rw [HTT.out]
          exact ⟨rfl, HB4.out⟩
        · have HTT : Hid (tkB k n s = ([], 2)) := HTK.out.trans (if_neg (fun h => hn (HBB.out.1 h).2.2.2))
          have hnb : ((R.n : Int) == n) = false := by rw [beq_eq_false_iff_ne]; exact hn
          rw [hk, hs]
          clear c3
          go_wp2
          go_ret2
          rw [HTT.out]
          exact ⟨rfl, HB3.out.alloc (by omega) _⟩
      · have HTT : Hid (tkB k n s = ([], 2)) := HTK.out.trans (if_neg (fun h => hs (HBB.out.1 h).2.2.1))
        have hsb : (R.s == s) = false := by rw [beqL]; exact decide_eq_false hs
        rw [hk]
        clear c3
        go_wp2
        go_ret2
        rw [HTT.out]
        exact ⟨rfl, HB3.out.alloc (by omega) _⟩
    · have HTT : Hid (tkB k n s = ([], 2)) := HTK.out.trans (if_neg (fun h => hk (HBB.out.1 h).2.1))
      have hkb : ((R.k : Int) == k) = false := by rw [beq_eq_false_iff_ne]; exact hk
      clear c3
      go_wp2
      go_ret2
      rw [HTT.out]
      exact ⟨rfl, HB3.out.alloc (by omega) _⟩
  · have HTT : Hid (tkB k n s = ([], 2)) := HTK.out.trans (if_neg (fun h => he (HBB.out.1 h).1))
    have heb : ((R.e : Int) != 0) = true := by rw [bne_iff_ne]; omega
    clear c3
    go_wp2
    go_ret2
    rw [HTT.out]
    exact ⟨rfl, HB3.out.alloc (by omega) _⟩
end Go.Proofs.YtbdgniiafdjmiaaGreatDoor
