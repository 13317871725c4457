/- lex: the tables; Word. -/
import Derived.Test.YtchpmnmngeebjaaGreatDoorXRow
import Derived.Test.YtchpmnmngeebjaaGreatDoorShelf
namespace Go.Proofs.YtchpmnmngeebjaaGreatDoor
open Go.RowKit

def wordsL : List (List UInt8) := [[102, 110], [114, 101, 99, 111, 114, 100], [108, 101, 116], [105, 102], [101, 108, 115, 101], [119, 104, 105, 108, 101], [114, 101, 116, 117, 114, 110], [110, 101, 119], [116, 114, 117, 101], [102, 97, 108, 115, 101]]
def signsL : List (List UInt8) := [[40], [41], [123], [125], [91], [93], [44], [58], [59], [46], [61], [61, 61], [33, 61], [60], [60, 61], [62], [62, 61], [43], [45], [42], [47], [37], [33], [38, 38], [124, 124]]

/-- What the program's tables hold. -/
structure Tabs (w : World) : Prop where
  words : ∀ j (h : j < wordsL.length), w.cell? ⟨3, j, none⟩ = some (.string (strB wordsL[j]))
  signs : ∀ j (h : j < signsL.length), w.cell? ⟨0, j, none⟩ = some (.string (strB signsL[j]))
  escs : ∀ j (h : j < 6), w.cell? ⟨2, j, none⟩ = some (.int .u8 ([92, 92, 34, 34, 10, 110][j] : Nat))
  range : ∃ te pe, w.cell? ⟨7, 0, none⟩ = some (.iface te pe)

def isWord (l : List UInt8) : Bool := wordsL.contains l

set_option maxRecDepth 100000 in
theorem idx_words (w : World) (i : Nat) (h : i < 10) : (Instr.index 138 (.agg #[.string (strB wordsL[0]), .string (strB wordsL[1]), .string (strB wordsL[2]), .string (strB wordsL[3]), .string (strB wordsL[4]), .string (strB wordsL[5]), .string (strB wordsL[6]), .string (strB wordsL[7]), .string (strB wordsL[8]), .string (strB wordsL[9])]) (.int .i64 (i : Int))).run Tryz.prog w = .ok (.string (strB (wordsL[i]'h))) w := by
  have hc : i = 0 ∨ i = 1 ∨ i = 2 ∨ i = 3 ∨ i = 4 ∨ i = 5 ∨ i = 6 ∨ i = 7 ∨ i = 8 ∨ i = 9 := by omega
  rcases hc with rfl | rfl | rfl | rfl | rfl | rfl | rfl | rfl | rfl | rfl
  all_goals rfl

set_option maxRecDepth 100000 in
theorem idx_signs (w : World) (i : Nat) (h : i < 25) : (Instr.index 126 (.agg #[.string (strB signsL[0]), .string (strB signsL[1]), .string (strB signsL[2]), .string (strB signsL[3]), .string (strB signsL[4]), .string (strB signsL[5]), .string (strB signsL[6]), .string (strB signsL[7]), .string (strB signsL[8]), .string (strB signsL[9]), .string (strB signsL[10]), .string (strB signsL[11]), .string (strB signsL[12]), .string (strB signsL[13]), .string (strB signsL[14]), .string (strB signsL[15]), .string (strB signsL[16]), .string (strB signsL[17]), .string (strB signsL[18]), .string (strB signsL[19]), .string (strB signsL[20]), .string (strB signsL[21]), .string (strB signsL[22]), .string (strB signsL[23]), .string (strB signsL[24])]) (.int .i64 (i : Int))).run Tryz.prog w = .ok (.string (strB (signsL[i]'h))) w := by
  have hc : i = 0 ∨ i = 1 ∨ i = 2 ∨ i = 3 ∨ i = 4 ∨ i = 5 ∨ i = 6 ∨ i = 7 ∨ i = 8 ∨ i = 9 ∨ i = 10 ∨ i = 11 ∨ i = 12 ∨ i = 13 ∨ i = 14 ∨ i = 15 ∨ i = 16 ∨ i = 17 ∨ i = 18 ∨ i = 19 ∨ i = 20 ∨ i = 21 ∨ i = 22 ∨ i = 23 ∨ i = 24 := by omega
  rcases hc with rfl | rfl | rfl | rfl | rfl | rfl | rfl | rfl | rfl | rfl | rfl | rfl | rfl | rfl | rfl | rfl | rfl | rfl | rfl | rfl | rfl | rfl | rfl | rfl | rfl
  all_goals rfl

theorem beqL {a b : List UInt8} : (a == b) = decide (a = b) := by by_cases h : a = b <;> simp [h]

theorem word_in {l : List UInt8} {i : Nat} (h : i < wordsL.length) (he : wordsL[i] = l) : isWord l = true := by
  unfold isWord; rw [List.contains_iff_mem]; rw [← he]; exact List.getElem_mem h
theorem word_not {l : List UInt8} (h : ∀ j (h : j < wordsL.length), wordsL[j] ≠ l) : isWord l = false := by
  unfold isWord
  rw [Bool.eq_false_iff]
  intro hc
  rw [List.contains_iff_mem] at hc
  obtain ⟨j, hj, he⟩ := List.getElem_of_mem hc
  exact h j hj he

set_option maxHeartbeats 1000000 in
set_option maxRecDepth 100000 in
theorem word_any (l : List UInt8) (w : World) (ht : Tabs w) :
    Calls Tryz.prog 88 #[.string (strB l)] w fun e w' => e = .returned (.bool (isWord l)) ∧ w = w' := by
  have h0 := ht.words 0 (by decide)
  have h1 := ht.words 1 (by decide)
  have h2 := ht.words 2 (by decide)
  have h3 := ht.words 3 (by decide)
  have h4 := ht.words 4 (by decide)
  have h5 := ht.words 5 (by decide)
  have h6 := ht.words 6 (by decide)
  have h7 := ht.words 7 (by decide)
  have h8 := ht.words 8 (by decide)
  have h9 := ht.words 9 (by decide)
  clear ht
  go_enter Tryz.func88, Tryz.ntmps88
  go_wp2
  clear h0 h1 h2 h3 h4 h5 h6 h7 h8 h9
  go_loop [6] (fun v => ∃ i : Nat, i ≤ 10 ∧ v = .int .i64 i ∧ ∀ j (h : j < wordsL.length), j < i → wordsL[j] ≠ l) (fun v => 10 - (intOf v).toNat)
  case atStart => exact ⟨0, Nat.zero_le _, rfl, fun j h hj => by omega⟩
  case round =>
    obtain ⟨i, hi, rfl, hall⟩ := hrel
    have HA : Hid (∀ j (h : j < wordsL.length), j < i → wordsL[j] ≠ l) := hall
    clear hall
    by_cases hlt : i < 10
    · have hidx := fun wx => idx_words wx i hlt
      obtain ⟨x, hx⟩ : ∃ x, x = wordsL[i]'hlt := ⟨_, rfl⟩
      rw [← hx] at hidx
      have HX : Hid (x = wordsL[i]'hlt) := hx
      clear hx
      by_cases he : x = l
      · subst he
        have HW : Hid (isWord x = true) := word_in (i := i) hlt HX.out.symm
        go_wp2
        go_ret
        rw [HW.out]
        exact ⟨rfl, rfl⟩
      · have HE : Hid (x ≠ l) := he
        have hb : (x == l) = false := by rw [beqL]; exact decide_eq_false he
        clear he
        go_wp2
        refine ⟨⟨i + 1, by omega, by go_num, fun j h hj => ?_⟩, by simp [intOf]; omega⟩
        by_cases hji : j < i
        · exact HA.out j h hji
        · obtain rfl : j = i := by omega
          intro he; exact HE.out (HX.out.trans he)
    · obtain rfl : i = 10 := by omega
      have HW : Hid (isWord l = false) := word_not (fun j h => HA.out j h h)
      go_wp2
      go_ret
      rw [HW.out]
      exact ⟨rfl, rfl⟩
end Go.Proofs.YtchpmnmngeebjaaGreatDoor
