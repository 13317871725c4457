/- The document's own functions of layer 3: a text in a list; a word. -/
import Derived.Test.YtjhfkiighphepaaDoorLXBlanks
namespace Go.Proofs.YtjhfkiighphepaaDoor
open Go.RowKit Go.Shelf

/-- Is a text one of a list's? -/
def inL (xs : List (List UInt8)) (l : List UInt8) : Bool := xs.contains l

set_option maxRecDepth 100000 in
set_option maxHeartbeats 2000000 in
theorem refIn_any (xs : List (List UInt8)) (l : List UInt8) (g cap : Nat) (w : World) (hx : xs.length ≤ 1000) (hc : ∀ j (h : j < xs.length), w.cell? ⟨g, j, none⟩ = some (.string (strB xs[j]))) :
    Calls Tryd.prog 21 #[.slice (some ⟨g, 0, none⟩) xs.length cap, .string (strB l)] w fun e w' => e = .returned (.bool (inL xs l)) ∧ w = w' := by
  have HC : Hid (∀ j (h : j < xs.length), w.cell? ⟨g, j, none⟩ = some (.string (strB xs[j]))) := hc
  clear hc
  go_enter Tryd.func21, Tryd.ntmps21
  go_wp2
  go_loop [5] (fun v => ∃ i : Nat, i ≤ xs.length ∧ v = .int .i64 i ∧ ∀ x ∈ xs.take i, x ≠ l) (fun v => xs.length - (intOf v).toNat)
  case atStart => exact ⟨0, Nat.zero_le _, rfl, fun x hx => by simp at hx⟩
  case round =>
    obtain ⟨i, hi, rfl, hall⟩ := hrel
    have HA : Hid (∀ x ∈ xs.take i, x ≠ l) := hall
    clear hall
    by_cases hlt : i < xs.length
    · have hcell := HC.out i hlt
      obtain ⟨x, hx⟩ : ∃ x, x = xs[i]'hlt := ⟨_, rfl⟩
      rw [← hx] at hcell
      have HX : Hid (x = xs[i]'hlt) := hx
      clear hx
      by_cases he : x = l
      · subst he
        have HW : Hid (inL xs x = true) := show xs.contains x = true by rw [List.contains_iff_mem, HX.out]; exact List.getElem_mem hlt
        go_wp2
        go_ret
        rw [HW.out]
        exact ⟨rfl, rfl⟩
      · have HE : Hid (x ≠ l) := he
        have hb : (x == l) = false := by rw [beqL]; exact decide_eq_false he
        clear he
        go_wp2
        refine ⟨⟨i + 1, by omega, by go_num, fun y hy => ?_⟩, ?_⟩
        · rw [List.take_succ_eq_append_getElem hlt] at hy
          rcases List.mem_append.1 hy with h | h
          · exact HA.out y h
          · rw [List.mem_singleton] at h; rw [h, ← HX.out]; exact HE.out
        · simp [intOf]; omega
    · obtain rfl : i = xs.length := by omega
      have HW : Hid (inL xs l = false) := show xs.contains l = false by
        rw [Bool.eq_false_iff, ne_eq, List.contains_iff_mem]
        intro h
        exact HA.out l (by rw [List.take_length]; exact h) rfl
      go_wp2
      go_ret
      rw [HW.out]
      exact ⟨rfl, rfl⟩

set_option maxRecDepth 100000 in
set_option maxHeartbeats 2000000 in
theorem refWords_any (w : World) :
    Calls Tryd.prog 26 #[] w fun e w' => e = .returned (.slice (some ⟨w.heap.size, 0, none⟩) 10 10) ∧ w' = w.alloc (.cells (wordsL.map fun x => Value.string (strB x)).toArray 9) := by
  go_enter Tryd.func26, Tryd.ntmps26
  go_wp2
  go_ret
  exact ⟨rfl, rfl⟩

set_option maxRecDepth 100000 in
set_option maxHeartbeats 2000000 in
theorem refWord_any (l : List UInt8) (w : World) :
    Calls Tryd.prog 14 #[.string (strB l)] w fun e w' => e = .returned (.bool (isWord l)) ∧ Below w.heap.size w w' := by
  have hB : Below w.heap.size w (w.alloc (.cells (wordsL.map fun x => Value.string (strB x)).toArray 9)) := (Below.refl _ w).alloc (Nat.le_refl _) _
  have HI : Hid (Calls Tryd.prog 21 #[.slice (some ⟨w.heap.size, 0, none⟩) 10 10, .string (strB l)] (w.alloc (.cells (wordsL.map fun x => Value.string (strB x)).toArray 9)) fun e w' => e = .returned (.bool (inL wordsL l)) ∧ (w.alloc (.cells (wordsL.map fun x => Value.string (strB x)).toArray 9)) = w') :=
    refIn_any wordsL l w.heap.size 10 _ (by decide) (fun j h => by
      rw [cell_of_row _ _ _ _ _ _ (World.alloc_heap_new w _)]
      simp [h])
  have HB : Hid (Below w.heap.size w (w.alloc (.cells (wordsL.map fun x => Value.string (strB x)).toArray 9))) := hB
  clear hB
  go_enter Tryd.func14, Tryd.ntmps14
  go_wp2_with fail
  refine (refWords_any w).mono ?_
  rintro e w1 ⟨rfl, rfl⟩
  go_wp2_with fail
  refine HI.out.mono ?_
  rintro e w2 ⟨rfl, rfl⟩
  go_wp2
  go_ret
  exact ⟨rfl, HB.out⟩
end Go.Proofs.YtjhfkiighphepaaDoor
