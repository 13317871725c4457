/- lex: what stands ahead of a token. -/
import Derived.Test.YtjhfkiighphepaaDoorXWord
namespace Go.Proofs.YtjhfkiighphepaaDoor
open Go.RowKit

/-- How many of the first bytes are such ones. -/
def rowN (p : Nat → Bool) (l : List UInt8) : Nat := (l.takeWhile fun c => p c.toNat).length
theorem rowN_le (p : Nat → Bool) (l : List UInt8) : rowN p l ≤ l.length := by
  unfold rowN
  exact (List.takeWhile_sublist _).length_le
/-- Do two slashes stand here? -/
def remB (l : List UInt8) : Bool := Lib.hasPrefix l [47, 47]
theorem remB_form {l : List UInt8} (h : remB l = true) : ∃ t, l = 47 :: 47 :: t := by
  unfold remB Lib.hasPrefix at h
  match l, h with
  | [], h => simp at h
  | [a], h => simp at h
  | a :: b :: t, h => simp at h; exact ⟨t, by rw [← h.1, ← h.2]⟩
theorem remB_row {l : List UInt8} (h : remB l = true) : 2 ≤ rowN noEndN l := by
  obtain ⟨t, rfl⟩ := remB_form h
  unfold rowN
  rw [List.takeWhile_cons_of_pos (by decide), List.takeWhile_cons_of_pos (by decide)]
  simp

/-- How many bytes stand ahead of the first token. -/
def gapN (l : List UInt8) : Nat :=
  if _h : remB (l.drop (rowN blankN l)) = true then
    rowN blankN l + (rowN noEndN (l.drop (rowN blankN l)) + gapN ((l.drop (rowN blankN l)).drop (rowN noEndN (l.drop (rowN blankN l)))))
  else rowN blankN l
termination_by l.length
decreasing_by
  have := remB_row ‹_›
  have h3 := rowN_le noEndN (l.drop (rowN blankN l))
  simp only [List.length_drop] at *
  omega

/-- Behind the blanks. -/
def remN (r : List UInt8) : Nat := if remB r = true then rowN noEndN r + gapN (r.drop (rowN noEndN r)) else 0

theorem gapN_eq (l : List UInt8) : gapN l = rowN blankN l + remN (l.drop (rowN blankN l)) := by
  rw [gapN]
  unfold remN
  by_cases h : remB (l.drop (rowN blankN l)) = true
  · rw [dif_pos h, if_pos h]
  · rw [dif_neg h, if_neg h]; rfl

theorem gapN_le : ∀ (n : Nat) (l : List UInt8), l.length ≤ n → gapN l ≤ l.length
  | n, l, hn => by
    rw [gapN]
    have h1 := rowN_le blankN l
    by_cases h : remB (l.drop (rowN blankN l)) = true
    · rw [dif_pos h]
      have h2 := remB_row h
      have h3 := rowN_le noEndN (l.drop (rowN blankN l))
      rw [List.length_drop] at h3
      have h4 := gapN_le (n - 1) ((l.drop (rowN blankN l)).drop (rowN noEndN (l.drop (rowN blankN l)))) (by simp only [List.length_drop]; omega)
      simp only [List.length_drop] at h4
      omega
    · rw [dif_neg h]; exact h1
termination_by _ l => l.length
decreasing_by
  have := remB_row ‹_›
  have h3 := rowN_le noEndN (l.drop (rowN blankN l))
  simp only [List.length_drop] at *
  omega

set_option maxHeartbeats 2000000 in
set_option maxRecDepth 100000 in
theorem gap_any (l : List UInt8) (w : World) (hl : l.length ≤ 9223372036854775000) :
    Calls Tryd.prog 28 #[.string (strB l)] w fun e w' => e = .returned (.int .i64 (gapN l)) ∧ w = w' := by
  obtain ⟨G, hG⟩ : ∃ G, G = gapN l := ⟨_, rfl⟩
  have hGl : G ≤ l.length := by rw [hG]; exact gapN_le _ l (Nat.le_refl _)
  have hk0 := rowN_le blankN l
  have HS : Hid (G = rowN blankN l + remN (l.drop (rowN blankN l))) := show G = _ by rw [hG]; exact gapN_eq l
  have HSL : Hid (∀ a, a ≤ l.length → ∀ wx, (Instr.slice 9 (.string (strB l)) (some (.int .i64 (a : Int))) none none).run Tryd.prog wx = .ok (.string (strB (l.drop a))) wx) := fun a h wx => str_from wx l a h
  rw [← hG]
  clear hG
  go_enter Tryd.func28, Tryd.ntmps28
  go_wp2_with fail
  have c0 := row_blank l w hl
  rw [show (l.takeWhile fun c => blankN c.toNat).length = rowN blankN l from rfl] at c0
  refine c0.mono ?_
  clear c0
  rintro e w1 ⟨rfl, rfl⟩
  go_wp2_with fail
  go_loop [3] (fun v => ∃ a : Nat, a ≤ l.length ∧ v = .int .i64 a ∧ G = a + remN (l.drop a)) (fun v => l.length - (intOf v).toNat)
  case atStart => exact ⟨_, hk0, rfl, HS.out⟩
  case round =>
    obtain ⟨a, ha, rfl, hga⟩ := hrel
    have HGA : Hid (G = a + remN (l.drop a)) := hga
    have hs1 := HSL.out a ha
    clear hga
    have cp := Tryd.strings_HasPrefix (strB (l.drop a)) ⟨#[47, 47]⟩ w
    rw [show Lib.hasPrefix (strB (l.drop a)).data.toList (⟨#[47, 47]⟩ : ByteArray).data.toList = remB (l.drop a) from rfl] at cp
    go_wp2_with fail
    refine cp.mono ?_
    clear cp
    rintro e w1 ⟨rfl, rfl⟩
    cases hr : remB (l.drop a) with
    | false =>
      have hg2 : G = a := by rw [HGA.out]; unfold remN; rw [hr]; rfl
      subst hg2
      go_wp2
      go_ret
      exact ⟨rfl, rfl⟩
    | true =>
      have h2 := remB_row hr
      have h3 := rowN_le noEndN (l.drop a)
      rw [List.length_drop] at h3
      obtain ⟨m, hm⟩ : ∃ m, m = rowN noEndN (l.drop a) := ⟨_, rfl⟩
      rw [← hm] at h2 h3
      have c1 := row_noEnd (l.drop a) w1 (by rw [List.length_drop]; omega)
      rw [show ((l.drop a).takeWhile fun c => noEndN c.toNat).length = rowN noEndN (l.drop a) from rfl, ← hm] at c1
      have hs2 := HSL.out (a + m) (by omega)
      rw [Int.natCast_add] at hs2
      obtain ⟨b, hb⟩ : ∃ b, b = rowN blankN (l.drop (a + m)) := ⟨_, rfl⟩
      have h4 := rowN_le blankN (l.drop (a + m))
      rw [← hb, List.length_drop] at h4
      have c2 := row_blank (l.drop (a + m)) w1 (by rw [List.length_drop]; omega)
      rw [show ((l.drop (a + m)).takeWhile fun c => blankN c.toNat).length = rowN blankN (l.drop (a + m)) from rfl, ← hb] at c2
      have HN : Hid (G = a + m + b + remN (l.drop (a + m + b))) := show G = a + m + b + remN (l.drop (a + m + b)) by
        rw [HGA.out]
        have e1 : remN (l.drop a) = m + gapN ((l.drop a).drop m) := by unfold remN; rw [if_pos hr, ← hm]
        rw [e1, List.drop_drop, gapN_eq, ← hb, List.drop_drop]
        omega
      clear hm hb
      go_wp2_with fail
      refine c1.mono ?_
      clear c1
      rintro e w2 ⟨rfl, rfl⟩
      go_wp2_with fail
      refine c2.mono ?_
      clear c2
      rintro e w2 ⟨rfl, rfl⟩
      go_wp2
      refine ⟨⟨a + m + b, by omega, by go_num, HN.out⟩, by simp [intOf]; omega⟩
end Go.Proofs.YtjhfkiighphepaaDoor
