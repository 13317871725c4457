/- The document's own functions of layer 3: numbers. -/
import Derived.Test.YtjhfkiighphepaaDoorXRef2
namespace Go.Proofs.YtjhfkiighphepaaDoor
open Go.RowKit Go.Shelf

theorem valA_snoc (c : UInt8) : ∀ (l : List UInt8) (a : Nat), valA a (l ++ [c]) = valA a l * 10 + (c.toNat - 48)
  | [], _ => rfl
  | x :: l, a => valA_snoc c l (a * 10 + (x.toNat - 48))

theorem valA_split (a b : List UInt8) : ∀ acc, valA acc (a ++ b) = valA (valA acc a) b := by
  induction a with
  | nil => intro acc; rfl
  | cons x a ih => intro acc; exact ih _

theorem valA_take_le (l : List UInt8) (i : Nat) : valA 0 (l.take i) ≤ valA 0 l := by
  have h := valA_split (l.take i) (l.drop i) 0
  rw [List.take_append_drop] at h
  rw [h]
  exact valA_ge _ _

/-- A number that is not too great; else -1. -/
def numV (l : List UInt8) : Int := if valA 0 l < 9223372036854775808 then ((valA 0 l : Nat) : Int) else -1

set_option maxRecDepth 100000 in
set_option maxHeartbeats 2000000 in
theorem refNumber_any (l : List UInt8) (w : World) (hl : l.length ≤ 5000) (hd : ∀ c ∈ l, digitN c.toNat = true) :
    Calls Tryd.prog 33 #[.string (strB l)] w fun e w' => e = .returned (.int .i64 (numV l)) ∧ w = w' := by
  have hs0 : (strB l).size = l.length := rfl
  go_enter Tryd.func33, Tryd.ntmps33
  go_wp2
  go_loop [3, 4] (fun vn vi => ∃ i : Nat, i ≤ l.length ∧ vn = .int .i64 (valA 0 (l.take i) : Nat) ∧ vi = .int .i64 i ∧ valA 0 (l.take i) < 9223372036854775808) (fun _ vi => l.length - (intOf vi).toNat)
  case atStart => exact ⟨0, Nat.zero_le _, rfl, rfl, by rw [List.take_zero]; decide⟩
  case round =>
    obtain ⟨i, hi, rfl, rfl, hlt63⟩ := hrel
    by_cases hlt : i < l.length
    · have hidx := fun wx => str_at wx l i hlt
      have hdc := hd l[i] (List.getElem_mem hlt)
      have hsn := valA_snoc l[i] (l.take i) 0
      rw [← List.take_succ_eq_append_getElem hlt] at hsn
      have htk := valA_take_le l (i + 1)
      obtain ⟨c, hc⟩ : ∃ c, c = (l[i]).toNat := ⟨_, rfl⟩
      rw [← hc] at hidx hdc hsn
      unfold digitN at hdc
      rw [Bool.and_eq_true, decide_eq_true_eq, decide_eq_true_eq] at hdc
      obtain ⟨d, rfl⟩ : ∃ d, c = d + 48 := ⟨c - 48, by omega⟩
      rw [Nat.add_sub_cancel] at hsn
      have hd9 : d ≤ 9 := by omega
      obtain ⟨N, hN⟩ : ∃ N, N = valA 0 (l.take i) := ⟨_, rfl⟩
      rw [← hN] at hsn hlt63 ⊢
      have HN : Hid (N = valA 0 (l.take i)) := hN
      have HSN : Hid (valA 0 (l.take (i + 1)) = N * 10 + d) := hsn
      have HTK : Hid (valA 0 (l.take (i + 1)) ≤ valA 0 l) := htk
      have hx1 : ((d + 48 : Nat) : Int) = (d : Int) + 48 := by omega
      simp only [hx1] at hidx
      clear hN hsn htk hd hdc
      by_cases h63 : N * 10 + d < 9223372036854775808
      · have hq : ((9223372036854775807 - (d : Int)).tdiv 10 < (N : Int)) = False := by
          rw [Int.tdiv_eq_ediv_of_nonneg (by omega)]; simp; omega
        go_wp2
        refine ⟨⟨i + 1, by omega, ?_, by go_num, by rw [HSN.out]; exact h63⟩, ?_⟩
        · rw [HSN.out]
          congr 1
          omega
        · simp [intOf]; omega
      · have HV : Hid (numV l = -1) := if_neg (by have := HTK.out; rw [HSN.out] at this; omega)
        have hq : ((9223372036854775807 - (d : Int)).tdiv 10 < (N : Int)) = True := by
          rw [Int.tdiv_eq_ediv_of_nonneg (by omega)]; simp; omega
        go_wp2
        go_ret
        rw [HV.out]
        exact ⟨rfl, rfl⟩
    · obtain rfl : i = l.length := by omega
      rw [List.take_length] at hlt63 ⊢
      have HV : Hid (numV l = ((valA 0 l : Nat) : Int)) := if_pos hlt63
      clear hd
      go_wp2
      go_ret
      rw [HV.out]
      exact ⟨rfl, rfl⟩
end Go.Proofs.YtjhfkiighphepaaDoor
