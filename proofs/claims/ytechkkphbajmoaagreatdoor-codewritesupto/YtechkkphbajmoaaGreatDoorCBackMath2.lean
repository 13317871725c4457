/- code: of a right code the bytes are read as it was: the mathematics. -/
import Derived.Test.YtechkkphbajmoaaGreatDoorCBackMath
import Derived.Test.YtechkkphbajmoaaGreatDoorCHeights
namespace Go.Proofs.YtechkkphbajmoaaGreatDoor
open Go.RowKit Go.Shelf

theorem textF_short : ∀ (f : Nat) (meant : List UInt8) (a : Nat) (l : List UInt8), meant.length ≤ 255 → (textF f meant a l).s.length ≤ 255
  | 0, _, _, _, _ => by simp [textF]
  | _ + 1, _, _, [], _ => by simp [textF]
  | f + 1, meant, a, x :: r, h => by
    unfold textF
    split
    · exact h
    · split
      · simp
      · split
        · simp
        · exact textF_short f _ _ _ (by rw [List.length_append]; simp only [List.length_cons, List.length_nil]; omega)
theorem tokT_short (l : List UInt8) (h : (tokT l).k ≠ 5) : (tokT l).s.length ≤ 255 := by
  match l with
  | [] => simp [tokT]
  | x :: r =>
    unfold tokT at h ⊢
    simp only at h ⊢
    split
    · rename_i h1
      rw [if_pos h1] at h
      unfold nameR at h ⊢
      split
      · rename_i h2
        rw [if_pos h2] at h
        exact absurd rfl h
      · split
        · simp
        · simp only; omega
    · split
      · unfold numT
        split <;> simp
      · split
        · exact textF_short _ _ _ _ (by simp)
        · unfold signT
          have := bestS_len (x :: r) 25
          split
          · simp
          · simp only; omega
theorem backB_short {k : Int} {s : List UInt8} (h : backB k 0 s) (hk : k = 1 ∨ k = 3) : s.length ≤ 255 := by
  obtain ⟨-, h2, h3, -⟩ := h
  rw [← h3]
  exact tokT_short _ (by omega)
theorem namesR_short {lo hi : Int} {l : List (List UInt8)} (h : namesR lo hi l = true) : ∀ s ∈ l, s.length ≤ 255 := by
  unfold namesR at h
  simp only [Bool.and_eq_true, decide_eq_true_eq] at h
  intro s hs
  obtain ⟨i, hi, rfl⟩ := List.getElem_of_mem hs
  exact backB_short (h.2 i hi).1 (.inl rfl)

/-- Of a right code the bytes are read as it was. -/
theorem right_ok {c : Cd} (hc : rightC c = true) (hsm : SmallC c) (hints : IntsC c) (hun : ∀ u ∈ c.units, u.ins.length ≤ 1048576 ∧ u.vars.length ≤ 1048576) : okCdx c := by
  obtain ⟨hout, hall, -⟩ := rightC_parts hc
  unfold outR at hout
  simp only [Bool.and_eq_true, List.all_eq_true, decide_eq_true_eq] at hout
  obtain ⟨-, hs, hns, hsh, hnu, -⟩ := hout
  refine ⟨⟨fun s h => backB_short (hs s h) (.inr rfl), hsm.nstrs⟩, ⟨fun x hx => ⟨namesR_short hns _ (List.mem_map.2 ⟨x, hx, rfl⟩), namesR_short (hsh x hx), by have := shR_few (hsh x hx); omega⟩, hsm.nshapes⟩, ⟨fun u hu => ?_, hsm.nunits⟩, hints.main⟩
  obtain ⟨-, -, -, -, hv, -⟩ := unitR_parts (hall u hu)
  refine ⟨namesR_short hnu _ (List.mem_map.2 ⟨u, hu, rfl⟩), (hints.unit u hu).1, (hints.unit u hu).2.1, (hints.unit u hu).2.2, trivial, ⟨fun y hy => hints.ins u hu y hy, (hun u hu).1⟩, fun y hy => ?_, (hun u hu).2⟩
  rw [List.all_eq_true] at hv
  have h1 := hv y hy
  unfold varR at h1
  simp only [Bool.and_eq_true, decide_eq_true_eq] at h1
  exact ⟨backB_short h1.1 (.inl rfl), hints.var u hu y hy⟩
end Go.Proofs.YtechkkphbajmoaaGreatDoor
