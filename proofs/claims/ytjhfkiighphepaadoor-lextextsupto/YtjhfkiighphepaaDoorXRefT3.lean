/- The document's own functions of layer 3: a sign's text; a token's text. -/
import Derived.Test.YtjhfkiighphepaaDoorXRefT2
namespace Go.Proofs.YtjhfkiighphepaaDoor
open Go.RowKit Go.Shelf

attribute [local go_sem] undef

theorem inL_signs (s : List UInt8) : inL refSigns s = true ↔ s ∈ signsL := by
  have m1 : ∀ x ∈ refSigns, x ∈ signsL := by decide
  have m2 : ∀ x ∈ signsL, x ∈ refSigns := by decide
  unfold inL
  rw [List.contains_iff_mem]
  exact ⟨m1 s, m2 s⟩

set_option maxHeartbeats 16000000 in
set_option maxRecDepth 100000 in
theorem refText_sign (k n a b : Int) (s : List UInt8) (w : World) (hk : k = 4) :
    Calls Tryd.prog 12 #[.agg #[.int .i64 k, .string (strB s), .int .i64 n, .int .i64 a, .int .i64 b]] w fun e w' => e = .returned (ttV (refT k n s)) ∧ Below w.heap.size w w' := by
  obtain ⟨W, hW⟩ : ∃ W, W = w.alloc (.cells #[.int .i64 k, .string (strB s), .int .i64 n, .int .i64 a, .int .i64 b] 33) := ⟨_, rfl⟩
  have hz : w.heap.size < W.heap.size := by rw [hW]; simp
  have HBW : Hid (Below w.heap.size w W) := by show Below _ _ _; rw [hW]; exact (Below.refl _ w).alloc (Nat.le_refl _) _
  have q0 : W.cell? ⟨w.heap.size, 0, none⟩ = some (.int .i64 k) := by rw [hW]; simp
  have q1 : W.cell? ⟨w.heap.size, 1, none⟩ = some (.string (strB s)) := by rw [hW]; simp
  have q2 : W.cell? ⟨w.heap.size, 2, none⟩ = some (.int .i64 n) := by rw [hW]; simp
  have qa0 := fun o => Lib.cell?_alloc_some o q0
  have qa1 := fun o => Lib.cell?_alloc_some o q1
  have qa2 := fun o => Lib.cell?_alloc_some o q2
  subst hk
  have HIN : Hid (∀ (wx : World) (g : Nat), (∀ j (h : j < refSigns.length), wx.cell? ⟨g, j, none⟩ = some (.string (strB (refSigns[j]'h)))) → Calls Tryd.prog 21 #[.slice (some ⟨g, 0, none⟩) 25 25, .string (strB s)] wx fun e w' => e = .returned (.bool (inL refSigns s)) ∧ wx = w') := fun wx g hc => refIn_any refSigns s g 25 wx (by decide) hc
  have HCE : Hid (∀ (wx : World) j (h : j < refSigns.length), (wx.alloc (.cells (refSigns.map fun x => Value.string (strB x)).toArray 9)).cell? ⟨wx.heap.size, j, none⟩ = some (.string (strB (refSigns[j]'h)))) := fun wx j h => by
    rw [cell_of_row _ _ _ _ _ _ (World.alloc_heap_new wx _)]
    simp [h]
  cases hq : inL refSigns s with
  | true =>
    rw [hq] at HIN
    by_cases h0 : n = 0
    · have HR : Hid (refT 4 n s = (s, 0)) := by
        show _ = _
        unfold refT
        rw [if_neg (by omega), if_pos (.inr (.inl ⟨rfl, (inL_signs s).1 hq, h0⟩))]
      subst h0
      go_enter Tryd.func12, Tryd.ntmps12
      go_wp2_with fail
      rw [← hW]
      clear hW
      first
        | go_region_with (first | (go_at_call 22; refine (refSigns_any _).mono ?_; rintro e w2 ⟨rfl, rfl⟩) | (go_at_call 21; refine (HIN.out _ _ (by intro j h; exact HCE.out W j h)).mono ?_; rintro e w3 ⟨rfl, hw3⟩; subst hw3))
        | fail
      all_goals go_wp2
      all_goals go_ret2
      all_goals rw [HR.out]
      all_goals exact ⟨rfl, (HBW.out.alloc (by omega) _).drew⟩
    · have HR : Hid (refT 4 n s = ([], 2)) := by
        show _ = _
        unfold refT
        rw [if_neg (by omega), if_neg (fun h => by rcases h with h | h | h <;> exact h0 h.2.2), if_neg (by omega), if_neg (by omega)]
      have b0 : (n == 0) = false := by rw [beq_eq_false_iff_ne]; exact h0
      go_enter Tryd.func12, Tryd.ntmps12
      go_wp2_with fail
      rw [← hW]
      clear hW
      first
        | go_region_with (first | (go_at_call 22; refine (refSigns_any _).mono ?_; rintro e w2 ⟨rfl, rfl⟩) | (go_at_call 21; refine (HIN.out _ _ (by intro j h; exact HCE.out W j h)).mono ?_; rintro e w3 ⟨rfl, hw3⟩; subst hw3))
        | fail
      all_goals go_wp2
      all_goals go_ret2
      all_goals rw [HR.out]
      all_goals exact ⟨rfl, (HBW.out.alloc (by omega) _).drew⟩
  | false =>
    have HR : Hid (refT 4 n s = ([], 2)) := by
      show _ = _
      unfold refT
      rw [if_neg (by omega), if_neg (fun h => by rcases h with h | h | h <;> first | (have := (inL_signs s).2 h.2.1; rw [hq] at this; cases this) | (have := h.1; omega)), if_neg (by omega), if_neg (by omega)]
    rw [hq] at HIN
    go_enter Tryd.func12, Tryd.ntmps12
    go_wp2_with fail
    rw [← hW]
    clear hW
    first
      | go_region_with (first | (go_at_call 22; refine (refSigns_any _).mono ?_; rintro e w2 ⟨rfl, rfl⟩) | (go_at_call 21; refine (HIN.out _ _ (by intro j h; exact HCE.out W j h)).mono ?_; rintro e w3 ⟨rfl, hw3⟩; subst hw3))
      | fail
    all_goals go_wp2
    all_goals go_ret2
    all_goals rw [HR.out]
    all_goals exact ⟨rfl, (HBW.out.alloc (by omega) _).drew⟩

end Go.Proofs.YtjhfkiighphepaaDoor
