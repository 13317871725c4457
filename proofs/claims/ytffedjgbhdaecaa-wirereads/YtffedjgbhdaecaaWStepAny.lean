/- One call of both readers, of whatever kind. -/
import Derived.Test.YtffedjgbhdaecaaWStep2
namespace Go.Proofs.Ytffedjgbhdaecaa
open Go.RowKit

theorem askR_le {kind most : Int} {bs : List UInt8} {at0 er : Nat} (h : at0 ≤ bs.length) (h9 : er ≤ 9) : (askR kind most bs at0 er).1 ≤ bs.length ∧ (askR kind most bs at0 er).2 ≤ 9 := by
  have hd : (bs.drop at0).length = bs.length - at0 := List.length_drop
  have key : ∀ {α : Type} (z : α) (g : α × Nat × Nat), g.2.1 ≤ (bs.drop at0).length → g.2.2 ≤ 9 → (stepR z at0 er g).2.1 ≤ bs.length ∧ (stepR z at0 er g).2.2 ≤ 9 := fun z g h1 h2 => by
    unfold stepR
    split
    · exact ⟨h, h9⟩
    · split
      · exact ⟨h, h2⟩
      · exact ⟨by simp only; omega, by simp⟩
  unfold askR
  split
  · exact key _ _ (getB_len _) (getB_e _)
  · split
    · exact key _ _ (getC_len _ _) (getC_e _ _)
    · split
      · exact key _ _ (getT_len _ _) (getT_e _ _)
      · exact key _ _ (getI_len _) (getI_e _)

set_option maxRecDepth 100000 in
theorem step_any {w : World} {p : Nat} {base : Option Addr} {cap : Nat} {at0 er : Nat} (s : ByteArray) (k most : Int) (h : ReaderAt w p base cap s.data.toList at0 er) (hs : s.size ≤ 9223372036854775000) :
    Calls Try.prog 9 #[.pointer (some ⟨p, 0, none⟩), .agg #[.string s, .int .i64 at0, .int .i64 er], .agg #[.int .i64 k, .int .i64 most]] w fun e w' =>
      e = .returned (.tuple #[.agg #[.string s, .int .i64 (askR k most s.data.toList at0 er).1, .int .i64 (askR k most s.data.toList at0 er).2], .bool true]) ∧
      ReaderAt w' p base cap s.data.toList (askR k most s.data.toList at0 er).1 (askR k most s.data.toList at0 er).2 ∧ w.grownBy w' (some p) := by
  unfold askR
  by_cases h1 : k = 1
  · rw [if_pos h1]; subst h1; exact step1_any s most h hs
  · rw [if_neg h1]
    by_cases h2 : k = 2
    · rw [if_pos h2]; subst h2; exact step2_any s most h hs
    · rw [if_neg h2]
      by_cases h3 : k = 3
      · rw [if_pos h3]; subst h3; exact step3_any s most h hs
      · rw [if_neg h3]
        exact step0_any s k most (beq_eq_false_iff_ne.2 h1) (beq_eq_false_iff_ne.2 h2) (beq_eq_false_iff_ne.2 h3) h hs
end Go.Proofs.Ytffedjgbhdaecaa
