/- What is read as a number, or as a text, is put as the very bytes: the walk of WireForm. -/
import Derived.Test.YtffedjgbhdaecaaWMath
import Derived.Test.YtffedjgbhdaecaaWLives
import Derived.Deep.RegionWith
namespace Go.Proofs.Ytffedjgbhdaecaa
open Go.RowKit

theorem ReaderAt.drew {w : World} {p : Nat} {base : Option Addr} {cap : Nat} {bs : List UInt8} {at0 er : Nat} (h : ReaderAt w p base cap bs at0 er) : ReaderAt w.drew p base cap bs at0 er :=
  h.below (⟨rfl, rfl, rfl, Nat.le_refl _, fun _ _ => rfl⟩ : Below w.heap.size w w.drew) (Nat.le_refl _)

set_option maxRecDepth 100000 in
theorem run_uptoF (w : World) (base : Option Addr) (len cap c : Nat) (h : c ≤ cap) :
    (Instr.slice 22 (.slice base len cap) none (some (.int .i64 c)) none).run Try.prog w = .ok (.slice base c cap) w := by
  have h1 := run_slice_h (P := Try.prog) w 22 base len cap Try.underlying22 .i64 (c : Int) (by omega) (by omega)
  have hs : (sizeOf (Try.prog.elem 22)).run Try.prog w = .ok 1 w := by kernel_rfl
  rw [h1, hs]
  simp [sliced, Addr.add]

/-- The text that is read is put as the very bytes. -/
theorem getT_form {bs : List UInt8} {most : Int} {ts : List UInt8} {k : Nat} (h : getT bs most = (ts, k, 0)) : bs.take k = textB ⟨ts.toArray⟩ ∧ k = (textB ⟨ts.toArray⟩).length ∧ ts.length ≤ bs.length := by
  unfold getT at h
  have hg1 := getC_len bs most
  have hg2 := getC_nonneg bs most
  have hC : getC bs most = getI bs ∨ (getC bs most).2.2 ≠ 0 := by
    unfold getC
    split
    · right; assumption
    · split
      · right; simp
      · split
        · right; simp
        · left; rfl
  split at h
  · rename_i he
    simp only [Prod.mk.injEq] at h
    exact absurd h.2.2 he
  · rename_i he
    split at h
    · simp at h
    · rename_i hlt
      simp only [Prod.mk.injEq] at h
      obtain ⟨rfl, rfl, _⟩ := h
      have hCI : getC bs most = getI bs := by
        rcases hC with hC | hC
        · exact hC
        · exact absurd hC he
      obtain ⟨cnt, sz, e0, hq⟩ : ∃ cnt sz e0, getC bs most = (cnt, sz, e0) := ⟨_, _, _, rfl⟩
      rw [hq] at he hlt hg1 hg2 ⊢
      simp only [ne_eq, Decidable.not_not] at he
      simp only at hlt hg1 hg2
      subst he
      obtain ⟨h1, h2, h3, h4⟩ := getI_form (hCI.symm.trans hq)
      obtain ⟨m, rfl⟩ := Int.eq_ofNat_of_zero_le hg2
      simp only [Int.toNat_natCast]
      have hsz : ((bs.drop sz).take m).length = m := by rw [List.length_take, List.length_drop]; omega
      have hsize : (⟨((bs.drop sz).take m).toArray⟩ : ByteArray).size = m := by
        show ((bs.drop sz).take m).toArray.size = m
        rw [List.size_toArray]; exact hsz
      have ht : textB ⟨((bs.drop sz).take m).toArray⟩ = bs.take (sz + m) := by
        unfold textB
        rw [hsize, ← h1, List.take_add]
      rw [ht]
      exact ⟨rfl, by rw [List.length_take]; omega, by omega⟩

theorem form_x {bs : List UInt8} {n : Int} {at1 er1 : Nat} (h : (n, at1, er1) = stepR 0 0 0 (getI bs)) :
    (er1 = 0 ∧ bs.take at1 = numB n ∧ at1 = (numB n).length ∧ at1 ≤ bs.length ∧ -9223372036854775808 ≤ n ∧ n ≤ 9223372036854775807) ∨ (er1 ≠ 0 ∧ n = 0 ∧ at1 = 0) := by
  have hl := getI_len bs
  obtain ⟨v, k, e0, hq⟩ : ∃ v k e0, getI bs = (v, k, e0) := ⟨_, _, _, rfl⟩
  rw [hq] at h hl
  simp only at hl
  unfold stepR at h
  rw [if_neg (by decide)] at h
  by_cases he : e0 ≠ 0
  · rw [if_pos he] at h
    simp only [Prod.mk.injEq] at h
    obtain ⟨rfl, rfl, rfl⟩ := h
    exact .inr ⟨he, rfl, rfl⟩
  · rw [if_neg he] at h
    simp only [Prod.mk.injEq, Nat.zero_add] at h
    obtain ⟨rfl, rfl, rfl⟩ := h
    have e9 : e0 = 0 := by omega
    subst e9
    obtain ⟨h1, h2, h3, h4⟩ := getI_form hq
    exact .inl ⟨rfl, h1, h2, hl, h3, h4⟩

theorem form_t {bs : List UInt8} {most : Int} {ts : List UInt8} {at1 er1 : Nat} (h : (ts, at1, er1) = stepR [] 0 0 (getT bs most)) :
    (er1 = 0 ∧ bs.take at1 = textB ⟨ts.toArray⟩ ∧ at1 = (textB ⟨ts.toArray⟩).length ∧ at1 ≤ bs.length ∧ ts.length ≤ bs.length) ∨ (er1 ≠ 0 ∧ ts = [] ∧ at1 = 0) := by
  have hl := getT_len bs most
  obtain ⟨v, k, e0, hq⟩ : ∃ v k e0, getT bs most = (v, k, e0) := ⟨_, _, _, rfl⟩
  rw [hq] at h hl
  simp only at hl
  unfold stepR at h
  rw [if_neg (by decide)] at h
  by_cases he : e0 ≠ 0
  · rw [if_pos he] at h
    simp only [Prod.mk.injEq] at h
    obtain ⟨rfl, rfl, rfl⟩ := h
    exact .inr ⟨he, rfl, rfl⟩
  · rw [if_neg he] at h
    simp only [Prod.mk.injEq, Nat.zero_add] at h
    obtain ⟨rfl, rfl, rfl⟩ := h
    have e9 : e0 = 0 := by omega
    subst e9
    obtain ⟨h1, h2, h3⟩ := getT_form hq
    exact .inl ⟨rfl, h1, h2, hl, h3⟩
end Go.Proofs.Ytffedjgbhdaecaa
