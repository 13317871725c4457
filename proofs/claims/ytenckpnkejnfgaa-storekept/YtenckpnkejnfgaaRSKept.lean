/- What is told for a position is what was put there last; what is put, and told, in memory of its own: for every input StoreKept returns true, and its arguments read behind the call as they read before. No condition but the form's own reach. -/
import Derived.Test.YtenckpnkejnfgaaRows
import Derived.Test.YtenckpnkejnfgaaLSKept
import Derived.Test.YtenckpnkejnfgaaLRow
import Derived.Test.YtenckpnkejnfgaaKActsZ
import Derived.SizedLaws
namespace Go.Proofs.Ytenckpnkejnfgaa
open Go.ChangeShapes Go.WideShapes Go.ChangeAt Go.RowKit
open Go.ChangeMaps (open_string shut_string)

set_option maxRecDepth 100000 in
theorem storeKept_lifted (os : Os) (started : os.Started) (H : Type) (enc : TypeId × Value → H) :
    ReturnsInHanded {} Try.checked os 5 .any (Rows.storeKeptSpec.pre6 enc Try.prog Try.f5 Rows.storeKeptRow.domain false) (Rows.storeKeptSpec.post enc Try.prog Try.f5 false true false false) := by
  refine returnsInHanded_of_change_sized (C := Try.checked) own started (by kernel_rfl) Try.func5
    (ChangeSpec.witness6 (enc := enc) (C := Try.checked) false ⟨#[], #[.int .i64 0, .slice none 0 0, .slice none 0 0], []⟩ 8 (by kernel_rfl) (by kernel_rfl) (by kernel_rfl) (by kernel_rfl)) ?_
  intro W base args ds gs before hval0 hW hcnd hsz0 _
  have hsz : (DataW.weightsEach Try.prog (Try.f5.params.toList ++ Rows.storeKeptSpec.plain.varTypes Try.prog) (ds ++ gs)).all (· ≤ reachBytes) = true := hsz0
  have hval : ∀ (j : Nat) t v, Try.f5.params[j]? = some t → args[j]? = some v → Value.okWide Try.prog W .any base t v := hval0
  have hW' := hW
  obtain ⟨p, q, hA0, hV, rfl, hfz, hnd⟩ := hW
  have hA : DataW.TrodAll enc Try.prog W 0 (fun _ => true) true Try.f5.params.toList args.toList ds p := hA0
  rw [Try.params5] at hA hval hsz
  obtain ⟨v0, vs0, d0, ds0, p0, q0, hargs, rfl, rfl, h0, r0⟩ := trodAll_cons hA
  obtain ⟨v1, vs1, d1, ds1, p1, q1, rfl, rfl, rfl, h1, r1⟩ := trodAll_cons r0
  obtain ⟨v2, vs2, d2, ds2, p2, q2, rfl, rfl, rfl, h2, r2⟩ := trodAll_cons r1
  obtain ⟨rfl, rfl, rfl⟩ := trodAll_nil r2
  obtain rfl : args = #[v0, v1, v2] := by cases args; simp_all
  obtain ⟨rfl, rfl⟩ := trodVars_none hV
  obtain ⟨a0, rfl, rfl, rfl, w0⟩ := open_int Try.underlying3 (hval 0 3 v0 rfl rfl) h0
  have b0 := wf_i64 w0
  have k1 := h1
  have lt1 : ∀ x ∈ p1, x.block < W.heap.size := by obtain ⟨m, hm⟩ := k1; exact DataW.trod_lt m _ _ _ hm
  obtain ⟨a1, ls1, cap1, rfl, y1, u1, w1, x1⟩ : ∃ base ls cap, v1 = .slice base ls.length cap ∧ ls.length ≤ cap ∧ cap ≤ maxLen ∧ kactsAt W base ls ∧ (d1 = .nil ∧ ls = [] ∨ ∃ sp, d1 = .slice (ls.map fun q => .agg [.lit (.int .i64 q.1), .lit (.string q.2)]) sp) := by
    obtain ⟨fuel, hf⟩ := h1
    obtain ⟨a, len, cap, rfl⟩ := okWide_slice Try.underlying22 (hval 1 22 v1 rfl rfl)
    exact kacts_open (by simpa [Value.cells] using hf)
  obtain ⟨a2, len2, cap2, rfl⟩ := okWide_slice Try.underlying36 (hval 2 36 v2 rfl rfl)
  have k2 := h2
  have lt2 : ∀ x ∈ p2, x.block < W.heap.size := by obtain ⟨m, hm⟩ := k2; exact DataW.trod_lt m _ _ _ hm
  obtain ⟨z2, w2, y2⟩ : ∃ zs, IsRow .u8 W a2 len2 cap2 zs ∧ (d2 = .nil ∧ len2 = 0 ∨ ∃ el sp, d2 = .slice el sp ∧ el.length = len2) := by
    obtain ⟨fuel, hf⟩ := h2
    rcases open_ints Try.underlying36 Try.underlying5 (by kernel_rfl) hf with ⟨hcs, hx⟩ | ⟨x, l, c, zs, hcs, _, hl, hm, hz, hx, hcell, hwz⟩
    · simp [Value.cells] at hcs
      obtain ⟨rfl, rfl, rfl⟩ := hcs
      exact ⟨[], .inl ⟨rfl, rfl, rfl, rfl⟩, .inl ⟨by simpa using congrArg Prod.fst hx, rfl⟩⟩
    · simp [Value.cells] at hcs
      obtain ⟨rfl, rfl, rfl⟩ := hcs
      refine ⟨zs, .inr ⟨_, rfl, hl, hm, by simpa using hz, hcell, hwz⟩, .inr ⟨_, _, by simpa using congrArg Prod.fst hx, ?_⟩⟩
      have hz' : zs.length = cap2 := by simpa using hz
      simp [lits]; omega
  obtain ⟨s2, l2, x2⟩ := isRow_bytes w2
  have g2 : len2 * Try.prog.bytesOf 5 ≤ 140737488351232 := by
    rcases y2 with ⟨_, h⟩ | ⟨el, sp, h, h2⟩
    · rw [h]; simp
    · have h3 := sized_slice hsz (j := 2) (t := 36) (e := 5) rfl (by rw [h]; rfl) Try.underlying36
      have h4 : el.length * Try.prog.bytesOf 5 ≤ (el.length + sp.length) * Try.prog.bytesOf 5 := Nat.mul_le_mul_right _ (Nat.le_add_right _ _)
      rw [h2] at h4; unfold reachBytes at h3; rw [h2] at h3; omega
  clear hA0 hval0
  refine (skept_walk a0 a1 cap1 ls1 _ s2 W w1 y1 (kacts_sized hsz (j := 1) rfl rfl x1) x2 (by have h4 : Try.prog.bytesOf 5 = 1 := (by kernel_rfl); rw [h4] at g2; omega)).mono fun e W' ⟨he, bel⟩ => ?_
  subst he
  exact ⟨_, rfl, _, _, _, [], _, [], hW', trodAll_mk1 (shut_bool Try.underlying4 _), (trodAll_cons_mk (shut_int Try.underlying3 w0) (trodAll_cons_mk (Below.trod laidOut (by kernel_rfl) (of_decide_eq_true (by kernel_rfl)) k1 bel lt1) (trodAll_cons_mk (Below.trod laidOut (by kernel_rfl) (of_decide_eq_true (by kernel_rfl)) k2 bel lt2) trodAll_mk0))), rfl, bel.frame _, fun h => by cases h⟩

/-- THE STATEMENT. -/
theorem storeKept_proved : Rows.StoreKeptSaid :=
  OpenClaim.holds_of_wide 5 Try.f5 rfl rfl rfl rfl rfl rfl rfl ⟨rfl, rfl, rfl, rfl, rfl⟩ rfl rfl rfl rfl rfl (by kernel_rfl) Try.func5 (by kernel_rfl)
    (of_decide_eq_true (by kernel_rfl)) (by unfold Func.isWrapper; first | (rw [if_pos (by decide +kernel)]; kernel_rfl) | (rw [if_neg (by decide +kernel)]; exact ⟨rfl, rfl⟩))
    (fun os started H enc _ => storeKept_lifted os started H enc)
#print axioms storeKept_proved
end Go.Proofs.Ytenckpnkejnfgaa
