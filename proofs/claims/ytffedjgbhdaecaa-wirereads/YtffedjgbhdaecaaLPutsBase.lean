/- 'append([]byte{}, v...)' as a step of a region that draws its order. -/
import Derived.Test.YtffedjgbhdaecaaWMem
import Derived.Test.YtffedjgbhdaecaaWBytes
import Derived.Deep.RegionLaw
namespace Go.Proofs.Ytffedjgbhdaecaa
open Go.RowKit

set_option maxRecDepth 100000 in
/-- 'append([]byte{}, v...)' as a step of a region that draws its order. -/
theorem step_copy {ops : Array Oper} {o : Oper} {a : Act} {w : World} {K : Act → World → Prop} {Q : Exit → Act → World → Prop} {E : Prop} (s x : Operand)
    (ho : o.op = .call { callee := .builtin .append, args := #[s, x], argTypes := #[22, 22] })
    (hw : Region.wanted o (yielded ops a.tmps) = true) (g : Nat) (v : Value) (bs : List UInt8) (hs : a.eval s = .slice (some ⟨g, 0, none⟩) 0 0) (hx : a.eval x = v)
    (hown : w.ownsRow g 5 1 (.slice (some ⟨g, 0, none⟩) 0 0) 0 []) (hg : g ≤ w.heap.size) (hv : bytesAt w v bs) (hb : bs.length ≤ 140737488355328)
    (h : ∀ v' w', w'.ownsRow g 5 1 v' bs.length (Lib.byteCells bs) → Below g w w' → K (a.put o.dst v') w') :
    if Region.wanted o (yielded ops a.tmps) = true then Oper.wp Try.prog o a w K Q else E := by
  rw [if_pos hw]
  obtain ⟨i0, hi, hz0, hz1, hz2⟩ := info_parts info_u8
  obtain ⟨base, cap, rfl, hn, h1, h2, hc⟩ := hv
  cases base with
  | none =>
    obtain ⟨rfl, rfl⟩ := hn rfl
    have hrun := run_append_owned_none (P := Try.prog) (w := w) g 22 o.type 5 i0 1 Try.underlying22 hi _ _ _ hown
    have hx' : a.eval x = .slice none 0 0 := hx
    unfold Oper.wp
    simp [execOp, ho, resolve, invoke, builtin, hs, hx', hrun, Result.andThen]
    exact h _ _ hown (Below.refl _ _)
  | some ad =>
    refine wp_append_own w s x 22 ho g 5 i0 (.int .u8 0) 1 1 Try.underlying22 hi hz0 hz1 hz2 rfl (by decide) _ 0 [] hs hown ad bs.length cap (Lib.byteCells bs) hx (by rw [Lib.byteCells_length, Nat.mul_one]) (hc ad rfl) (bytes_one bs) (by unfold maxLen; omega) (by omega) hg ?_
    intro v' w' ho' hg' _
    refine h v' w' (by simpa using ho') ?_
    exact (Below.refl g w).grown hg' hg (fun k hk => by cases hk; exact Nat.le_refl _)

theorem drew_below {B : Nat} {w : World} : Below B w w.drew := ⟨rfl, rfl, rfl, Nat.le_refl _, fun _ _ => rfl⟩

theorem made_empty (w : World) : (w.alloc (.cells #[] 5)).ownsRow w.heap.size 5 1 (.slice (some ⟨w.heap.size, 0, none⟩) 0 0) 0 [] := World.ownsRow_made w #[] 0 (Nat.le_refl _) (Nat.zero_le _) rfl

end Go.Proofs.Ytffedjgbhdaecaa
