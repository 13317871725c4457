/- append of any bytes (nil among them) onto bytes that are owned, in one law. -/
import Derived.Test.YtjhfkiighphepaaDoorWReader
namespace Go.Proofs.YtjhfkiighphepaaDoor
open Go.RowKit

set_option maxRecDepth 100000 in
theorem append_bytes {ops : Array Oper} {rest : List Oper} {o : Oper} {a : Act} {w : World} {Q : Exit → Act → World → Prop} (hgd : o.guard = none) (s x : Operand)
    (ho : o.op = .call { callee := .builtin .append, args := #[s, x], argTypes := #[60, 60] })
    (B : Nat) (v : Value) (us : List UInt8) (hs : a.eval s = v) (hown : w.ownsRow B 5 1 v us.length (Lib.byteCells us)) (xv : Value) (bs : List UInt8) (hx : a.eval x = xv) (hv : bytesAt w xv bs)
    (hb : us.length + bs.length ≤ 140737488355328) (hB : B ≤ w.heap.size)
    (h : ∀ v' w', w'.ownsRow B 5 1 v' (us ++ bs).length (Lib.byteCells (us ++ bs)) → w.grownBy w' v.ownBlock → wpList Tryd.prog ops Q rest (a.put o.dst v') w') : wpList Tryd.prog ops Q (o :: rest) a w := by
  obtain ⟨i0, hi, hz0, hz1, hz2⟩ := info_parts info_u8
  obtain ⟨base, cap, rfl, hn, h1, h2, hc⟩ := hv
  cases base with
  | none =>
    obtain ⟨rfl, rfl⟩ := hn rfl
    refine wpList_append_own_none hgd s x 60 ho B 5 i0 1 Tryd.underlying60 hi v us.length _ hs hown hx ?_
    refine h v w ?_ (grownBy_refl _ _)
    rw [List.append_nil]; exact hown
  | some ad =>
    refine wpList_append_own _ hgd s x 60 ho B 5 i0 (.int .u8 0) 1 1 Tryd.underlying60 hi hz0 hz1 hz2 rfl (by decide) v us.length _ hs hown ad bs.length cap (Lib.byteCells bs) hx (by rw [Lib.byteCells_length, Nat.mul_one]) (hc ad rfl) (bytes_one bs) (by unfold maxLen; omega) (by omega) hB ?_
    intro v' w' ho' hg' _
    refine h v' w' ?_ hg'
    rw [List.length_append, Lib.byteCells_append]
    exact ho'

set_option maxRecDepth 100000 in
/-- .. as a step of a region that draws its order. -/
theorem step_append_bytes {ops : Array Oper} {o : Oper} {a : Act} {w : World} {K : Act → World → Prop} {Q : Exit → Act → World → Prop} {E : Prop} (s x : Operand)
    (ho : o.op = .call { callee := .builtin .append, args := #[s, x], argTypes := #[60, 60] }) (hw : Region.wanted o (yielded ops a.tmps) = true)
    (B : Nat) (v : Value) (us : List UInt8) (hs : a.eval s = v) (hown : w.ownsRow B 5 1 v us.length (Lib.byteCells us)) (xv : Value) (bs : List UInt8) (hx : a.eval x = xv) (hv : bytesAt w xv bs)
    (hb : us.length + bs.length ≤ 140737488355328) (hB : B ≤ w.heap.size)
    (h : ∀ v' w', w'.ownsRow B 5 1 v' (us ++ bs).length (Lib.byteCells (us ++ bs)) → w.grownBy w' v.ownBlock → K (a.put o.dst v') w') :
    if Region.wanted o (yielded ops a.tmps) = true then Oper.wp Tryd.prog o a w K Q else E := by
  rw [if_pos hw]
  obtain ⟨i0, hi, hz0, hz1, hz2⟩ := info_parts info_u8
  obtain ⟨base, cap, rfl, hn, h1, h2, hc⟩ := hv
  cases base with
  | none =>
    obtain ⟨rfl, rfl⟩ := hn rfl
    have hrun := run_append_owned_none (P := Tryd.prog) (w := w) B 60 o.type 5 i0 1 Tryd.underlying60 hi _ _ _ hown
    have hx' : a.eval x = .slice none 0 0 := hx
    unfold Oper.wp
    simp [execOp, ho, resolve, invoke, builtin, hs, hx', hrun, Result.andThen]
    refine h v w ?_ (grownBy_refl _ _)
    rw [List.append_nil]; exact hown
  | some ad =>
    refine wp_append_own w s x 60 ho B 5 i0 (.int .u8 0) 1 1 Tryd.underlying60 hi hz0 hz1 hz2 rfl (by decide) v us.length _ hs hown ad bs.length cap (Lib.byteCells bs) hx (by rw [Lib.byteCells_length, Nat.mul_one]) (hc ad rfl) (bytes_one bs) (by unfold maxLen; omega) (by omega) hB ?_
    intro v' w' ho' hg' _
    refine h v' w' ?_ hg'
    rw [List.length_append, Lib.byteCells_append]
    exact ho'

theorem bytesAt_one {w : World} {g r : Nat} (hr : r < 256) (hc : w.cell? ⟨g, 0, none⟩ = some (.int .u8 (r : Int))) : bytesAt w (.slice (some ⟨g, 0, none⟩) 1 1) [r.toUInt8] :=
  bytesAt_lit rfl (by unfold maxLen; decide) (fun j u hj => by
    match j, hj with
    | 0, hj => simp [Lib.byteCells, Lib.toUInt8_toNat hr] at hj; subst hj; exact hc)
end Go.Proofs.YtjhfkiighphepaaDoor
