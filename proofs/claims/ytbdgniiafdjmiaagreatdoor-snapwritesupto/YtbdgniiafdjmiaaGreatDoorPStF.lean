/- A state that came in: how the rows of its objects are. -/
import Derived.Test.YtbdgniiafdjmiaaGreatDoorPStIn
import Derived.Test.YtbdgniiafdjmiaaGreatDoorMZ
namespace Go.Proofs.YtbdgniiafdjmiaaGreatDoor
open Go.ChangeShapes Go.WideShapes Go.ChangeAt Go.RowKit

section
variable {H : Type} {enc : TypeId × Value → H} {w : World}
set_option maxRecDepth 100000 in
theorem obj_opensF : Opens enc w 51 2 (fun W b o (_ : Ob) => ∃ u, W.cell? ⟨b, o + 1, none⟩ = some u ∧ (u = .slice none 0 0 ∨ ∃ ad n c, u = .slice (some ad) n c)) (fun _ => True) := fun hd fuel cs x h hB => by
  obtain ⟨hl, m, hf⟩ := cfld Tryz.underlying51 cc_obj h
  obtain ⟨u1, y1, c1, t1, b1⟩ := hf 1 _ rfl cc_vals rfl (by omega)
  refine ⟨hl, ([], []), trivial, fun b o hc => ⟨u1, hc 1 _ c1, ?_⟩⟩
  rcases Deep.open_slice Tryz.underlying47 t1 with ⟨hcs, -⟩ | ⟨a, len, cap, -, -, -, -, hcs, -⟩
  · simp at hcs
    exact .inl hcs
  · simp at hcs
    exact .inr ⟨a, len, cap, hcs⟩
set_option maxRecDepth 100000 in
theorem state_form {S : Nat → Prop} {s : Sn} {b1 b2 : Option Addr} {n1 c1 n2 c2 : Nat} {d : DataW H} {p : List MemPlace} {hd : Bool} (h : ∃ fuel, DataW.trod enc Tryz.prog w 0 (fun _ => true) hd fuel 27 (snV s (.slice b1 n1 c1) (.slice b2 n2 c2)).cells.toList = some (d, p)) (hB : Rows.uptoBulk d ≤ 1048576) (hin : SnIn S w s (.slice b1 n1 c1) (.slice b2 n2 c2)) : objsF w (.slice b2 n2 c2) s.heap := by
  obtain ⟨fuel, hf0⟩ := h
  have hc0 : DataW.trod enc Tryz.prog w 0 (fun _ => true) hd fuel 27 [.int .i64 s.pos, .int .i64 s.st, .int .i64 s.ft, .slice b1 n1 c1, .slice b2 n2 c2, .string (strB s.out), .int .i64 s.rd] = some (d, p) := by simpa [Value.cells] using hf0
  obtain ⟨hl, m, hf⟩ := cfld Tryz.underlying27 cc_state hc0
  simp only at hf
  obtain ⟨u4, y4, c4, t4, b4⟩ := hf 4 _ rfl cc_objs rfl (by omega)
  simp only [List.getElem?_cons_zero, List.getElem?_cons_succ, Option.some.injEq] at c4
  subst c4
  obtain ⟨l, r, -, -, -⟩ := row_openG Tryz.underlying25 cc_obj (by omega) obj_opensF t4 (by omega)
  obtain ⟨base, cap, hv, -, -, hat⟩ := rowIn.at r
  obtain ⟨base2, cap2, hv2, -⟩ := rowIn.at hin.heap
  simp only [Value.slice.injEq] at hv hv2
  obtain ⟨rfl, hl1, rfl⟩ := hv
  obtain ⟨-, hl2, -⟩ := hv2
  intro i hi b o cap' u e hc
  simp only [Value.slice.injEq] at e
  obtain ⟨b', o', hb', -, -, u', hu', hform⟩ := hat i (by omega)
  rw [hb'] at e
  simp only [Option.some.injEq, Addr.mk.injEq, and_true] at e
  obtain ⟨⟨rfl, rfl⟩, -⟩ := e
  rw [hu'] at hc
  cases hc
  exact hform
end
end Go.Proofs.YtbdgniiafdjmiaaGreatDoor
