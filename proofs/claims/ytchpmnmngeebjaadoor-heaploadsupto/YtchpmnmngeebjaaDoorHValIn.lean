/- A value that came in. -/
import Derived.Test.YtchpmnmngeebjaaDoorXTabs2
import Derived.Test.YtchpmnmngeebjaaDoorHModel
import Derived.Test.YtchpmnmngeebjaaDoorLRow
import Derived.ChangeSame
import Derived.Deep.DeepHandedRow
namespace Go.Proofs.YtchpmnmngeebjaaDoor
open Go.ChangeShapes Go.WideShapes Go.ChangeAt Go.RowKit

set_option maxRecDepth 100000 in
theorem val_fields : ∃ f0 f1 f2 : Field, Tryd.prog.underlying 25 = some (.struct #[f0, f1, f2]) ∧ (f0.type = 23 ∧ f1.type = 3 ∧ f2.type = 9) ∧ (f0.offset = 0 ∧ f1.offset = 1 ∧ f2.offset = 2) :=
  ⟨_, _, _, Tryd.underlying25, ⟨rfl, rfl, rfl⟩, ⟨rfl, rfl, rfl⟩⟩
set_option maxRecDepth 100000 in
theorem cells_intH : Tryd.prog.cellsOf 3 = 1 := by kernel_rfl
set_option maxRecDepth 100000 in
theorem cells_vkind : Tryd.prog.cellsOf 23 = 1 := by kernel_rfl
set_option maxRecDepth 100000 in
theorem cells_val : Tryd.prog.cellsOf 25 = 3 := by kernel_rfl

theorem one_ofH {v : Value} {cs : List Value} {i : Nat} (h : (cs.drop i).take 1 = [v]) : cs[i]? = some v := by
  have := congrArg (fun l => l[0]?) h
  simpa [List.getElem?_take, List.getElem?_drop] using this

set_option maxRecDepth 100000 in
/-- The cells of a value that can be read. -/
theorem val_open {H : Type} {enc : TypeId × Value → H} {w : World} {base fuel : Nat} {sp : Nat → Bool} {held : Bool} {cs : List Value} {x : DataW H × List MemPlace}
    (h : DataW.trod enc Tryd.prog w base sp held fuel 25 cs = some x) :
    ∃ (v : Vl), cs = vlL v ∧ (-9223372036854775808 ≤ v.n ∧ v.n ≤ 9223372036854775807) ∧ x.1 = .agg [.lit (.int .i64 v.k), .lit (.int .i64 v.n), .lit (.string v.s)] := by
  obtain ⟨f0, f1, f2, hu, ⟨t0, t1, t2⟩, ⟨o0, o1, o2⟩⟩ := val_fields
  obtain ⟨xs, m, -, rfl, hlc, hl, hel⟩ := DataW.trod_struct hu h
  have h0 := hel 0 f0 rfl
  have h1 := hel 1 f1 rfl
  have h2 := hel 2 f2 rfl
  rw [t0, o0, cells_vkind] at h0
  rw [t1, o1, cells_intH] at h1
  rw [t2, o2, cells_str] at h2
  rw [cells_val] at hlc
  match xs, hl with
  | [x0, x1, x2], _ =>
    obtain ⟨k, a0, b0, -⟩ := DataW.trod_int Tryd.underlying23 h0
    obtain ⟨n, a1, b1, c1⟩ := DataW.trod_int Tryd.underlying3 h1
    obtain ⟨s, a2, b2, -⟩ := DataW.trod_string Tryd.underlying9 h2
    have q0 := one_ofH a0
    have q1 := one_ofH a1
    have q2 := one_ofH a2
    match cs, hlc with
    | [v0, v1, v2], _ =>
      simp only [List.getElem?_cons_zero, List.getElem?_cons_succ, Option.some.injEq] at q0 q1 q2
      refine ⟨⟨k, n, s.data.toList⟩, ?_, ?_, ?_⟩
      · rw [q0, q1, q2]; simp only [vlL, strB_of]
      · exact wf_i64 c1
      · simp [b0, b1, b2]

/-- A value as an argument. -/
theorem val_arg {H : Type} {enc : TypeId × Value → H} {w : World} {b0 : Nat} {sp : Nat → Bool} {held : Bool} {v : Value} {d : DataW H} {p : List MemPlace} (hv : ∃ cs : Array Value, v = .agg cs) (h : ∃ fuel, DataW.trod enc Tryd.prog w b0 sp held fuel 25 v.cells.toList = some (d, p)) :
    ∃ x : Vl, v = vlV x ∧ (-9223372036854775808 ≤ x.n ∧ x.n ≤ 9223372036854775807) ∧ d = .agg [.lit (.int .i64 x.k), .lit (.int .i64 x.n), .lit (.string x.s)] := by
  obtain ⟨cs, rfl⟩ := hv
  obtain ⟨fuel, hf⟩ := h
  obtain ⟨x, hcs, hn, hd⟩ := val_open hf
  refine ⟨x, ?_, hn, hd⟩
  have e : cs.toList = vlL x := by simpa [Value.cells] using hcs
  cases cs
  simp only [vlL] at e
  rw [e]
end Go.Proofs.YtchpmnmngeebjaaDoor
