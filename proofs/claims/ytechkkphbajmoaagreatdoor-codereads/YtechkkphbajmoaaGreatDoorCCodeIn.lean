/- A code that came in; the table of ops, out of what the row says of it. -/
import Derived.Test.YtechkkphbajmoaaGreatDoorXTabs2
import Derived.Test.YtechkkphbajmoaaGreatDoorCBytes
import Derived.Test.YtechkkphbajmoaaGreatDoorLRow
import Derived.ChangeSame
import Derived.Deep.DeepHandedRow
import Derived.Deep.Slices
import Derived.JoinedOf
import Derived.JoinedCond
import Derived.SizedLaws
import Derived.MakeChecks
import Derived.Lay
import Derived.LaidOnce
namespace Go.Proofs.YtechkkphbajmoaaGreatDoor
open Go.ChangeShapes Go.WideShapes Go.ChangeAt Go.RowKit

instance : Inhabited In7 := ⟨⟨0, 0⟩⟩
instance : Inhabited Vr := ⟨⟨[], 0, 0, 0⟩⟩
instance : Inhabited Sh := ⟨⟨[], []⟩⟩
instance : Inhabited Un := ⟨⟨[], 0, 0, 0, false, [], []⟩⟩

theorem cone_of {v : Value} {cs : List Value} {i : Nat} (h : (cs.drop i).take 1 = [v]) : cs[i]? = some v := by
  have := congrArg (fun l => l[0]?) h
  simpa [List.getElem?_take, List.getElem?_drop] using this
set_option maxRecDepth 100000 in
theorem cc_str : Tryz.prog.cellsOf 9 = 1 := by kernel_rfl
set_option maxRecDepth 100000 in
theorem cc_int : Tryz.prog.cellsOf 3 = 1 := by kernel_rfl
section
variable {H : Type} {enc : TypeId × Value → H} {w : World} {fuel : Nat} {hd : Bool} {u : Value} {y : DataW H × List MemPlace}
end

section
variable {H : Type} {enc : TypeId × Value → H} {w : World}
end

set_option maxRecDepth 100000 in
theorem cc_opty : Tryz.prog.cellsOf 129 = 4 := by kernel_rfl
set_option maxRecDepth 100000 in
theorem cc_operand : Tryz.prog.cellsOf 127 = 1 := by kernel_rfl
set_option maxRecDepth 100000 in
theorem op_laid {w : World} {m : Nat} {cs : List Value} {s : List UInt8} {a b c : Int} {p : List MemPlace}
    (h : DataW.trod (fun _ => ()) Tryz.prog w 0 (fun _ => true) false m 129 cs = some (.agg [.lit (.string s), .lit (.int .i64 a), .lit (.int .i64 b), .lit (.int .i64 c)], p)) : cs[0]? = some (.string (strB s)) ∧ cs[1]? = some (.int .i64 a) ∧ cs[2]? = some (.int .i64 b) ∧ cs[3]? = some (.int .i64 c) := by
  obtain ⟨f0, f1, f2, f3, hu, ⟨t0, t1, t2, t3⟩, ⟨o0, o1, o2, o3⟩⟩ : ∃ f0 f1 f2 f3 : Field, Tryz.prog.underlying 129 = some (.struct #[f0, f1, f2, f3]) ∧ (f0.type = 9 ∧ f1.type = 127 ∧ f2.type = 3 ∧ f3.type = 3) ∧ (f0.offset = 0 ∧ f1.offset = 1 ∧ f2.offset = 2 ∧ f3.offset = 3) :=
    ⟨_, _, _, _, Tryz.underlying129, ⟨rfl, rfl, rfl, rfl⟩, ⟨rfl, rfl, rfl, rfl⟩⟩
  obtain ⟨xs, n, -, ex, -, hl, hel⟩ := DataW.trod_struct hu h
  have e1 := DataW.agg.inj (Prod.mk.inj ex).1
  have h0 := hel 0 f0 rfl
  have h1 := hel 1 f1 rfl
  have h2 := hel 2 f2 rfl
  have h3 := hel 3 f3 rfl
  rw [t0, o0, cc_str] at h0
  rw [t1, o1, cc_operand] at h1
  rw [t2, o2, cc_int] at h2
  rw [t3, o3, cc_int] at h3
  match xs, hl with
  | [x0, x1, x2, x3], _ =>
    simp only [List.map_cons, List.map_nil, List.cons.injEq, and_true] at e1
    obtain ⟨z0, a0, b0, -⟩ := DataW.trod_string Tryz.underlying9 h0
    obtain ⟨z1, a1, b1, -⟩ := DataW.trod_int Tryz.underlying127 h1
    obtain ⟨z2, a2, b2, -⟩ := DataW.trod_int Tryz.underlying3 h2
    obtain ⟨z3, a3, b3, -⟩ := DataW.trod_int Tryz.underlying3 h3
    rw [b0, b1, b2, b3] at e1
    simp only [DataW.lit.injEq, Lit.int.injEq, Lit.string.injEq, true_and] at e1
    obtain ⟨q0, rfl, rfl, rfl⟩ := e1
    refine ⟨?_, cone_of a1, cone_of a2, cone_of a3⟩
    rw [cone_of a0, q0, strB_of]

theorem ops_data : (Rows.laid_hindcast_code_ops : DataW Unit) = .agg (opsL.map fun r => .agg [.lit (.string r.1), .lit (.int .i64 r.2.1), .lit (.int .i64 r.2.2.1), .lit (.int .i64 r.2.2.2)]) := rfl
set_option maxRecDepth 100000 in
theorem opT_laid {W : World} {laid : List (String × DataW Unit)} (h : laidMet Tryz.prog laid W) (hm : ("hindcast/code.ops", (Rows.laid_hindcast_code_ops : DataW Unit)) ∈ laid) : OpT W := by
  obtain ⟨ps, hv, -⟩ := h
  obtain ⟨g, t, cs, fuel, p, hg, ht, hvar, hd⟩ := laid_mem (n := "hindcast/code.ops") (d := Rows.laid_hindcast_code_ops) hv hm
  obtain rfl := Option.some.inj ((show Tryz.prog.globalNamed "hindcast/code.ops" = some 0 by kernel_rfl).symm.trans hg)
  obtain rfl := Option.some.inj ((show (Tryz.prog.globals[0]?).map (·.type) = some 130 by kernel_rfl).symm.trans ht)
  rw [ops_data] at hd
  obtain ⟨xs, m, -, ex, -, hl, hel⟩ := DataW.trod_array Tryz.underlying130 hd
  have e1 := DataW.agg.inj (Prod.mk.inj ex).1
  intro j hj
  have hj35 : j < 35 := hj
  have hxj : j < xs.length := by omega
  have h0 := hel j (by omega)
  rw [cc_opty, List.getElem?_eq_getElem hxj] at h0
  have e2 : (opsL.map fun r => (DataW.agg [.lit (.string r.1), .lit (.int .i64 r.2.1), .lit (.int .i64 r.2.2.1), .lit (.int .i64 r.2.2.2)] : DataW Unit))[j]? = (xs.map (·.1))[j]? := by rw [e1]
  rw [List.getElem?_map, List.getElem?_map, List.getElem?_eq_getElem hj, List.getElem?_eq_getElem hxj] at e2
  simp only [Option.map_some, Option.some.injEq] at e2
  obtain ⟨xd, xp, hxe⟩ : ∃ xd xp, xs[j] = (xd, xp) := ⟨_, _, rfl⟩
  rw [hxe] at h0 e2
  simp only at e2
  rw [← e2] at h0
  obtain ⟨q0, q1, q2, q3⟩ := op_laid h0
  simp only [List.getElem?_take, List.getElem?_drop] at q0 q1 q2 q3
  rw [World.var?_cell hg hvar (j * 4), World.var?_cell hg hvar (j * 4 + 1), World.var?_cell hg hvar (j * 4 + 2), World.var?_cell hg hvar (j * 4 + 3)]
  refine ⟨?_, ?_, ?_, ?_⟩
  · simpa using q0
  · simpa using q1
  · simpa using q2
  · simpa using q3
end Go.Proofs.YtechkkphbajmoaaGreatDoor
