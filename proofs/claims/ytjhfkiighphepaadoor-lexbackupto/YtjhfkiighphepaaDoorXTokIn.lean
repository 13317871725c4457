/- A token that came in. -/
import Derived.Test.YtjhfkiighphepaaDoorXTabs
import Derived.Test.YtjhfkiighphepaaDoorXText2
import Derived.Lib.LaidTab
import Derived.Test.YtjhfkiighphepaaDoorLRow
import Derived.ChangeSame
import Derived.Deep.DeepHandedRow
namespace Go.Proofs.YtjhfkiighphepaaDoor
open Go.ChangeShapes Go.WideShapes Go.ChangeAt Go.RowKit

set_option maxRecDepth 100000 in
theorem cells_u64 : Tryd.prog.cellsOf 80 = 1 := by kernel_rfl
set_option maxRecDepth 100000 in
theorem cells_pow : Tryd.prog.cellsOf 95 = 20 := by kernel_rfl
theorem pow_data : (Rows.laid_internal_strconv_uint64pow10 : DataW Unit) = Lib.tabData .u64 Lib.pow10Tab := rfl

theorem tabsP_laid {W : World} {laid : List (String × DataW Unit)} (h : laidMet Tryd.prog laid W) (hm : ∀ x ∈ laidX, x ∈ laid) : TabsP W := by
  refine ⟨tabs_laid h hm, ?_⟩
  obtain ⟨ps, hv, -⟩ := h
  obtain ⟨g, t, cs, fuel, p, hg, ht, hvar, hd⟩ := laid_mem (n := "internal/strconv.uint64pow10") (d := Rows.laid_internal_strconv_uint64pow10) hv (hm _ (by unfold laidX; simp))
  obtain rfl := Option.some.inj ((show Tryd.prog.globalNamed "internal/strconv.uint64pow10" = some 4 by kernel_rfl).symm.trans hg)
  obtain rfl := Option.some.inj ((show (Tryd.prog.globals[4]?).map (·.type) = some 95 by kernel_rfl).symm.trans ht)
  rw [pow_data] at hd
  unfold Lib.TabIs
  rw [hvar, ← Lib.cells_of_tab Tryd.underlying95 Tryd.underlying80 cells_u64 cells_pow hd]

set_option maxRecDepth 100000 in
theorem tok_fields : ∃ f0 f1 f2 f3 f4 : Field, Tryd.prog.underlying 33 = some (.struct #[f0, f1, f2, f3, f4]) ∧ (f0.type = 31 ∧ f1.type = 9 ∧ f2.type = 3 ∧ f3.type = 3 ∧ f4.type = 3) ∧ (f0.offset = 0 ∧ f1.offset = 1 ∧ f2.offset = 2 ∧ f3.offset = 3 ∧ f4.offset = 4) :=
  ⟨_, _, _, _, _, Tryd.underlying33, ⟨rfl, rfl, rfl, rfl, rfl⟩, ⟨rfl, rfl, rfl, rfl, rfl⟩⟩
set_option maxRecDepth 100000 in
theorem cells_int : Tryd.prog.cellsOf 3 = 1 := by kernel_rfl
set_option maxRecDepth 100000 in
theorem cells_kind : Tryd.prog.cellsOf 31 = 1 := by kernel_rfl
set_option maxRecDepth 100000 in
theorem cells_tok : Tryd.prog.cellsOf 33 = 5 := by kernel_rfl

theorem one_of {v : Value} {cs : List Value} {i : Nat} (h : (cs.drop i).take 1 = [v]) : cs[i]? = some v := by
  have := congrArg (fun l => l[0]?) h
  simpa [List.getElem?_take, List.getElem?_drop] using this

set_option maxRecDepth 100000 in
/-- The cells of a token that can be read. -/
theorem tok_open {H : Type} {enc : TypeId × Value → H} {w : World} {base fuel : Nat} {sp : Nat → Bool} {held : Bool} {cs : List Value} {x : DataW H × List MemPlace}
    (h : DataW.trod enc Tryd.prog w base sp held fuel 33 cs = some x) :
    ∃ (k n a b : Int) (s : List UInt8), cs = [.int .i64 k, .string (strB s), .int .i64 n, .int .i64 a, .int .i64 b] ∧ (-9223372036854775808 ≤ n ∧ n ≤ 9223372036854775807) ∧ x.1 = .agg [.lit (.int .i64 k), .lit (.string s), .lit (.int .i64 n), .lit (.int .i64 a), .lit (.int .i64 b)] := by
  obtain ⟨f0, f1, f2, f3, f4, hu, ⟨t0, t1, t2, t3, t4⟩, ⟨o0, o1, o2, o3, o4⟩⟩ := tok_fields
  obtain ⟨xs, m, -, rfl, hlc, hl, hel⟩ := DataW.trod_struct hu h
  have h0 := hel 0 f0 rfl
  have h1 := hel 1 f1 rfl
  have h2 := hel 2 f2 rfl
  have h3 := hel 3 f3 rfl
  have h4 := hel 4 f4 rfl
  rw [t0, o0, cells_kind] at h0
  rw [t1, o1, cells_str] at h1
  rw [t2, o2, cells_int] at h2
  rw [t3, o3, cells_int] at h3
  rw [t4, o4, cells_int] at h4
  rw [cells_tok] at hlc
  match xs, hl with
  | [x0, x1, x2, x3, x4], _ =>
    obtain ⟨k, a0, b0, -⟩ := DataW.trod_int Tryd.underlying31 h0
    obtain ⟨s, a1, b1, -⟩ := DataW.trod_string Tryd.underlying9 h1
    obtain ⟨n, a2, b2, c2⟩ := DataW.trod_int Tryd.underlying3 h2
    obtain ⟨a, a3, b3, -⟩ := DataW.trod_int Tryd.underlying3 h3
    obtain ⟨b, a4, b4, -⟩ := DataW.trod_int Tryd.underlying3 h4
    have q0 := one_of a0
    have q1 := one_of a1
    have q2 := one_of a2
    have q3 := one_of a3
    have q4 := one_of a4
    match cs, hlc with
    | [v0, v1, v2, v3, v4], _ =>
      simp only [List.getElem?_cons_zero, List.getElem?_cons_succ, Option.some.injEq] at q0 q1 q2 q3 q4
      refine ⟨k, n, a, b, s.data.toList, ?_, ?_, ?_⟩
      · rw [q0, q1, q2, q3, q4, strB_of]
      · exact wf_i64 c2
      · simp [b0, b1, b2, b3, b4]
end Go.Proofs.YtjhfkiighphepaaDoor
