/- The tables, out of what the row says of them. -/
import Derived.Test.YtbdgniiafdjmiaaGreatDoorMX
import Derived.Test.YtbdgniiafdjmiaaGreatDoorRows
import Derived.OpenShut
import Derived.LaidLaws
import Derived.Lay
import Derived.LaidOnce
namespace Go.Proofs.YtbdgniiafdjmiaaGreatDoor
open Go.ChangeShapes Go.WideShapes Go.RowKit

theorem strB_of (a : ByteArray) : strB a.data.toList = a := by
  apply ByteArray.ext
  unfold strB
  simp

theorem laid_mem {P : Program} {w : World} {n : String} {d : DataW Unit} : ∀ {laid : List (String × DataW Unit)} {ps : List MemPlace}, DataW.LaidVars P w laid ps → (n, d) ∈ laid →
    ∃ g t cs fuel p, P.globalNamed n = some g ∧ (P.globals[g]?).map (·.type) = some t ∧ w.var? P n = some cs ∧ DataW.trod (fun _ => ()) P w 0 (fun _ => true) false fuel t cs.toList = some (d, p)
  | [], _, _, h => by cases h
  | (_, _) :: _, _, ⟨g, t, cs, fuel, p, _, hg, ht, hv, hd, hr, _⟩, h => by
    rcases List.mem_cons.1 h with e | e
    · cases e; exact ⟨g, t, cs, fuel, p, hg, ht, hv, hd⟩
    · exact laid_mem hr e

theorem strs_laid {P : Program} {w : World} {nm : String} {g n : Nat} {t e : TypeId} {ls : List (List UInt8)} {cs : Array Value} {fuel : Nat} {p : List MemPlace}
    (hu : P.underlying t = some (.array n e)) (hs : P.underlying e = some .string) (hc : P.cellsOf e = 1) (hn : n = ls.length) (hg : P.globalNamed nm = some g) (hv : w.var? P nm = some cs)
    (hd : DataW.trod (fun _ => ()) P w 0 (fun _ => true) false fuel t cs.toList = some (.agg (ls.map fun l => .lit (.string l)), p)) :
    ∀ j (h : j < ls.length), w.cell? ⟨g, j, none⟩ = some (.string (strB ls[j])) := by
  intro j h
  obtain ⟨xs, m, -, ex, -, hl, hel⟩ := DataW.trod_array hu hd
  have e1 := DataW.agg.inj (Prod.mk.inj ex).1
  have hj := hel j (by omega)
  rw [hc, Nat.mul_one] at hj
  have hxj : j < xs.length := by omega
  rw [List.getElem?_eq_getElem hxj] at hj
  obtain ⟨s, hs1, hs2, -⟩ := DataW.trod_string hs hj
  have e2 : (ls.map fun l => (DataW.lit (.string l) : DataW Unit))[j]? = (xs.map (·.1))[j]? := by rw [e1]
  rw [List.getElem?_map, List.getElem?_map, List.getElem?_eq_getElem h, List.getElem?_eq_getElem hxj, hs2] at e2
  simp only [Option.map_some, Option.some.injEq, DataW.lit.injEq, Lit.string.injEq] at e2
  have e3 : s = strB ls[j] := by
    apply ByteArray.ext
    rw [e2]
  rw [World.var?_cell hg hv j, ← e3]
  have e4 : (cs.toList.drop j)[0]? = some (.string s) := by
    have := congrArg (fun l => l[0]?) hs1
    simpa [List.getElem?_take] using this
  rw [List.getElem?_drop] at e4
  simpa using e4

set_option maxRecDepth 100000 in
theorem pair_fields : ∃ f0 f1 : Field, Tryz.prog.underlying 184 = some (.struct #[f0, f1]) ∧ f0.type = 5 ∧ f1.type = 5 ∧ f0.offset = 0 ∧ f1.offset = 1 := ⟨_, _, Tryz.underlying184, rfl, rfl, rfl, rfl⟩
set_option maxRecDepth 100000 in
theorem cells_u8 : Tryz.prog.cellsOf 5 = 1 := by kernel_rfl
set_option maxRecDepth 100000 in
theorem cells_pair : Tryz.prog.cellsOf 184 = 2 := by kernel_rfl
set_option maxRecDepth 100000 in
theorem cells_str : Tryz.prog.cellsOf 9 = 1 := by kernel_rfl

theorem pair_laid {w : World} {m : Nat} {cs : List Value} {a b : Int} {p : List MemPlace}
    (h : DataW.trod (fun _ => ()) Tryz.prog w 0 (fun _ => true) false m 184 cs = some (.agg [.lit (.int .u8 a), .lit (.int .u8 b)], p)) : cs[0]? = some (.int .u8 a) ∧ cs[1]? = some (.int .u8 b) := by
  obtain ⟨f0, f1, hu, t0, t1, o0, o1⟩ := pair_fields
  obtain ⟨xs, n, -, ex, -, hl, hel⟩ := DataW.trod_struct hu h
  have e1 := DataW.agg.inj (Prod.mk.inj ex).1
  have h0 := hel 0 f0 rfl
  have h1 := hel 1 f1 rfl
  rw [t0, o0, cells_u8] at h0
  rw [t1, o1, cells_u8] at h1
  match xs, hl with
  | [x0, x1], _ =>
    simp only [List.map_cons, List.map_nil, List.cons.injEq, and_true] at e1
    obtain ⟨z0, a0, b0, -⟩ := DataW.trod_int Tryz.underlying5 h0
    obtain ⟨z1, a1, b1, -⟩ := DataW.trod_int Tryz.underlying5 h1
    rw [b0, b1] at e1
    simp only [DataW.lit.injEq, Lit.int.injEq, true_and] at e1
    obtain ⟨rfl, rfl⟩ := e1
    have q0 := congrArg (fun l => l[0]?) a0
    have q1 := congrArg (fun l => l[0]?) a1
    simp only [List.getElem?_take, List.getElem?_drop] at q0 q1
    exact ⟨by simpa using q0, by simpa using q1⟩

/-- What a row lists of lex's tables. -/
def laidX : List (String × DataW Unit) := [("hindcast/lex.words", Rows.laid_hindcast_lex_words), ("hindcast/lex.signs", Rows.laid_hindcast_lex_signs), ("hindcast/lex.escapes", Rows.laid_hindcast_lex_escapes), ("strconv.ErrRange", Rows.laid_strconv_ErrRange), ("internal/strconv.uint64pow10", Rows.laid_internal_strconv_uint64pow10)]

set_option maxRecDepth 100000 in
theorem tabs_laid {W : World} {laid : List (String × DataW Unit)} (h : laidMet Tryz.prog laid W) (hm : ∀ x ∈ laidX, x ∈ laid) : Tabs W := by
  obtain ⟨ps, hv, -⟩ := h
  refine ⟨?_, ?_, ?_, ?_⟩
  · obtain ⟨g, t, cs, fuel, p, hg, ht, hvar, hd⟩ := laid_mem (n := "hindcast/lex.words") (d := Rows.laid_hindcast_lex_words) hv (hm _ (by unfold laidX; simp))
    obtain rfl := Option.some.inj ((show Tryz.prog.globalNamed "hindcast/lex.words" = some 2 by kernel_rfl).symm.trans hg)
    obtain rfl := Option.some.inj ((show (Tryz.prog.globals[2]?).map (·.type) = some 186 by kernel_rfl).symm.trans ht)
    exact strs_laid (ls := wordsL) Tryz.underlying186 Tryz.underlying9 cells_str rfl hg hvar hd
  · obtain ⟨g, t, cs, fuel, p, hg, ht, hvar, hd⟩ := laid_mem (n := "hindcast/lex.signs") (d := Rows.laid_hindcast_lex_signs) hv (hm _ (by unfold laidX; simp))
    obtain rfl := Option.some.inj ((show Tryz.prog.globalNamed "hindcast/lex.signs" = some 0 by kernel_rfl).symm.trans hg)
    obtain rfl := Option.some.inj ((show (Tryz.prog.globals[0]?).map (·.type) = some 181 by kernel_rfl).symm.trans ht)
    exact strs_laid (ls := signsL) Tryz.underlying181 Tryz.underlying9 cells_str rfl hg hvar hd
  · obtain ⟨g, t, cs, fuel, p, hg, ht, hvar, hd⟩ := laid_mem (n := "hindcast/lex.escapes") (d := Rows.laid_hindcast_lex_escapes) hv (hm _ (by unfold laidX; simp))
    obtain rfl := Option.some.inj ((show Tryz.prog.globalNamed "hindcast/lex.escapes" = some 1 by kernel_rfl).symm.trans hg)
    obtain rfl := Option.some.inj ((show (Tryz.prog.globals[1]?).map (·.type) = some 185 by kernel_rfl).symm.trans ht)
    obtain ⟨xs, m, -, ex, -, hl, hel⟩ := DataW.trod_array Tryz.underlying185 hd
    have e1 := DataW.agg.inj (Prod.mk.inj ex).1
    have h0 := hel 0 (by omega)
    have h1 := hel 1 (by omega)
    have h2 := hel 2 (by omega)
    rw [cells_pair] at h0 h1 h2
    match xs, hl with
    | [(_, p0), (_, p1), (_, p2)], _ =>
      simp only [List.map_cons, List.map_nil, List.cons.injEq, and_true] at e1
      obtain ⟨rfl, rfl, rfl⟩ := e1
      obtain ⟨q0, q1⟩ := pair_laid h0
      obtain ⟨q2, q3⟩ := pair_laid h1
      obtain ⟨q4, q5⟩ := pair_laid h2
      simp only [List.getElem?_take, List.getElem?_drop] at q0 q1 q2 q3 q4 q5
      intro j hj
      rw [World.var?_cell hg hvar j]
      have hc : j = 0 ∨ j = 1 ∨ j = 2 ∨ j = 3 ∨ j = 4 ∨ j = 5 := by omega
      rcases hc with rfl | rfl | rfl | rfl | rfl | rfl
      · simpa using q0
      · simpa using q1
      · simpa using q2
      · simpa using q3
      · simpa using q4
      · simpa using q5
  · obtain ⟨g, t, cs, fuel, p, hg, ht, hvar, hd⟩ := laid_mem (n := "strconv.ErrRange") (d := Rows.laid_strconv_ErrRange) hv (hm _ (by unfold laidX; simp))
    obtain rfl := Option.some.inj ((show Tryz.prog.globalNamed "strconv.ErrRange" = some 5 by kernel_rfl).symm.trans hg)
    obtain rfl := Option.some.inj ((show (Tryz.prog.globals[5]?).map (·.type) = some 176 by kernel_rfl).symm.trans ht)
    obtain ⟨fuel', u, v, hcs, -⟩ := iface_of_trod Tryz.underlying176 hd
    refine ⟨u, v, ?_⟩
    rw [World.var?_cell hg hvar 0]
    have := congrArg (fun l => l[0]?) hcs
    simpa using this
end Go.Proofs.YtbdgniiafdjmiaaGreatDoor
