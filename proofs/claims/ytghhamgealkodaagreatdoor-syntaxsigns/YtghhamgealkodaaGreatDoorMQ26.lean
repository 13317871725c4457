import Derived.Test.YtghhamgealkodaaGreatDoorMQ23
import Derived.Test.YtghhamgealkodaaGreatDoorMQ25
import Derived.Test.YtghhamgealkodaaGreatDoorMQ4
import Derived.Test.YtghhamgealkodaaGreatDoorRows
import Derived.OpenShut
import Derived.LaidLaws
import Derived.Lay
import Derived.LaidOnce
import Derived.Lib.LaidTab
import Derived.LaidHandle
import Derived.Test.YtghhamgealkodaaGreatDoorMQ5
import Derived.BigQuiet
import Derived.Test.YtghhamgealkodaaGreatDoorMQ16
import Derived.Test.YtghhamgealkodaaGreatDoorMQ0
import Derived.ProofKit
import Derived.ShutString
import Derived.ChangeOld
import Derived.Below
/- syntax: the document's examples. -/
namespace Go.Proofs.YtghhamgealkodaaGreatDoor
open Go.RowKit Go.Shelf

/-- The tables that syntax reads are laid. -/
def SynT (w : World) : Prop := TabsP w ∧ LevT w ∧ ErrT w
theorem SynT.below {w w' : World} (h : SynT w) (hb : Below w.heap.size w w') : SynT w' := by
  refine ⟨h.1.below hb (Nat.le_refl _), h.2.1.env hb, ?_⟩
  have := h.2.2
  unfold ErrT at this ⊢
  rw [hb.cell (World.block_lt_of_cell? w _ this)]
  exact this

set_option maxRecDepth 100000 in
set_option maxHeartbeats 4000000 in
theorem is_yes (l want : List UInt8) (y : Ex) (hl : l.length ≤ 4096) (hx : exprC 60 l = (y, 0, 0)) (hok : okE y = true) (hp : prR (prE 24 (exz y)) = (want, 0)) (w : World) (hS : SynT w) :
    Calls Tryz.prog 35 #[.string (strB l), .string (strB want)] w fun e w' => e = .returned (.bool true) ∧ Below w.heap.size w w' := by
  have cx := exprX l w hS.1.1 hS.2.1 hS.2.2
  have HS : Hid (SynT w) := hS
  clear hS
  go_enter Tryz.func35, Tryz.ntmps35
  go_wp2_with fail
  refine cx.mono ?_
  clear cx
  rintro e w1 ⟨x, at0, err, v, rfl, hI, hx1, hb1⟩
  have e1 := isExpr_C 60 hl hI (by rw [hx]; simp)
  rw [hx] at e1
  simp only [Prod.mk.injEq] at e1
  obtain ⟨rfl, rfl, rfl⟩ := e1
  obtain ⟨a, b, c, d0, d1, d2, k, rfl⟩ := hx1.agg
  obtain ⟨w2, hw2⟩ : ∃ w2, w2 = w1.alloc (.cells #[.int .i64 a, .string b, .int .i64 c, .slice d0 d1 d2, .int .i64 k] 40) := ⟨_, rfl⟩
  have hb2 : Below w1.heap.size w1 w2 := by rw [hw2]; exact (Below.refl _ w1).alloc (Nat.le_refl _) _
  have p2 : w2.heap[w1.heap.size]? = some (.cells #[.int .i64 a, .string b, .int .i64 c, .slice d0 d1 d2, .int .i64 k] 40 (0, 0)) := by rw [hw2]; exact World.alloc_heap_new w1 _
  have hbw : Below w.heap.size w w2 := below_via' hb1 hb2
  have hS2 : SynT w2 := HS.out.below hbw
  have hez : EzIn w2.heap.size w2 (exz y) (.agg #[.int .i64 a, .string b, .int .i64 c, .slice d0 d1 d2, .int .i64 k]) := (hx1.kept hb2.size fun j _ hj => hb2.block j hj).ez (fun _ _ h => h) hok
  have cp := printExpr_any (exz y) _ w2 hez hS2.1 hS2.2.1 hS2.2.2
  rw [hp] at cp
  have c0 : w2.cell? ⟨w1.heap.size, 0, none⟩ = some (.int .i64 a) := by simp only [World.cell?, p2]; rfl
  have c1 : w2.cell? ⟨w1.heap.size, 1, none⟩ = some (.string b) := by simp only [World.cell?, p2]; rfl
  have c2 : w2.cell? ⟨w1.heap.size, 2, none⟩ = some (.int .i64 c) := by simp only [World.cell?, p2]; rfl
  have c3 : w2.cell? ⟨w1.heap.size, 3, none⟩ = some (.slice d0 d1 d2) := by simp only [World.cell?, p2]; rfl
  have c4 : w2.cell? ⟨w1.heap.size, 4, none⟩ = some (.int .i64 k) := by simp only [World.cell?, p2]; rfl
  have HB2 : Hid (Below w.heap.size w w2) := hbw
  have hw2' := hw2.symm
  simp only at cp
  clear hI hx1 hb1 hw2 hb2 p2 hbw hS2 hez HS hx hok hp
  go_wp2_with fail
  refine cp.mono ?_
  clear cp c0 c1 c2 c3 c4
  rintro e w3 ⟨rfl, hb3⟩
  have HB3 : Hid (Below w.heap.size w w3) := below_via' HB2.out hb3
  clear hb3 HB2
  go_wp2
  exact bodyPost_ret (v := .bool true) (by simp [results, Tryz.results35, go_sem]) rfl ⟨rfl, HB3.out⟩

/-- What the parts of lives answer. -/
theorem liveE (w : World) (hS : SynT w) : Calls Tryz.prog 14 #[.string ⟨#[49, 43]⟩] w fun e w' => ∃ (a : Int) (b : ByteArray) (c : Int) (d0 : Option Addr) (d1 d2 : Nat) (k : Int), e = .returned (.tuple #[.agg #[.int .i64 a, .string b, .int .i64 c, .slice d0 d1 d2, .int .i64 k], .int .i64 2, .int .i64 6]) ∧ Below w.heap.size w w' :=
  (exprX txE w hS.1.1 hS.2.1 hS.2.2).mono fun e w' ⟨x, at0, err, v, he, hI, hx, hb⟩ => by
    have e1 := isExpr_C 60 (by decide) hI (by rw [cxE]; simp)
    rw [cxE] at e1
    simp only [Prod.mk.injEq] at e1
    obtain ⟨rfl, rfl, rfl⟩ := e1
    obtain ⟨a, b, c, d0, d1, d2, k, rfl⟩ := hx.agg
    exact ⟨a, b, c, d0, d1, d2, k, he, hb⟩
theorem liveF (w : World) (hS : SynT w) : Calls Tryz.prog 8 #[.string ⟨#[102, 110, 32, 102, 40, 41, 123, 49, 61, 50, 59, 125]⟩] w fun e w' => ∃ (s0 : Option Addr) (s1 s2 : Nat) (d0 : Option Addr) (d1 d2 : Nat), e = .returned (.tuple #[.agg #[.slice s0 s1 s2, .slice d0 d1 d2], .int .i64 8, .int .i64 6]) ∧ Below w.heap.size w w' :=
  (parseX txF w hS.1.1 hS.2.1 hS.2.2).mono fun e w' ⟨x, at0, err, v, he, hI, hx, hb⟩ => by
    have e1 := isProg_C 60 (by decide) hI (by rw [cxF]; simp)
    rw [cxF] at e1
    simp only [Prod.mk.injEq] at e1
    obtain ⟨rfl, rfl, rfl⟩ := e1
    obtain ⟨s0, s1, s2, d0, d1, d2, rfl⟩ := hx.agg
    exact ⟨s0, s1, s2, d0, d1, d2, he, hb⟩
def pgP : Pg := (progC 60 txP).1
theorem liveP (w : World) (hS : SynT w) : Calls Tryz.prog 8 #[.string ⟨#[114, 101, 99, 111, 114, 100, 32, 80, 123, 120, 58, 105, 110, 116, 125, 10, 102, 110, 32, 102, 40, 97, 58, 91, 105, 110, 116, 93, 41, 58, 105, 110, 116, 123, 114, 101, 116, 117, 114, 110, 32, 97, 91, 48, 93, 59, 125]⟩] w fun e w' => ∃ (s0 : Option Addr) (s1 s2 : Nat) (d0 : Option Addr) (d1 d2 : Nat), e = .returned (.tuple #[.agg #[.slice s0 s1 s2, .slice d0 d1 d2], .int .i64 0, .int .i64 0]) ∧ PgAt w.heap.size w' pgP (.agg #[.slice s0 s1 s2, .slice d0 d1 d2]) ∧ Below w.heap.size w w' :=
  (parseX txP w hS.1.1 hS.2.1 hS.2.2).mono fun e w' ⟨x, at0, err, v, he, hI, hx, hb⟩ => by
    have e1 := isProg_C 60 (by decide) hI (by rw [cxP.1]; simp)
    rw [cxP.1] at e1
    simp only [Prod.mk.injEq] at e1
    obtain ⟨rfl, rfl, rfl⟩ := e1
    obtain ⟨s0, s1, s2, d0, d1, d2, rfl⟩ := hx.agg
    exact ⟨s0, s1, s2, d0, d1, d2, he, hx, hb⟩

set_option maxRecDepth 100000 in
set_option maxHeartbeats 8000000 in
theorem lives04_any (w : World) (hS : SynT w) :
    Calls Tryz.prog 13 #[] w fun e w' => e = .returned (.bool true) ∧ Below w.heap.size w w' := by
  have HS : Hid (SynT w) := hS
  have c1 := liveE w hS
  clear hS
  go_enter Tryz.func13, Tryz.ntmps13
  go_wp2_with fail
  refine c1.mono ?_
  clear c1
  rintro e w1 ⟨a, b, c, d0, d1, d2, k, rfl, hb1⟩
  obtain ⟨w2, hw2⟩ : ∃ w2, w2 = w1.alloc (.cells #[.int .i64 a, .string b, .int .i64 c, .slice d0 d1 d2, .int .i64 k] 40) := ⟨_, rfl⟩
  have hb2 : Below w.heap.size w w2 := by rw [hw2]; exact hb1.alloc hb1.size _
  have HB2 : Hid (Below w.heap.size w w2) := hb2
  have c2 := liveF w2 (HS.out.below hb2)
  have hw2' := hw2.symm
  clear hw2 hb1 hb2
  go_wp2_with fail
  refine c2.mono ?_
  clear c2
  rintro e w3 ⟨s0, s1, s2, e0, e1, e2, rfl, hb3⟩
  have hb3' := below_via' HB2.out hb3
  obtain ⟨w4, hw4⟩ : ∃ w4, w4 = w3.alloc (.cells #[.slice s0 s1 s2, .slice e0 e1 e2] 25) := ⟨_, rfl⟩
  have hb4 : Below w.heap.size w w4 := by rw [hw4]; exact hb3'.alloc hb3'.size _
  have HB4 : Hid (Below w.heap.size w w4) := hb4
  have c4 := liveP w4 (HS.out.below hb4)
  have hw4' := hw4.symm
  clear hw4 hb3 hb3' hb4 HB2
  go_wp2_with fail
  refine c4.mono ?_
  clear c4
  rintro e w5 ⟨p0, p1, p2, f0, f1, f2, rfl, hx5, hb5⟩
  have hb5' := below_via' HB4.out hb5
  obtain ⟨w6, hw6⟩ : ∃ w6, w6 = w5.alloc (.cells #[.slice p0 p1 p2, .slice f0 f1 f2] 25) := ⟨_, rfl⟩
  have hb56 : Below w5.heap.size w5 w6 := by rw [hw6]; exact (Below.refl _ w5).alloc (Nat.le_refl _) _
  have q6 : w6.heap[w5.heap.size]? = some (pzO p0 p1 p2 f0 f1 f2) := by rw [hw6]; exact World.alloc_heap_new w5 _
  have hb6 : Below w.heap.size w w6 := below_via' hb5' hb56
  have HB6 : Hid (Below w.heap.size w w6) := hb6
  have hS6 := HS.out.below hb6
  have hpz : PzIn w6.heap.size w6 (hiPg pgP) (pgz pgP) (.agg #[.slice p0 p1 p2, .slice f0 f1 f2]) := PgIn.pz (PgIn.kept hx5 hb56.size fun j _ hj => hb56.block j hj) (fun _ _ h => h) cxP.2
  have c6 := print_any _ _ _ w6 hpz hS6.1 hS6.2.1 hS6.2.2
  have hp : prR (prgO (pgz pgP)) = (tyP, 0) := cpP
  rw [hp] at c6
  simp only at c6
  obtain ⟨y0, y1⟩ := cellsP2 q6
  have hw6' := hw6.symm
  clear hw6 hx5 hb5 hb5' hb56 q6 hb6 hS6 hpz hp HB4
  go_wp2_with fail
  refine c6.mono ?_
  clear c6 y0 y1
  rintro e w7 ⟨rfl, hb7⟩
  have HB7 : Hid (Below w.heap.size w w7) := below_via' HB6.out hb7
  clear hb7 HB6
  have c7 : Calls Tryz.prog 35 #[.string ⟨#[49, 45, 40, 50, 45, 51, 41]⟩, .string ⟨#[49, 32, 45, 32, 40, 50, 32, 45, 32, 51, 41]⟩] w7 fun e w' => e = .returned (.bool true) ∧ Below w7.heap.size w7 w' := is_yes tx1 ty1 _ (by decide) cx1.1 cx1.2 cp1 w7 (HS.out.below HB7.out)
  go_wp2_with fail
  refine c7.mono ?_
  clear c7
  rintro e w8 ⟨rfl, hb8⟩
  have HB8 : Hid (Below w.heap.size w w8) := below_via' HB7.out hb8
  clear hb8 HB7
  have c8 : Calls Tryz.prog 35 #[.string ⟨#[40, 49, 45, 50, 41, 45, 51]⟩, .string ⟨#[49, 32, 45, 32, 50, 32, 45, 32, 51]⟩] w8 fun e w' => e = .returned (.bool true) ∧ Below w8.heap.size w8 w' := is_yes tx2 ty2 _ (by decide) cx2.1 cx2.2 cp2 w8 (HS.out.below HB8.out)
  go_wp2_with fail
  refine c8.mono ?_
  clear c8
  rintro e w9 ⟨rfl, hb9⟩
  have HB9 : Hid (Below w.heap.size w w9) := below_via' HB8.out hb9
  clear hb9 HB8
  have c9 : Calls Tryz.prog 35 #[.string ⟨#[45, 97, 46, 98, 91, 48, 93]⟩, .string ⟨#[45, 97, 46, 98, 91, 48, 93]⟩] w9 fun e w' => e = .returned (.bool true) ∧ Below w9.heap.size w9 w' := is_yes tx3 tx3 _ (by decide) cx3.1 cx3.2 cp3 w9 (HS.out.below HB9.out)
  go_wp2_with fail
  refine c9.mono ?_
  clear c9
  rintro e w10 ⟨rfl, hb10⟩
  have HB10 : Hid (Below w.heap.size w w10) := below_via' HB9.out hb10
  clear hb10 HB9
  have c10 : Calls Tryz.prog 35 #[.string ⟨#[40, 45, 97, 41, 46, 98]⟩, .string ⟨#[40, 45, 97, 41, 46, 98]⟩] w10 fun e w' => e = .returned (.bool true) ∧ Below w10.heap.size w10 w' := is_yes tx4 tx4 _ (by decide) cx4.1 cx4.2 cp4 w10 (HS.out.below HB10.out)
  go_wp2_with fail
  refine c10.mono ?_
  clear c10
  rintro e w11 ⟨rfl, hb11⟩
  have HB11 : Hid (Below w.heap.size w w11) := below_via' HB10.out hb11
  clear hb11 HB10
  have c11 : Calls Tryz.prog 35 #[.string ⟨#[33, 40, 120, 38, 38, 121, 41]⟩, .string ⟨#[33, 40, 120, 32, 38, 38, 32, 121, 41]⟩] w11 fun e w' => e = .returned (.bool true) ∧ Below w11.heap.size w11 w' := is_yes tx5 ty5 _ (by decide) cx5.1 cx5.2 cp5 w11 (HS.out.below HB11.out)
  go_wp2_with fail
  refine c11.mono ?_
  clear c11
  rintro e w12 ⟨rfl, hb12⟩
  have HB12 : Hid (Below w.heap.size w w12) := below_via' HB11.out hb12
  clear hb12 HB11 HS
  have heq : strB tyP = ⟨#[114, 101, 99, 111, 114, 100, 32, 80, 32, 123, 32, 120, 58, 32, 105, 110, 116, 32, 125, 10, 102, 110, 32, 102, 40, 97, 58, 32, 91, 105, 110, 116, 93, 41, 58, 32, 105, 110, 116, 32, 123, 10, 114, 101, 116, 117, 114, 110, 32, 97, 91, 48, 93, 59, 10, 125, 10]⟩ := rfl
  rw [heq]
  clear heq
  go_wp2
  exact bodyPost_ret (v := .bool true) (by simp [results, Tryz.results13, go_sem]) rfl ⟨rfl, HB12.out⟩
end Go.Proofs.YtghhamgealkodaaGreatDoor
/- The tables, out of what the row says of them. -/
namespace Go.Proofs.YtghhamgealkodaaGreatDoor
open Go.ChangeShapes Go.WideShapes Go.RowKit

theorem strB_of (a : ByteArray) : strB a.data.toList = a := by
  apply ByteArray.ext
  unfold strB
  simp

theorem laid_mem {P : Program} {w : World} {n : String} {d : DataW Unit} : ∀ {laid : List (String × DataW Unit)} {ps : List MemPlace}, DataW.LaidVars P w laid ps → (n, d) ∈ laid →
    ∃ g t cs fuel p, P.globalNamed n = some g ∧ (P.globals[g]?).map (·.type) = some t ∧ w.var? P n = some cs ∧ DataW.trod (fun _ => ()) P w 0 (fun _ => true) false fuel t cs.toList = some (d, p)
  | [], _, _, h => by cases h
  | (_, _) :: _, _, ⟨g, t, cs, fuel, p, _, hg, ht, hv, hd, hr, _⟩, h => by
    rcases List.mem_cons.1 h with e | e
    · cases e; exact ⟨g, t, cs, fuel, p, hg, ht, hv, hd⟩
    · exact laid_mem hr e

theorem strs_laid {P : Program} {w : World} {nm : String} {g n : Nat} {t e : TypeId} {ls : List (List UInt8)} {cs : Array Value} {fuel : Nat} {p : List MemPlace}
    (hu : P.underlying t = some (.array n e)) (hs : P.underlying e = some .string) (hc : P.cellsOf e = 1) (hn : n = ls.length) (hg : P.globalNamed nm = some g) (hv : w.var? P nm = some cs)
    (hd : DataW.trod (fun _ => ()) P w 0 (fun _ => true) false fuel t cs.toList = some (.agg (ls.map fun l => .lit (.string l)), p)) :
    ∀ j (h : j < ls.length), w.cell? ⟨g, j, none⟩ = some (.string (strB ls[j])) := by
  intro j h
  obtain ⟨xs, m, -, ex, -, hl, hel⟩ := DataW.trod_array hu hd
  have e1 := DataW.agg.inj (Prod.mk.inj ex).1
  have hj := hel j (by omega)
  rw [hc, Nat.mul_one] at hj
  have hxj : j < xs.length := by omega
  rw [List.getElem?_eq_getElem hxj] at hj
  obtain ⟨s, hs1, hs2, -⟩ := DataW.trod_string hs hj
  have e2 : (ls.map fun l => (DataW.lit (.string l) : DataW Unit))[j]? = (xs.map (·.1))[j]? := by rw [e1]
  rw [List.getElem?_map, List.getElem?_map, List.getElem?_eq_getElem h, List.getElem?_eq_getElem hxj, hs2] at e2
  simp only [Option.map_some, Option.some.injEq, DataW.lit.injEq, Lit.string.injEq] at e2
  have e3 : s = strB ls[j] := by
    apply ByteArray.ext
    rw [e2]
  rw [World.var?_cell hg hv j, ← e3]
  have e4 : (cs.toList.drop j)[0]? = some (.string s) := by
    have := congrArg (fun l => l[0]?) hs1
    simpa [List.getElem?_take] using this
  rw [List.getElem?_drop] at e4
  simpa using e4

set_option maxRecDepth 100000 in
theorem pair_fields : ∃ f0 f1 : Field, Tryz.prog.underlying 231 = some (.struct #[f0, f1]) ∧ f0.type = 5 ∧ f1.type = 5 ∧ f0.offset = 0 ∧ f1.offset = 1 := ⟨_, _, Tryz.underlying231, rfl, rfl, rfl, rfl⟩
set_option maxRecDepth 100000 in
theorem cells_u8t : Tryz.prog.cellsOf 5 = 1 := by kernel_rfl
set_option maxRecDepth 100000 in
theorem cells_pair : Tryz.prog.cellsOf 231 = 2 := by kernel_rfl
set_option maxRecDepth 100000 in
theorem cells_str : Tryz.prog.cellsOf 9 = 1 := by kernel_rfl

theorem pair_laid {w : World} {m : Nat} {cs : List Value} {a b : Int} {p : List MemPlace}
    (h : DataW.trod (fun _ => ()) Tryz.prog w 0 (fun _ => true) false m 231 cs = some (.agg [.lit (.int .u8 a), .lit (.int .u8 b)], p)) : cs[0]? = some (.int .u8 a) ∧ cs[1]? = some (.int .u8 b) := by
  obtain ⟨f0, f1, hu, t0, t1, o0, o1⟩ := pair_fields
  obtain ⟨xs, n, -, ex, -, hl, hel⟩ := DataW.trod_struct hu h
  have e1 := DataW.agg.inj (Prod.mk.inj ex).1
  have h0 := hel 0 f0 rfl
  have h1 := hel 1 f1 rfl
  rw [t0, o0, cells_u8t] at h0
  rw [t1, o1, cells_u8t] at h1
  match xs, hl with
  | [x0, x1], _ =>
    simp only [List.map_cons, List.map_nil, List.cons.injEq, and_true] at e1
    obtain ⟨z0, a0, b0, -⟩ := DataW.trod_int Tryz.underlying5 h0
    obtain ⟨z1, a1, b1, -⟩ := DataW.trod_int Tryz.underlying5 h1
    rw [b0, b1] at e1
    simp only [DataW.lit.injEq, Lit.int.injEq, true_and] at e1
    obtain ⟨rfl, rfl⟩ := e1
    have q0 := congrArg (fun l => l[0]?) a0
    have q1 := congrArg (fun l => l[0]?) a1
    simp only [List.getElem?_take, List.getElem?_drop] at q0 q1
    exact ⟨by simpa using q0, by simpa using q1⟩

/-- What a row lists of lex's tables. -/
def laidX : List (String × DataW Unit) := [("hindcast/lex.words", Rows.laid_hindcast_lex_words), ("hindcast/lex.signs", Rows.laid_hindcast_lex_signs), ("hindcast/lex.escapes", Rows.laid_hindcast_lex_escapes), ("strconv.ErrRange", Rows.laid_strconv_ErrRange), ("internal/strconv.uint64pow10", Rows.laid_internal_strconv_uint64pow10)]

set_option maxRecDepth 100000 in
theorem tabs_laid {W : World} {laid : List (String × DataW Unit)} (h : laidMet Tryz.prog laid W) (hm : ∀ x ∈ laidX, x ∈ laid) : Tabs W := by
  obtain ⟨ps, hv, -⟩ := h
  refine ⟨?_, ?_, ?_, ?_⟩
  · obtain ⟨g, t, cs, fuel, p, hg, ht, hvar, hd⟩ := laid_mem (n := "hindcast/lex.words") (d := Rows.laid_hindcast_lex_words) hv (hm _ (by unfold laidX; simp))
    obtain rfl := Option.some.inj ((show Tryz.prog.globalNamed "hindcast/lex.words" = some 4 by kernel_rfl).symm.trans hg)
    obtain rfl := Option.some.inj ((show (Tryz.prog.globals[4]?).map (·.type) = some 229 by kernel_rfl).symm.trans ht)
    exact strs_laid (ls := wordsL) Tryz.underlying229 Tryz.underlying9 cells_str rfl hg hvar hd
  · obtain ⟨g, t, cs, fuel, p, hg, ht, hvar, hd⟩ := laid_mem (n := "hindcast/lex.signs") (d := Rows.laid_hindcast_lex_signs) hv (hm _ (by unfold laidX; simp))
    obtain rfl := Option.some.inj ((show Tryz.prog.globalNamed "hindcast/lex.signs" = some 3 by kernel_rfl).symm.trans hg)
    obtain rfl := Option.some.inj ((show (Tryz.prog.globals[3]?).map (·.type) = some 219 by kernel_rfl).symm.trans ht)
    exact strs_laid (ls := signsL) Tryz.underlying219 Tryz.underlying9 cells_str rfl hg hvar hd
  · obtain ⟨g, t, cs, fuel, p, hg, ht, hvar, hd⟩ := laid_mem (n := "hindcast/lex.escapes") (d := Rows.laid_hindcast_lex_escapes) hv (hm _ (by unfold laidX; simp))
    obtain rfl := Option.some.inj ((show Tryz.prog.globalNamed "hindcast/lex.escapes" = some 5 by kernel_rfl).symm.trans hg)
    obtain rfl := Option.some.inj ((show (Tryz.prog.globals[5]?).map (·.type) = some 232 by kernel_rfl).symm.trans ht)
    obtain ⟨xs, m, -, ex, -, hl, hel⟩ := DataW.trod_array Tryz.underlying232 hd
    have e1 := DataW.agg.inj (Prod.mk.inj ex).1
    have h0 := hel 0 (by omega)
    have h1 := hel 1 (by omega)
    have h2 := hel 2 (by omega)
    rw [cells_pair] at h0 h1 h2
    match xs, hl with
    | [(_, p0), (_, p1), (_, p2)], _ =>
      simp only [List.map_cons, List.map_nil, List.cons.injEq, and_true] at e1
      obtain ⟨rfl, rfl, rfl⟩ := e1
      obtain ⟨q0, q1⟩ := pair_laid h0
      obtain ⟨q2, q3⟩ := pair_laid h1
      obtain ⟨q4, q5⟩ := pair_laid h2
      simp only [List.getElem?_take, List.getElem?_drop] at q0 q1 q2 q3 q4 q5
      intro j hj
      rw [World.var?_cell hg hvar j]
      have hc : j = 0 ∨ j = 1 ∨ j = 2 ∨ j = 3 ∨ j = 4 ∨ j = 5 := by omega
      rcases hc with rfl | rfl | rfl | rfl | rfl | rfl
      · simpa using q0
      · simpa using q1
      · simpa using q2
      · simpa using q3
      · simpa using q4
      · simpa using q5
  · obtain ⟨g, t, cs, fuel, p, hg, ht, hvar, hd⟩ := laid_mem (n := "strconv.ErrRange") (d := Rows.laid_strconv_ErrRange) hv (hm _ (by unfold laidX; simp))
    obtain rfl := Option.some.inj ((show Tryz.prog.globalNamed "strconv.ErrRange" = some 7 by kernel_rfl).symm.trans hg)
    obtain rfl := Option.some.inj ((show (Tryz.prog.globals[7]?).map (·.type) = some 151 by kernel_rfl).symm.trans ht)
    obtain ⟨fuel', u, v, hcs, -⟩ := iface_of_trod Tryz.underlying151 hd
    refine ⟨u, v, ?_⟩
    rw [World.var?_cell hg hvar 0]
    have := congrArg (fun l => l[0]?) hcs
    simpa using this
end Go.Proofs.YtghhamgealkodaaGreatDoor
/- The tables, and Itoa's, out of what the row says of them. -/
namespace Go.Proofs.YtghhamgealkodaaGreatDoor
open Go.ChangeShapes Go.WideShapes Go.RowKit

set_option maxRecDepth 100000 in
theorem cells_u64 : Tryz.prog.cellsOf 223 = 1 := by kernel_rfl
set_option maxRecDepth 100000 in
theorem cells_pow : Tryz.prog.cellsOf 253 = 20 := by kernel_rfl
theorem pow_data : (Rows.laid_internal_strconv_uint64pow10 : DataW Unit) = Lib.tabData .u64 Lib.pow10Tab := rfl

theorem tabsP_laid {W : World} {laid : List (String × DataW Unit)} (h : laidMet Tryz.prog laid W) (hm : ∀ x ∈ laidX, x ∈ laid) : TabsP W := by
  refine ⟨tabs_laid h hm, ?_⟩
  obtain ⟨ps, hv, -⟩ := h
  obtain ⟨g, t, cs, fuel, p, hg, ht, hvar, hd⟩ := laid_mem (n := "internal/strconv.uint64pow10") (d := Rows.laid_internal_strconv_uint64pow10) hv (hm _ (by unfold laidX; simp))
  obtain rfl := Option.some.inj ((show Tryz.prog.globalNamed "internal/strconv.uint64pow10" = some 8 by kernel_rfl).symm.trans hg)
  obtain rfl := Option.some.inj ((show (Tryz.prog.globals[8]?).map (·.type) = some 253 by kernel_rfl).symm.trans ht)
  rw [pow_data] at hd
  unfold Lib.TabIs
  rw [hvar, ← Lib.cells_of_tab Tryz.underlying253 Tryz.underlying223 cells_u64 cells_pow hd]
end Go.Proofs.YtghhamgealkodaaGreatDoor
/- syntax: the tables, out of what a row says of them; a world in which they are laid. -/
namespace Go.Proofs.YtghhamgealkodaaGreatDoor
open Go.ChangeShapes Go.WideShapes Go.RowKit

set_option maxRecDepth 100000 in
theorem lev_fields : ∃ f0 f1 : Field, Tryz.prog.underlying 192 = some (.struct #[f0, f1]) ∧ f0.type = 9 ∧ f1.type = 3 ∧ f0.offset = 0 ∧ f1.offset = 1 := ⟨_, _, Tryz.underlying192, rfl, rfl, rfl, rfl⟩
set_option maxRecDepth 100000 in
theorem cells_intS : Tryz.prog.cellsOf 3 = 1 := by kernel_rfl
set_option maxRecDepth 100000 in
theorem cells_lev : Tryz.prog.cellsOf 192 = 2 := by kernel_rfl
theorem lev_laid {w : World} {m : Nat} {cs : List Value} {a : List UInt8} {b : Int} {p : List MemPlace}
    (h : DataW.trod (fun _ => ()) Tryz.prog w 0 (fun _ => true) false m 192 cs = some (.agg [.lit (.string a), .lit (.int .i64 b)], p)) : cs[0]? = some (.string (strB a)) ∧ cs[1]? = some (.int .i64 b) := by
  obtain ⟨f0, f1, hu, t0, t1, o0, o1⟩ := lev_fields
  obtain ⟨xs, n, -, ex, -, hl, hel⟩ := DataW.trod_struct hu h
  have e1 := DataW.agg.inj (Prod.mk.inj ex).1
  have h0 := hel 0 f0 rfl
  have h1 := hel 1 f1 rfl
  rw [t0, o0, cells_str] at h0
  rw [t1, o1, cells_intS] at h1
  match xs, hl with
  | [x0, x1], _ =>
    simp only [List.map_cons, List.map_nil, List.cons.injEq, and_true] at e1
    obtain ⟨s, a0, b0, -⟩ := DataW.trod_string Tryz.underlying9 h0
    obtain ⟨z1, a1, b1, -⟩ := DataW.trod_int Tryz.underlying3 h1
    rw [b0, b1] at e1
    simp only [DataW.lit.injEq, Lit.int.injEq, Lit.string.injEq, true_and] at e1
    obtain ⟨rfl, rfl⟩ := e1
    have q0 := congrArg (fun l => l[0]?) a0
    have q1 := congrArg (fun l => l[0]?) a1
    simp only [List.getElem?_take, List.getElem?_drop] at q0 q1
    rw [strB_of]
    exact ⟨by simpa using q0, by simpa using q1⟩
theorem lev_data : (Rows.laid_hindcast_syntax_levels : DataW Unit) = .agg (levelsL.map fun p => .agg [.lit (.string p.1), .lit (.int .i64 p.2)]) := rfl
theorem levelsC_at : ∀ (j : Nat) (v : Value), levelsC[j]? = some v → ∃ (h : j / 2 < levelsL.length), v = if j % 2 = 0 then .string (strB (levelsL[j / 2]'h).1) else .int .i64 (levelsL[j / 2]'h).2 := by
  intro j v hj
  have hlt : j < 26 := (List.getElem?_eq_some_iff.1 hj).1
  have key : ∀ j (h : j < 26), levelsC[j]? = some (if j % 2 = 0 then .string (strB (levelsL[j / 2]'(by show j / 2 < 13; omega)).1) else .int .i64 (levelsL[j / 2]'(by show j / 2 < 13; omega)).2) := by
    intro j h
    have hc : j = 0 ∨ j = 1 ∨ j = 2 ∨ j = 3 ∨ j = 4 ∨ j = 5 ∨ j = 6 ∨ j = 7 ∨ j = 8 ∨ j = 9 ∨ j = 10 ∨ j = 11 ∨ j = 12 ∨ j = 13 ∨ j = 14 ∨ j = 15 ∨ j = 16 ∨ j = 17 ∨ j = 18 ∨ j = 19 ∨ j = 20 ∨ j = 21 ∨ j = 22 ∨ j = 23 ∨ j = 24 ∨ j = 25 := by omega
    rcases hc with rfl | rfl | rfl | rfl | rfl | rfl | rfl | rfl | rfl | rfl | rfl | rfl | rfl | rfl | rfl | rfl | rfl | rfl | rfl | rfl | rfl | rfl | rfl | rfl | rfl | rfl <;> rfl
  exact ⟨by show j / 2 < 13; omega, Option.some.inj (hj.symm.trans (key j hlt))⟩

set_option maxRecDepth 100000 in
theorem levT_laid {W : World} {laid : List (String × DataW Unit)} (h : laidMet Tryz.prog laid W) (hm : ("hindcast/syntax.levels", Rows.laid_hindcast_syntax_levels) ∈ laid) : LevT W := by
  obtain ⟨ps, hv, -⟩ := h
  obtain ⟨g, t, cs, fuel, p, hg, ht, hvar, hd⟩ := laid_mem (n := "hindcast/syntax.levels") (d := Rows.laid_hindcast_syntax_levels) hv hm
  obtain rfl := Option.some.inj ((show Tryz.prog.globalNamed "hindcast/syntax.levels" = some 1 by kernel_rfl).symm.trans hg)
  obtain rfl := Option.some.inj ((show (Tryz.prog.globals[1]?).map (·.type) = some 193 by kernel_rfl).symm.trans ht)
  rw [lev_data] at hd
  obtain ⟨xs, m, -, ex, -, hl, hel⟩ := DataW.trod_array Tryz.underlying193 hd
  have e1 := DataW.agg.inj (Prod.mk.inj ex).1
  intro j v hj
  obtain ⟨hlt, rfl⟩ := levelsC_at j v hj
  have hlt' : j / 2 < 13 := hlt
  have h0 := hel (j / 2) (by omega)
  rw [cells_lev] at h0
  have hxj : j / 2 < xs.length := by omega
  rw [List.getElem?_eq_getElem hxj] at h0
  have e2 : (levelsL.map fun p => (DataW.agg [.lit (.string p.1), .lit (.int .i64 p.2)] : DataW Unit))[j / 2]? = (xs.map (·.1))[j / 2]? := by rw [e1]
  rw [List.getElem?_map, List.getElem?_map, List.getElem?_eq_getElem hlt, List.getElem?_eq_getElem hxj] at e2
  simp only [Option.map_some, Option.some.injEq] at e2
  obtain ⟨q0, q1⟩ := lev_laid (a := (levelsL[j / 2]'hlt).1) (b := (levelsL[j / 2]'hlt).2) (p := (xs[j / 2]).2) (h0.trans (by rw [e2]))
  simp only [List.getElem?_take, List.getElem?_drop] at q0 q1
  show W.cell? ⟨_, 0 + j, none⟩ = _
  rw [Nat.zero_add, World.var?_cell hg hvar j]
  rcases Nat.mod_two_eq_zero_or_one j with h9 | h9
  · rw [if_pos h9]
    rw [if_pos (by omega)] at q0
    rw [show j / 2 * 2 + 0 = j by omega] at q0
    simpa using q0
  · rw [if_neg (by omega)]
    rw [if_pos (by omega)] at q1
    rw [show j / 2 * 2 + 1 = j by omega] at q1
    simpa using q1

/-- What a row of syntax lists. -/
def laidS : List (String × DataW Unit) := [("math/bits.deBruijn32tab", Rows.laid_math_bits_deBruijn32tab), ("math/bits.deBruijn64tab", Rows.laid_math_bits_deBruijn64tab), ("internal/strconv.uint64pow10", Rows.laid_internal_strconv_uint64pow10), ("errors.errorType", Rows.laid_errors_errorType), ("strconv.ErrRange", Rows.laid_strconv_ErrRange), ("strconv.ErrSyntax", Rows.laid_strconv_ErrSyntax), ("hindcast/lex.words", Rows.laid_hindcast_lex_words), ("hindcast/lex.signs", Rows.laid_hindcast_lex_signs), ("hindcast/lex.escapes", Rows.laid_hindcast_lex_escapes), ("hindcast/syntax.levels", Rows.laid_hindcast_syntax_levels)]
def laidN : List (String × DataW Unit) := laidS.filter fun x => x.2.handleName?.isNone
theorem laidN_eq : laidN = [("math/bits.deBruijn32tab", Rows.laid_math_bits_deBruijn32tab), ("math/bits.deBruijn64tab", Rows.laid_math_bits_deBruijn64tab), ("internal/strconv.uint64pow10", Rows.laid_internal_strconv_uint64pow10), ("strconv.ErrRange", Rows.laid_strconv_ErrRange), ("strconv.ErrSyntax", Rows.laid_strconv_ErrSyntax), ("hindcast/lex.words", Rows.laid_hindcast_lex_words), ("hindcast/lex.signs", Rows.laid_hindcast_lex_signs), ("hindcast/lex.escapes", Rows.laid_hindcast_lex_escapes), ("hindcast/syntax.levels", Rows.laid_hindcast_syntax_levels)] := rfl

theorem et_at : Tryz.prog.globalNamed "errors.errorType" = some 0 := by kernel_rfl
theorem et_rt : (Tryz.prog.cutTypes.find? (·.1 == "internal/reflectlite.rtype")).map (·.2) = some 200 := by kernel_rfl
theorem et_one : ((List.range Tryz.prog.types.size).filter fun t => Tryz.prog.rowNamed t [101, 114, 114, 111, 114]) = [151] := by kernel_rfl
set_option maxRecDepth 100000 in
theorem synT_laid {W : World} (h : laidMetH Tryz.prog laidS W) : SynT W := by
  have h' : laidMet Tryz.prog laidN W ∧ handlesMet Tryz.prog (laidS.filter fun x => x.2.handleName?.isSome) W := h
  have hp : LevT W := levT_laid h'.1 (by rw [laidN_eq]; simp)
  refine ⟨tabsP_laid h'.1 (by rw [laidN_eq]; unfold laidX; simp), hp, ?_⟩
  obtain ⟨name, u, ty, e1, e2, e3, e4, e5⟩ := h'.2 ("errors.errorType", Rows.laid_errors_errorType) (by simp only [laidS]; exact List.mem_filter.2 ⟨by simp, rfl⟩)
  have en : name = [101, 114, 114, 111, 114] := (Option.some.inj e1).symm
  subst en
  obtain rfl := Option.some.inj (et_rt.symm.trans e2)
  have hm : ty ∈ (List.range Tryz.prog.types.size).filter fun t => Tryz.prog.rowNamed t [101, 114, 114, 111, 114] := List.mem_filter.2 ⟨List.mem_range.2 e3, e4⟩
  rw [et_one] at hm
  obtain rfl := List.mem_singleton.1 hm
  have hh : typeHandle Tryz.prog 151 = .pointer (some ⟨11, 151, none⟩) := by kernel_rfl
  rw [hh] at e5
  unfold ErrT
  simpa using World.var?_cell et_at e5 0

/-- The worlds in which they are laid. -/
noncomputable def synW0 (os : Os) : World :=
  let w0 := World.holding Tryz.prog os ⟨#[], #[], []⟩
  { w0 with heap := w0.heap.modify 0 fun
      | .cells _ t frozen => .cells #[.iface 200 (.agg #[.pointer (some ⟨11, 151, none⟩)])] t frozen
      | o => o }
noncomputable def synW (os : Os) : World := (synW0 os).layVars Tryz.prog laidN
theorem synW_os (os : Os) : (synW os).os = os := World.layVars_os _ _ _
set_option maxRecDepth 100000 in
theorem synW_met (os : Os) (args : Array Value) : laidMetH Tryz.prog laidS ((synW os).forCall (fun _ _ => 0) ⟨#[], args, []⟩).memory := by
  refine laidMetH_of_parts ?_ (by kernel_rfl)
  have e1 : (laidN.filter fun x => (laidN.map (·.1)).contains x.1) = laidN := List.filter_eq_self.2 fun x hx => List.contains_iff_mem.2 (List.mem_map.2 ⟨x, hx, rfl⟩)
  have e2 : (laidN.filter fun x => !(laidN.map (·.1)).contains x.1) = [] := List.filter_eq_nil_iff.2 fun x hx => by rw [List.contains_iff_mem.2 (List.mem_map.2 ⟨x, hx, rfl⟩)]; simp
  have h : laidMet Tryz.prog laidN (synW os) := laidMet_layVars (w0 := synW0 os) (laidN.map (·.1)) [] (by rw [e1]; rfl) (by rw [e1]; kernel_rfl) (by rw [e1]; kernel_rfl) (by rw [e2]; exact LaidIn.none)
  exact h.of_heap (by simp [World.memory, World.forCall, Input.heap])
end Go.Proofs.YtghhamgealkodaaGreatDoor
/- syntax: the document's own lines of signs. -/
namespace Go.Proofs.YtghhamgealkodaaGreatDoor
open Go.RowKit Go.Shelf

/-- The signs, line by line. -/
def sgnT : List (List (List UInt8)) := [[[124, 124]], [[38, 38]], [[61, 61], [33, 61]], [[60], [60, 61], [62], [62, 61]], [[43], [45]], [[42], [47], [37]]]
def rowT (i : Nat) : List (List UInt8) := (sgnT[i]?).getD []
theorem rowT_in : ∀ i, i < 6 → ∀ s ∈ rowT i, levelOf s = i + 1 := by decide
theorem rowT_out {s : List UInt8} {i : Nat} (h : levelOf s = i + 1) : s ∈ rowT i := by
  unfold levelOf at h
  cases hf : levelsL.find? fun p => decide (p.1 = s) with
  | none => rw [hf] at h; simp at h
  | some p =>
    rw [hf] at h
    simp only [Option.map_some, Option.getD_some] at h
    have hm := List.mem_of_find?_eq_some hf
    have he : p.1 = s := by simpa using List.find?_some hf
    subst he
    have key : ∀ p ∈ levelsL, ∀ i, i < 7 → p.2 = i + 1 → p.1 ∈ rowT i := by decide
    have h6 : p.2 ≤ 6 := by
      have : ∀ p ∈ levelsL, p.2 ≤ 6 := by decide
      exact this p hm
    exact key p hm i (by omega) h
abbrev strO (l : List (List UInt8)) : Obj := .cells (l.map fun x => Value.string (strB x)).toArray 9
/-- The world in which the lines are laid. -/
abbrev lnO (N : Nat) : Obj := .cells #[.slice (some ⟨N, 0, none⟩) 1 1, .slice (some ⟨N + 1, 0, none⟩) 1 1, .slice (some ⟨N + 2, 0, none⟩) 2 2, .slice (some ⟨N + 3, 0, none⟩) 4 4, .slice (some ⟨N + 4, 0, none⟩) 2 2, .slice (some ⟨N + 5, 0, none⟩) 3 3] 55
abbrev lnW (w : World) : World := ((((((w.alloc (strO (rowT 0))).alloc (strO (rowT 1))).alloc (strO (rowT 2))).alloc (strO (rowT 3))).alloc (strO (rowT 4))).alloc (strO (rowT 5))).alloc (lnO w.heap.size)
theorem strO_cell {w : World} {N : Nat} {l : List (List UInt8)} (p : w.heap[N]? = some (strO l)) (k : Nat) (h : k < l.length) : w.cell? ⟨N, k, none⟩ = some (.string (strB l[k])) := by
  rw [cell_of_row _ _ _ _ _ _ p]
  simp [h]
theorem lnW_has (w : World) : Below w.heap.size w (lnW w) ∧ (∀ i, i < 6 → (lnW w).heap[w.heap.size + i]? = some (strO (rowT i))) ∧ (lnW w).heap[w.heap.size + 6]? = some (lnO w.heap.size) := by
  refine ⟨?_, ?_, ?_⟩
  · refine Below.alloc (Below.alloc (Below.alloc (Below.alloc (Below.alloc (Below.alloc (Below.alloc (Below.refl _ w) (Nat.le_refl _) _) ?_ _) ?_ _) ?_ _) ?_ _) ?_ _) ?_ _ <;> simp <;> omega
  · intro i hi
    have new : ∀ (W : World) (o : Obj), W.heap.size = w.heap.size + i → (W.alloc o).heap[w.heap.size + i]? = some o := fun W o h => by rw [← h]; exact World.alloc_heap_new W o
    have old : ∀ (W : World) (o : Obj), w.heap.size + i < W.heap.size → (W.alloc o).heap[w.heap.size + i]? = W.heap[w.heap.size + i]? := fun W o h => Below.heap_alloc _ _ _ h
    have hc : i = 0 ∨ i = 1 ∨ i = 2 ∨ i = 3 ∨ i = 4 ∨ i = 5 := by omega
    rcases hc with rfl | rfl | rfl | rfl | rfl | rfl
    · rw [old _ _ (by simp <;> omega), old _ _ (by simp <;> omega), old _ _ (by simp <;> omega), old _ _ (by simp <;> omega), old _ _ (by simp <;> omega), old _ _ (by simp <;> omega), new _ _ (by simp)]
    · rw [old _ _ (by simp <;> omega), old _ _ (by simp <;> omega), old _ _ (by simp <;> omega), old _ _ (by simp <;> omega), old _ _ (by simp <;> omega), new _ _ (by simp)]
    · rw [old _ _ (by simp <;> omega), old _ _ (by simp <;> omega), old _ _ (by simp <;> omega), old _ _ (by simp <;> omega), new _ _ (by simp)]
    · rw [old _ _ (by simp <;> omega), old _ _ (by simp <;> omega), old _ _ (by simp <;> omega), new _ _ (by simp)]
    · rw [old _ _ (by simp <;> omega), old _ _ (by simp <;> omega), new _ _ (by simp)]
    · rw [old _ _ (by simp <;> omega), new _ _ (by simp)]
  · have := World.alloc_heap_new ((((((w.alloc (strO (rowT 0))).alloc (strO (rowT 1))).alloc (strO (rowT 2))).alloc (strO (rowT 3))).alloc (strO (rowT 4))).alloc (strO (rowT 5))) (lnO w.heap.size)
    simpa using this
theorem lnO_cell {w : World} {N M : Nat} (p : w.heap[M]? = some (lnO N)) (i : Nat) (hi : i < 6) : w.cell? ⟨M, i, none⟩ = some (.slice (some ⟨N + i, 0, none⟩) (rowT i).length (rowT i).length) := by
  have hc : i = 0 ∨ i = 1 ∨ i = 2 ∨ i = 3 ∨ i = 4 ∨ i = 5 := by omega
  rcases hc with rfl | rfl | rfl | rfl | rfl | rfl <;> (simp only [World.cell?, p]; rfl)

set_option maxRecDepth 100000 in
set_option maxHeartbeats 4000000 in
theorem refLine_any (s : List UInt8) (w : World) :
    Calls Tryz.prog 24 #[.string (strB s)] w fun e w' => e = .returned (.int .i64 ((levelOf s : Int) - 1)) ∧ Below w.heap.size w w' := by
  obtain ⟨w1, hw1⟩ : ∃ w1, w1 = lnW w := ⟨_, rfl⟩
  obtain ⟨hb1, hrow, hout⟩ := lnW_has w
  rw [← hw1] at hb1 hrow hout
  have HROW : Hid (∀ i, i < 6 → w1.heap[w.heap.size + i]? = some (strO (rowT i))) := hrow
  have HOUT : Hid (w1.heap[w.heap.size + 1 + 1 + 1 + 1 + 1 + 1]? = some (lnO w.heap.size)) := hout
  have HB : Hid (Below w.heap.size w w1) := hb1
  have hw1' := hw1.symm
  obtain ⟨L, hL⟩ : ∃ L, L = levelOf s := ⟨_, rfl⟩
  rw [← hL]
  have HIN : Hid (∀ i, i < 6 → s ∈ rowT i → L = i + 1) := fun i hi h => hL.trans (rowT_in i hi s h)
  have HOU : Hid (∀ i, L = i + 1 → s ∈ rowT i) := fun i h => rowT_out (hL.symm.trans h)
  have HL6 : Hid (L ≤ 6) := show L ≤ 6 by
    rw [hL]
    unfold levelOf
    cases h : levelsL.find? fun p => decide (p.1 = s) with
    | none => simp
    | some p =>
      have hm := List.mem_of_find?_eq_some h
      have : ∀ p ∈ levelsL, p.2 ≤ 6 := by decide
      exact this p hm
  have HLEN : Hid (∀ i, i < 6 → (rowT i).length ≤ 4) := show ∀ i, i < 6 → (rowT i).length ≤ 4 by decide
  clear hb1 hrow hout hw1 hL
  go_enter Tryz.func24, Tryz.ntmps24
  go_wp2_with fail
  go_loopw [4] (fun vi wr => ∃ i : Nat, i ≤ 6 ∧ vi = .int .i64 (i : Int) ∧ wr = w1 ∧ (L = 0 ∨ i < L)) (fun vi _ => 6 - (intOf vi).toNat)
  case atStart => exact ⟨0, by omega, rfl, hw1', by omega⟩
  case round =>
    obtain ⟨i, hi, rfl, hwr, hLi⟩ := hrel
    have hwr' := hwr.symm
    subst hwr'
    by_cases hlt : i < 6
    · have hi1 : (i : Int) < 6 := by omega
      have c0 := lnO_cell HOUT.out i hlt
      obtain ⟨n, hn⟩ : ∃ n, n = (rowT i).length := ⟨_, rfl⟩
      rw [← hn] at c0
      have hn4 : n ≤ 4 := by rw [hn]; exact HLEN.out i hlt
      have HN : Hid (n = (rowT i).length) := hn
      clear hn
      go_wp2_with fail
      go_loopw [5] (fun vk wr => ∃ k : Nat, k ≤ n ∧ vk = .int .i64 (k : Int) ∧ wr = w1 ∧ ∀ j (h : j < (rowT i).length), j < k → (rowT i)[j] ≠ s) (fun vk _ => n - (intOf vk).toNat)
      case atStart => exact ⟨0, by omega, rfl, rfl, fun j h1 h2 => absurd h2 (Nat.not_lt_zero _)⟩
      case round =>
        obtain ⟨k, hk, rfl, hwr, hno⟩ := hrel
        have hwr' := hwr.symm
        subst hwr'
        have HNO : Hid (∀ j (h : j < (rowT i).length), j < k → (rowT i)[j] ≠ s) := hno
        clear hno
        by_cases hkl : k < n
        · have hk1 : (k : Int) < (n : Int) := by omega
          have hkr : k < (rowT i).length := by rw [← HN.out]; exact hkl
          have c1 := strO_cell (HROW.out i hlt) k hkr
          obtain ⟨u, hu⟩ : ∃ u, u = (rowT i)[k] := ⟨_, rfl⟩
          rw [← hu] at c1
          by_cases he : u = s
          · have hLL : L = i + 1 := HIN.out i hlt (by rw [← he, hu]; exact List.getElem_mem _)
            subst he
            have HV : Hid (((L : Int) - 1) = (i : Int)) := show _ = _ by omega
            clear hLL hu hLi
            go_wp2
            exact bodyPost_ret (v := .int .i64 (i : Int)) (by simp [results, Tryz.results24, go_sem]) rfl ⟨by rw [HV.out], HB.out⟩
          · have he1 : (u == s) = false := by simpa using he
            have HNX : Hid (∀ j (h : j < (rowT i).length), j < k + 1 → (rowT i)[j] ≠ s) := fun j h h2 => by
              rcases Nat.lt_or_ge j k with h3 | h3
              · exact HNO.out j h h3
              · obtain rfl : j = k := by omega
                rw [← hu]; exact he
            clear hu he hLi HNO
            go_wp2
            exact ⟨⟨k + 1, by omega, by go_num, trivial, HNX.out⟩, by simp [intOf]; omega⟩
        · obtain rfl : k = n := by omega
          have hk1 : ¬ (k : Int) < (k : Int) := by omega
          have hLx : L = 0 ∨ i + 1 < L := by
            rcases hLi with h | h
            · exact .inl h
            · rcases Nat.lt_or_ge (i + 1) L with h2 | h2
              · exact .inr h2
              · exfalso
                obtain ⟨j, hj, e⟩ := List.getElem_of_mem (HOU.out i (by omega))
                exact HNO.out j hj (by rw [HN.out]; exact hj) e
          have HLX : Hid (L = 0 ∨ i + 1 < L) := hLx
          clear hLx hLi HNO
          go_wp2
          exact ⟨⟨i + 1, by omega, by go_num, trivial, HLX.out⟩, by simp [intOf]; omega⟩
    · obtain rfl : i = 6 := by omega
      have hL0 : L = 0 := by have := HL6.out; omega
      subst hL0
      clear hLi
      go_wp2
      exact bodyPost_ret (v := .int .i64 (-1)) (by simp [results, Tryz.results24, go_sem]) rfl ⟨rfl, HB.out⟩
end Go.Proofs.YtghhamgealkodaaGreatDoor
/- syntax: the law SyntaxSigns. -/
namespace Go.Proofs.YtghhamgealkodaaGreatDoor
open Go.RowKit Go.Shelf

/-- The signs. -/
def sgnL : List (List UInt8) := [[124, 124], [38, 38], [61, 61], [33, 61], [60], [60, 61], [62], [62, 61], [43], [45], [42], [47], [37]]
def txtS (a b : List UInt8) : List UInt8 := [117] ++ a ++ [118] ++ b ++ [119]
def textX : Ex → List UInt8 | .mk _ s _ _ _ => s
def textZ : Ez → List UInt8 | .mk _ s _ _ _ => s
theorem textZ_exz (x : Ex) : textZ (exz x) = textX x := by cases x; rw [exz]; rfl
def kidsX : Ex → List Ex | .mk _ _ _ l _ => l
def sgnOk (a b : List UInt8) : Bool :=
  (exprC 60 (txtS a b)).2.1 == 0 && (exprC 60 (txtS a b)).2.2 == 0 && okE (exprC 60 (txtS a b)).1 && (exprC 60 (txtS a b)).1.kind == 7 &&
  (match kidsX (exprC 60 (txtS a b)).1 with
    | [x, y] => if levelOf a < levelOf b then textX (exprC 60 (txtS a b)).1 == a && textX x == [117] && textX y == b else textX (exprC 60 (txtS a b)).1 == b && textX x == a && textX y == [119]
    | _ => false)
set_option maxRecDepth 100000 in
theorem sgn_all : (sgnL.all fun a => sgnL.all fun b => sgnOk a b) = true := by kernel_rfl

theorem sgnOk_at {a b : List UInt8} (ha : a ∈ sgnL) (hb : b ∈ sgnL) : sgnOk a b = true := List.all_eq_true.1 (List.all_eq_true.1 sgn_all a ha) b hb
/-- The texts of an expression's kids, as they lie. -/
theorem ez_text {B : Nat} {w : World} {x : Ez} {a1 : Int} {a2 : List UInt8} {a3 : Int} {a4 : Option Addr} {a5 a6 : Nat} {a7 : Int} (h : EzIn B w x (ezV a1 a2 a3 a4 a5 a6 a7)) : (Value.string (strB a2)) = .string (strB (textZ x)) := by
  generalize hV : ezV a1 a2 a3 a4 a5 a6 a7 = V at h
  cases h with
  | mk k s n kids line base cap b o us =>
    have := congrArg (fun v => match v with | .agg a => a.toList | _ => []) hV
    simp only [List.cons.injEq] at this
    exact this.2.1
/-- What Expr answers of two signs. -/
theorem sgn_expr (a b : List UInt8) (ha : a ∈ sgnL) (hb : b ∈ sgnL) (w : World) (hS : SynT w) :
    Calls Tryz.prog 14 #[.string (strB (txtS a b))] w fun e w' => ∃ (s : List UInt8) (n : Int) (g o cap : Nat) (k : Int) (s0 s1 : List UInt8), e = .returned (.tuple #[ezV 7 s n (some ⟨g, o, none⟩) 2 cap k, .int .i64 0, .int .i64 0]) ∧ g < w'.heap.size ∧ w'.cell? ⟨g, o + 1, none⟩ = some (.string (strB s0)) ∧ w'.cell? ⟨g, o + 5 + 1, none⟩ = some (.string (strB s1)) ∧
      (if levelOf a < levelOf b then s = a ∧ s0 = [117] ∧ s1 = b else s = b ∧ s0 = a ∧ s1 = [119]) ∧ Below w.heap.size w w' := by
  have hok := sgnOk_at ha hb
  have hlen : (txtS a b).length ≤ 4096 := by
    have key : ∀ c ∈ sgnL, c.length ≤ 2 := by decide
    have h1 := key a ha
    have h2 := key b hb
    unfold txtS
    simp only [List.length_append, List.length_cons, List.length_nil]
    omega
  refine (exprX (txtS a b) w hS.1.1 hS.2.1 hS.2.2).mono fun e w' ⟨x, at0, err, v, he, hI, hx, hbw⟩ => ?_
  unfold sgnOk at hok
  simp only [Bool.and_eq_true, beq_iff_eq] at hok
  obtain ⟨⟨⟨⟨h1, h2⟩, h3⟩, h4⟩, h5⟩ := hok
  have e1 := isExpr_C 60 hlen hI (by rw [h2]; simp)
  rw [e1] at h1 h2 h3 h4 h5
  simp only at h1 h2 h3 h4 h5
  subst h1 h2
  have hz := ExIn.ez (B := w'.heap.size) hx (fun _ _ h => h) h3
  obtain ⟨k, s, n, kids, line⟩ := x
  have hk7 : k = 7 := h4
  subst hk7
  match kids, h5 with
  | [x0, x1], h5 =>
    have hz' : EzIn w'.heap.size w' (.mk 7 s n [exz x0, exz x1] line) v := by
      have e9 : exz (.mk 7 s n [x0, x1] line) = .mk 7 s n [exz x0, exz x1] line := by rw [exz]; rfl
      rw [← e9]; exact hz
    obtain ⟨base, cap, rfl, _, _, _, _, _, hkid⟩ := hz'.kid
    obtain ⟨g, o, a1, a2, a3, a4, a5, a6, a7, rfl, _, hg, hxa, _, m1, _⟩ := hkid 0 (exz x0) rfl
    obtain ⟨g', o', c1, c2, c3, c4, c5, c6, c7, hbb, _, _, hxc, _, n1, _⟩ := hkid 1 (exz x1) rfl
    cases hbb
    rw [ez_text hxa, textZ_exz] at m1
    rw [ez_text hxc, textZ_exz] at n1
    refine ⟨s, n, g, o, cap, line, textX x0, textX x1, he, hg, by rw [← m1], by rw [← n1], ?_, hbw⟩
    simp only [kidsX, textX] at h5
    split at h5
    · rename_i hlt
      rw [if_pos hlt]
      simp only [Bool.and_eq_true, beq_iff_eq] at h5
      exact ⟨h5.1.1, h5.1.2, h5.2⟩
    · rename_i hlt
      rw [if_neg hlt]
      simp only [Bool.and_eq_true, beq_iff_eq] at h5
      exact ⟨h5.1.1, h5.1.2, h5.2⟩

theorem wrap_u64 (p : Int) : IntKind.u64.wrap p = p % 18446744073709551616 := by
  unfold IntKind.wrap
  simp [IntKind.bits, IntKind.signed]
theorem txtS_str (a b : List UInt8) : (⟨#[117]⟩ ++ strB a ++ ⟨#[118]⟩ ++ strB b ++ ⟨#[119]⟩ : ByteArray) = strB (txtS a b) := by
  apply ByteArray.ext
  unfold strB txtS
  simp

set_option maxRecDepth 100000 in
set_option maxHeartbeats 8000000 in
theorem signs_any (p q : Int) (w : World) (hS : SynT w) :
    Calls Tryz.prog 7 #[.int .i64 p, .int .i64 q] w fun e w' => e = .returned (.bool true) ∧ Below w.heap.size w w' := by
  obtain ⟨P, hP⟩ : ∃ P, P = IntKind.u64.wrap p := ⟨_, rfl⟩
  obtain ⟨R, hR⟩ : ∃ R, R = IntKind.u64.wrap q := ⟨_, rfl⟩
  have hP0 : 0 ≤ P := by rw [hP, wrap_u64]; omega
  have hR0 : 0 ≤ R := by rw [hR, wrap_u64]; omega
  obtain ⟨i, hi⟩ : ∃ i : Nat, P % 13 = (i : Int) := ⟨(P % 13).toNat, by omega⟩
  obtain ⟨j, hj⟩ : ∃ j : Nat, R % 13 = (j : Int) := ⟨(R % 13).toNat, by omega⟩
  have hi13 : i < 13 := by omega
  have hj13 : j < 13 := by omega
  obtain ⟨a, ha⟩ : ∃ a, a = sgnL[i]'hi13 := ⟨_, rfl⟩
  obtain ⟨b, hb⟩ : ∃ b, b = sgnL[j]'hj13 := ⟨_, rfl⟩
  have hma : a ∈ sgnL := by rw [ha]; exact List.getElem_mem _
  have hmb : b ∈ sgnL := by rw [hb]; exact List.getElem_mem _
  obtain ⟨w1, hw1⟩ : ∃ w1, w1 = w.alloc (strO sgnL) := ⟨_, rfl⟩
  have hb1 : Below w.heap.size w w1 := by rw [hw1]; exact (Below.refl _ w).alloc (Nat.le_refl _) _
  have p1 : w1.heap[w.heap.size]? = some (strO sgnL) := by rw [hw1]; exact World.alloc_heap_new w _
  have HS : Hid (SynT w) := hS
  have hw1' := hw1.symm
  have HB1 : Hid (Below w.heap.size w w1.drew) := hb1.drew
  have ci : w1.cell? ⟨w.heap.size, i, none⟩ = some (.string (strB a)) := by rw [ha]; exact strO_cell p1 i hi13
  have cj : w1.cell? ⟨w.heap.size, j, none⟩ = some (.string (strB b)) := by rw [hb]; exact strO_cell p1 j hj13
  have HI : Hid (P % 13 = (i : Int)) := hi
  have HJ : Hid (R % 13 = (j : Int)) := hj
  have HPP : Hid (P = IntKind.u64.wrap p) := hP
  have HRR : Hid (R = IntKind.u64.wrap q) := hR
  have hii : (i : Int) < 13 := by omega
  have hjj : (j : Int) < 13 := by omega
  have cE := sgn_expr a b hma hmb w1.drew (HS.out.below HB1.out)
  have hla : a.length ≤ 2 := by
    have key : ∀ c ∈ sgnL, c.length ≤ 2 := by decide
    exact key a hma
  have hlb : b.length ≤ 2 := by
    have key : ∀ c ∈ sgnL, c.length ≤ 2 := by decide
    exact key b hmb
  clear hw1 hb1 p1 hi hj hS hP hR ha hb hma hmb
  go_enter Tryz.func7, Tryz.ntmps7
  go_wp2_with fail
  have hw1x : w.alloc (.cells #[.string ⟨#[124, 124]⟩, .string ⟨#[38, 38]⟩, .string ⟨#[61, 61]⟩, .string ⟨#[33, 61]⟩, .string ⟨#[60]⟩, .string ⟨#[60, 61]⟩, .string ⟨#[62]⟩, .string ⟨#[62, 61]⟩, .string ⟨#[43]⟩, .string ⟨#[45]⟩, .string ⟨#[42]⟩, .string ⟨#[47]⟩, .string ⟨#[37]⟩] 9) = w1 := hw1'
  rw [hw1x]
  clear hw1x hw1'
  have zi : ∀ c : ClsP (fun W => W.cell? ⟨w.heap.size, i, none⟩ = some (.string (strB a)) ∧ W.cell? ⟨w.heap.size, j, none⟩ = some (.string (strB b))), c.1.cell? ⟨w.heap.size, i, none⟩ = some (.string (strB a)) := fun c => c.2.1
  have zj : ∀ c : ClsP (fun W => W.cell? ⟨w.heap.size, i, none⟩ = some (.string (strB a)) ∧ W.cell? ⟨w.heap.size, j, none⟩ = some (.string (strB b))), c.1.cell? ⟨w.heap.size, j, none⟩ = some (.string (strB b)) := fun c => c.2.2
  refine mix_begin (n := 16) (S := fun w' => ∃ c : ClsP (fun W => W.cell? ⟨w.heap.size, i, none⟩ = some (.string (strB a)) ∧ W.cell? ⟨w.heap.size, j, none⟩ = some (.string (strB b))), w' = c.1) (by kernel_rfl) rfl rfl ?_
  refine mix_seg (fuel := 0) (fuel' := 16) (idx := [0, 1, 2, 3, 4, 5, 6, 7, 8, 9, 10, 11, 12, 13, 14, 15]) (by decide +kernel) rfl rfl rfl (fun _ _ _ _ _ h => h) ⟨⟨w1.drew, ci, cj⟩, rfl⟩ ?_
  show wpQuiet _ _ _ _ [_, _, _, _, _, _, _, _, _, _, _, _, _, _, _, _] _
  iterate 3 (go_big_quiet_step (exact rfl))
  rw [← HPP.out]
  iterate 1 (go_big_quiet_step (exact rfl))
  rw [HI.out]
  iterate 6 (go_big_quiet_step (exact rfl))
  rw [← HRR.out]
  iterate 1 (go_big_quiet_step (exact rfl))
  rw [HJ.out]
  iterate 5 (go_big_quiet_step (exact rfl))
  refine wpQuiet_nil ?_
  refine mix_done (by decide +kernel) ?_
  clear zi zj ci cj HI HJ HPP HRR hP0 hR0
  go_wp2_with fail
  rw [txtS_str a b]
  refine cE.mono ?_
  clear cE
  rintro e w2 ⟨s, n, g, o, cap, k, s0, s1, rfl, hg, m0, m1, hif, hb2⟩
  have hb2' : Below w.heap.size w w2 := below_via' HB1.out hb2
  obtain ⟨w3, hw3⟩ : ∃ w3, w3 = w2.alloc (ezO 7 s n (some ⟨g, o, none⟩) 2 cap k) := ⟨_, rfl⟩
  have hb3 : Below w2.heap.size w2 w3 := by rw [hw3]; exact (Below.refl _ w2).alloc (Nat.le_refl _) _
  have p3 : w3.heap[w2.heap.size]? = some (ezO 7 s n (some ⟨g, o, none⟩) 2 cap k) := by rw [hw3]; exact World.alloc_heap_new w2 _
  have hsz3 : w3.heap.size = w2.heap.size + 1 := by rw [hw3]; simp
  have hbw3 : Below w.heap.size w w3 := below_via' hb2' hb3
  have HBW3 : Hid (Below w.heap.size w w3) := hbw3
  have HP3 : Hid (w3.heap[w2.heap.size]? = some (ezO 7 s n (some ⟨g, o, none⟩) 2 cap k)) := p3
  have HM0 : Hid (w3.cell? ⟨g, o + 1, none⟩ = some (.string (strB s0))) := (hb3.cell (p := ⟨g, o + 1, none⟩) hg).trans m0
  have HM1 : Hid (w3.cell? ⟨g, o + 5 + 1, none⟩ = some (.string (strB s1))) := (hb3.cell (p := ⟨g, o + 5 + 1, none⟩) hg).trans m1
  have hg3 : g < w3.heap.size := by omega
  have HIF : Hid (if levelOf a < levelOf b then s = a ∧ s0 = [117] ∧ s1 = b else s = b ∧ s0 = a ∧ s1 = [119]) := hif
  obtain ⟨c0, c1, c2, c3, c4⟩ := cellsZ p3
  have cl := refLine_any b w3
  have hw3' := hw3.symm
  clear hw3 hb3 p3 hbw3 m0 m1 hif hb2 hb2' hg
  go_wp2_with fail
  refine cl.mono ?_
  clear cl c0 c1 c2 c3 c4
  rintro e w4 ⟨rfl, hb4⟩
  have cl := refLine_any a w4
  have HB4 : Hid (Below w3.heap.size w3 w4) := hb4
  clear hb4
  go_wp2_with fail
  refine cl.mono ?_
  clear cl
  rintro e w5 ⟨rfl, hb5⟩
  have hb35 : Below w3.heap.size w3 w5 := below_via' HB4.out hb5
  have HB5 : Hid (Below w.heap.size w w5) := below_via' HBW3.out hb35
  have y0 := (hb35.cell (p := ⟨g, o + 1, none⟩) hg3).trans HM0.out
  have y1 := (hb35.cell (p := ⟨g, o + 5 + 1, none⟩) hg3).trans HM1.out
  obtain ⟨c0, c1, c2, c3, c4⟩ := cellsZ ((hb35.block w2.heap.size (by omega)).trans HP3.out)
  have cV := lives04_any w5 (HS.out.below HB5.out)
  have hL1 := levelOf_le a
  have hL2 := levelOf_le b
  clear hb5 hb35 HM0 HM1 HP3 HBW3 HB4 HS HB1
  by_cases hlt : levelOf a < levelOf b
  · obtain ⟨rfl, rfl, rfl⟩ : s = a ∧ s0 = [117] ∧ s1 = b := by have := HIF.out; rwa [if_pos hlt] at this
    clear HIF
    generalize levelOf s = L1 at *
    generalize levelOf s1 = L2 at *
    have hlt' : (L1 : Int) - 1 < (L2 : Int) - 1 := by omega
    go_wp2_with fail
    refine cV.mono ?_
    clear cV
    rintro e w6 ⟨rfl, hb6⟩
    have HB6 : Hid (Below w.heap.size w w6) := below_via' HB5.out hb6
    clear hb6 HB5
    go_wp2
    exact bodyPost_ret (v := .bool true) (by simp [results, Tryz.results7, go_sem]) rfl ⟨rfl, HB6.out⟩
  · obtain ⟨rfl, rfl, rfl⟩ : s = b ∧ s0 = a ∧ s1 = [119] := by have := HIF.out; rwa [if_neg hlt] at this
    clear HIF
    generalize levelOf s0 = L1 at *
    generalize levelOf s = L2 at *
    have hlt' : ¬ (L1 : Int) - 1 < (L2 : Int) - 1 := by omega
    go_wp2_with fail
    refine cV.mono ?_
    clear cV
    rintro e w6 ⟨rfl, hb6⟩
    have HB6 : Hid (Below w.heap.size w w6) := below_via' HB5.out hb6
    clear hb6 HB5
    go_wp2
    exact bodyPost_ret (v := .bool true) (by simp [results, Tryz.results7, go_sem]) rfl ⟨rfl, HB6.out⟩
end Go.Proofs.YtghhamgealkodaaGreatDoor
/- What every row's proof wants: the reading of an argument in the walks' own words. -/
namespace Go.Proofs.YtghhamgealkodaaGreatDoor
open Go.ChangeShapes Go.WideShapes Go.ChangeAt Go.RowKit

set_option maxRecDepth 100000 in
theorem own : ownKnob Tryz.prog.godebug = none := by kernel_rfl
end Go.Proofs.YtghhamgealkodaaGreatDoor
