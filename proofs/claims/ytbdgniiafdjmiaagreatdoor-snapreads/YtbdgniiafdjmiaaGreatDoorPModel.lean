/- snap: a state's parts, as mathematics; how they lie in memory. -/
import Derived.Test.YtbdgniiafdjmiaaGreatDoorPBase
import Derived.Test.YtbdgniiafdjmiaaGreatDoorHAll
namespace Go.Proofs.YtbdgniiafdjmiaaGreatDoor
open Go.RowKit Go.Shelf

/-- A call. -/
structure Cal where
  unit : Int
  at0 : Int
  mark : Int
  slots : List Vl
  stack : List Vl
/-- A state. -/
structure Sn where
  pos : Int
  st : Int
  ft : Int
  calls : List Cal
  heap : List Ob
  out : List UInt8
  rd : Int

def valE (w : World) (b o : Nat) (x : Vl) : Prop := w.cell? ⟨b, o, none⟩ = some (.int .i64 x.k) ∧ w.cell? ⟨b, o + 1, none⟩ = some (.int .i64 x.n) ∧ w.cell? ⟨b, o + 2, none⟩ = some (.string (strB x.s))
def valsR (S : Nat → Prop) (w : World) (v : Value) (l : List Vl) : Prop := rowIn S w v 3 valE l
def calE (S : Nat → Prop) (w : World) (b o : Nat) (x : Cal) : Prop :=
  w.cell? ⟨b, o, none⟩ = some (.int .i64 x.unit) ∧ w.cell? ⟨b, o + 1, none⟩ = some (.int .i64 x.at0) ∧ w.cell? ⟨b, o + 2, none⟩ = some (.int .i64 x.mark) ∧
    (∃ u, w.cell? ⟨b, o + 3, none⟩ = some u ∧ valsR S w u x.slots) ∧ ∃ u, w.cell? ⟨b, o + 4, none⟩ = some u ∧ valsR S w u x.stack
def calsR (S : Nat → Prop) (w : World) (v : Value) (l : List Cal) : Prop := rowIn S w v 5 (calE S) l
def objE (S : Nat → Prop) (w : World) (b o : Nat) (x : Ob) : Prop := w.cell? ⟨b, o, none⟩ = some (.string (strB x.1)) ∧ ∃ u, w.cell? ⟨b, o + 1, none⟩ = some u ∧ valsR S w u x.2
def objsR (S : Nat → Prop) (w : World) (v : Value) (l : List Ob) : Prop := rowIn S w v 2 (objE S) l
/-- The rows of a state. -/
structure SnIn (S : Nat → Prop) (w : World) (s : Sn) (vc vh : Value) : Prop where
  calls : calsR S w vc s.calls
  heap : objsR S w vh s.heap

theorem valE_keeps (S : Nat → Prop) : KeepsE S valE := fun _ _ _ _ _ _ hb hS hlt ⟨a, b, c⟩ => ⟨(World.cell?_of_block (hb _ hS hlt)).trans a, (World.cell?_of_block (hb _ hS hlt)).trans b, (World.cell?_of_block (hb _ hS hlt)).trans c⟩
theorem calE_keeps (S : Nat → Prop) : KeepsE S (calE S) := fun _ _ _ _ _ hs hb hS hlt ⟨a, b, c, ⟨u, f, g⟩, y, h, i⟩ =>
  ⟨(World.cell?_of_block (hb _ hS hlt)).trans a, (World.cell?_of_block (hb _ hS hlt)).trans b, (World.cell?_of_block (hb _ hS hlt)).trans c,
    ⟨u, (World.cell?_of_block (hb _ hS hlt)).trans f, rowIn.kept g (valE_keeps S) hs hb⟩, y, (World.cell?_of_block (hb _ hS hlt)).trans h, rowIn.kept i (valE_keeps S) hs hb⟩
theorem objE_keeps (S : Nat → Prop) : KeepsE S (objE S) := fun _ _ _ _ _ hs hb hS hlt ⟨a, u, b, c⟩ => ⟨(World.cell?_of_block (hb _ hS hlt)).trans a, u, (World.cell?_of_block (hb _ hS hlt)).trans b, rowIn.kept c (valE_keeps S) hs hb⟩
theorem SnIn.kept {S : Nat → Prop} {w w' : World} {s : Sn} {vc vh : Value} (h : SnIn S w s vc vh) (hs : w.heap.size ≤ w'.heap.size) (hb : ∀ q, S q → q < w.heap.size → w'.heap[q]? = w.heap[q]?) : SnIn S w' s vc vh :=
  ⟨rowIn.kept h.calls (calE_keeps S) hs hb, rowIn.kept h.heap (objE_keeps S) hs hb⟩
theorem SnIn.below {S : Nat → Prop} {w w' : World} {s : Sn} {vc vh : Value} (h : SnIn S w s vc vh) (hb : Below w.heap.size w w') : SnIn S w' s vc vh := h.kept hb.size fun q _ hq => hb.block q hq
theorem calE_wide {S S' : Nat → Prop} {w : World} (hS : ∀ q, q < w.heap.size → S q → S' q) (b o : Nat) (x : Cal) (h : calE S w b o x) : calE S' w b o x := by
  obtain ⟨e0, e1, e2, ⟨u, e3, h3⟩, u2, e4, h4⟩ := h
  exact ⟨e0, e1, e2, ⟨u, e3, rowIn.wide h3 hS fun _ _ _ h => h⟩, u2, e4, rowIn.wide h4 hS fun _ _ _ h => h⟩
theorem objE_wide {S S' : Nat → Prop} {w : World} (hS : ∀ q, q < w.heap.size → S q → S' q) (b o : Nat) (x : Ob) (h : objE S w b o x) : objE S' w b o x := by
  obtain ⟨e0, u, e3, h3⟩ := h
  exact ⟨e0, u, e3, rowIn.wide h3 hS fun _ _ _ h => h⟩
theorem SnIn.wide {S S' : Nat → Prop} {w : World} {s : Sn} {vc vh : Value} (h : SnIn S w s vc vh) (hS : ∀ q, q < w.heap.size → S q → S' q) : SnIn S' w s vc vh :=
  ⟨rowIn.wide h.calls hS (calE_wide hS), rowIn.wide h.heap hS (objE_wide hS)⟩
theorem SnIn.low {S : Nat → Prop} {w : World} {s : Sn} {vc vh : Value} (h : SnIn S w s vc vh) : SnIn (fun q => q < w.heap.size) w s vc vh := h.wide fun _ hq _ => hq

/-- As package heap's texts have it. -/
theorem valsIn_of {S : Nat → Prop} {w : World} {v : Value} {l : List Vl} (h : valsR S w v l) : valsIn S w v l := by
  obtain ⟨base, cap, hv, h1, h2, h3⟩ := h
  refine ⟨base, cap, hv, h1, h2, ?_⟩
  rcases h3 with h3 | ⟨b, o, e, hS, hlt, hc⟩
  · exact .inl h3
  · refine .inr ⟨b, o, e, hS, hlt, fun j u hj => ?_⟩
    have hjl : j < l.length * 3 := by rw [← vlC_len]; exact (List.getElem?_eq_some_iff.1 hj).1
    have hi : j / 3 < l.length := by omega
    obtain ⟨q0, q1, q2⟩ := vlC_at l (j / 3) hi
    obtain ⟨c0, c1, c2⟩ := hc (j / 3) hi
    have hm : j % 3 = 0 ∨ j % 3 = 1 ∨ j % 3 = 2 := by omega
    rcases hm with hm | hm | hm
    · have e1 : j = j / 3 * 3 := by omega
      rw [← e1] at q0 c0
      rw [q0] at hj
      rw [c0, hj]
    · have e1 : j = j / 3 * 3 + 1 := by omega
      rw [← e1] at q1
      rw [q1] at hj
      have e2 : o + j = o + j / 3 * 3 + 1 := by omega
      rw [e2, c1, hj]
    · have e1 : j = j / 3 * 3 + 2 := by omega
      rw [← e1] at q2
      rw [q2] at hj
      have e2 : o + j = o + j / 3 * 3 + 2 := by omega
      rw [e2, c2, hj]
theorem valsR_of {S : Nat → Prop} {w : World} {v : Value} {l : List Vl} (h : valsIn S w v l) : valsR S w v l := by
  obtain ⟨base, cap, hv, h1, h2, h3⟩ := h
  refine ⟨base, cap, hv, h1, h2, ?_⟩
  rcases h3 with h3 | ⟨b, o, e, hS, hlt, hc⟩
  · exact .inl h3
  · refine .inr ⟨b, o, e, hS, hlt, fun j hj => ?_⟩
    obtain ⟨q0, q1, q2⟩ := vlC_at l j hj
    exact ⟨hc _ _ q0, by have := hc _ _ q1; rwa [← Nat.add_assoc] at this, by have := hc _ _ q2; rwa [← Nat.add_assoc] at this⟩
theorem objsIn_of {S : Nat → Prop} {w : World} {v : Value} {l : List Ob} (h : objsR S w v l) : objsIn S w v l := by
  obtain ⟨base, cap, hv, h1, h2, h3⟩ := h
  refine ⟨base, cap, hv, h1, h2, ?_⟩
  rcases h3 with h3 | ⟨b, o, e, hS, hlt, hc⟩
  · exact .inl h3
  · refine .inr ⟨b, o, e, hS, hlt, fun j hj => ?_⟩
    obtain ⟨c0, u, c1, hu⟩ := hc j hj
    exact ⟨u, c0, c1, valsIn_of hu⟩
theorem objsR_of {S : Nat → Prop} {w : World} {v : Value} {l : List Ob} (h : objsIn S w v l) : objsR S w v l := by
  obtain ⟨base, cap, hv, h1, h2, h3⟩ := h
  refine ⟨base, cap, hv, h1, h2, ?_⟩
  rcases h3 with h3 | ⟨b, o, e, hS, hlt, hc⟩
  · exact .inl h3
  · refine .inr ⟨b, o, e, hS, hlt, fun j hj => ?_⟩
    obtain ⟨u, c0, c1, hu⟩ := hc j hj
    exact ⟨c0, u, c1, valsR_of hu⟩

abbrev calV (x : Cal) (u1 u2 : Value) : Value := .agg #[.int .i64 x.unit, .int .i64 x.at0, .int .i64 x.mark, u1, u2]
abbrev obV (x : Ob) (u : Value) : Value := .agg #[.string (strB x.1), u]
abbrev snV (x : Sn) (u1 u2 : Value) : Value := .agg #[.int .i64 x.pos, .int .i64 x.st, .int .i64 x.ft, u1, u2, .string (strB x.out), .int .i64 x.rd]
/-- May a call be told among so many objects? -/
def callB (n : Int) (c : Cal) : Bool := decide (0 ≤ c.unit ∧ 0 ≤ c.at0 ∧ -1 ≤ c.mark) && ((decide (c.slots.length ≤ 32) && c.slots.all (fun v => rightV v n)) && (decide (c.stack.length ≤ 256) && c.stack.all (fun v => rightV v n)))
def heapB (os : List Ob) : Bool := os.all (fun o => obB o os.length) && decide (os.length + (allV os).length ≤ 4096)
/-- May a state be told? -/
def mayS (s : Sn) : Bool := decide (0 ≤ s.pos ∧ 0 ≤ s.rd ∧ (0 ≤ s.st ∧ s.st ≤ 2) ∧ (0 ≤ s.ft ∧ s.ft ≤ 10) ∧ s.out.length ≤ 4096) && ((decide (s.calls.length ≤ 64) && s.calls.all (callB s.heap.length)) && heapB s.heap)

/-- A value's bytes. -/
def vlB (v : Vl) : List UInt8 := numB v.k ++ (if v.k = 1 ∨ v.k = 2 ∨ v.k = 4 then numB v.n else if v.k = 3 then txB v.s else [])
def calB (c : Cal) : List UInt8 := numB c.unit ++ (numB c.at0 ++ (numB c.mark ++ (allB vlB c.slots ++ allB vlB c.stack)))
def objB (o : Ob) : List UInt8 := txB o.1 ++ allB vlB o.2
def snB (s : Sn) : List UInt8 := numB s.pos ++ (numB s.st ++ (numB s.ft ++ (numB s.rd ++ (txB s.out ++ (allB calB s.calls ++ allB objB s.heap)))))

/-- All texts are of a length that machines have, and there are few of all; all numbers are such as an int is. -/
def smallC (c : Cal) : Prop := (I64 c.unit ∧ I64 c.at0 ∧ I64 c.mark) ∧ ((∀ v ∈ c.slots, smallV v ∧ I64 v.k) ∧ c.slots.length ≤ 1048576) ∧ (∀ v ∈ c.stack, smallV v ∧ I64 v.k) ∧ c.stack.length ≤ 1048576
def smallOb (o : Ob) : Prop := o.1.length ≤ 1048576 ∧ (∀ v ∈ o.2, smallV v ∧ I64 v.k) ∧ o.2.length ≤ 1048576
structure SmallS (s : Sn) : Prop where
  nums : I64 s.pos ∧ I64 s.st ∧ I64 s.ft ∧ I64 s.rd
  out : s.out.length ≤ 1048576
  calls : (∀ c ∈ s.calls, smallC c) ∧ s.calls.length ≤ 1048576
  heap : (∀ o ∈ s.heap, smallOb o) ∧ s.heap.length ≤ 1048576
theorem SmallS.obs {s : Sn} (h : SmallS s) : ∀ o ∈ s.heap, smallO o := fun o ho => ⟨(h.heap.1 o ho).1, fun v hv => ((h.heap.1 o ho).2.1 v hv).1⟩

/-- What is read. -/
def rVl (bs : List UInt8) (a0 r0 : Nat) : Vl × Nat × Nat :=
  match rI bs a0 r0 with
  | (k, a1, r1) =>
  if k = 1 ∨ k = 2 ∨ k = 4 then
    match rI bs a1 r1 with
    | (n, a2, r2) => ((⟨k, n, []⟩ : Vl), a2, r2)
  else if k = 3 then
    match rTx 255 bs a1 r1 with
    | (s, a2, r2) => ((⟨k, 0, s⟩ : Vl), a2, r2)
  else ((⟨k, 0, []⟩ : Vl), a1, r1)
def rCal (bs : List UInt8) (a0 r0 : Nat) : Cal × Nat × Nat :=
  match rI bs a0 r0 with
  | (x0, a1, r1) =>
  match rI bs a1 r1 with
  | (x1, a2, r2) =>
  match rI bs a2 r2 with
  | (x2, a3, r3) =>
  match rAll bs (rVl bs) a3 r3 with
  | (x3, a4, r4) =>
  match rAll bs (rVl bs) a4 r4 with
  | (x4, a5, r5) =>
  ((⟨x0, x1, x2, x3, x4⟩ : Cal), a5, r5)
def rObj (bs : List UInt8) (a0 r0 : Nat) : Ob × Nat × Nat :=
  match rTx 255 bs a0 r0 with
  | (x0, a1, r1) =>
  match rAll bs (rVl bs) a1 r1 with
  | (x1, a2, r2) =>
  (((x0, x1) : Ob), a2, r2)
def rSn (bs : List UInt8) (a0 r0 : Nat) : Sn × Nat × Nat :=
  match rI bs a0 r0 with
  | (x0, a1, r1) =>
  match rI bs a1 r1 with
  | (x1, a2, r2) =>
  match rI bs a2 r2 with
  | (x2, a3, r3) =>
  match rI bs a3 r3 with
  | (x3, a4, r4) =>
  match rTx 4096 bs a4 r4 with
  | (x4, a5, r5) =>
  match rAll bs (rCal bs) a5 r5 with
  | (x5, a6, r6) =>
  match rAll bs (rObj bs) a6 r6 with
  | (x6, a7, r7) =>
  ((⟨x0, x1, x2, x5, x6, x4, x3⟩ : Sn), a7, r7)
def ldS (bs : List UInt8) : Nat := endR bs.length (rSn bs 0 0).2.1 (rSn bs 0 0).2.2
end Go.Proofs.YtbdgniiafdjmiaaGreatDoor
