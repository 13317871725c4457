/- code: a code's parts, as mathematics; how they lie in memory. -/
import Derived.Test.YtechkkphbajmoaaGreatDoorMX
namespace Go.Proofs.YtechkkphbajmoaaGreatDoor
open Go.RowKit Go.Shelf

/-- An instruction. -/
structure In7 where
  op : Int
  a : Int
/-- A variable. -/
structure Vr where
  name : List UInt8
  slot : Int
  lo : Int
  hi : Int
/-- A shape. -/
structure Sh where
  name : List UInt8
  fields : List (List UInt8)
/-- A unit. -/
structure Un where
  name : List UInt8
  params : Int
  slots : Int
  stack : Int
  result : Bool
  ins : List In7
  vars : List Vr
/-- A code. -/
structure Cd where
  strs : List (List UInt8)
  shapes : List Sh
  units : List Un
  main : Int

/-- The slice value v reads in the world w as this list, k cells a thing, of which E tells where one lies; its cells lie in a block of S. -/
def rowIn {α : Type} (S : Nat → Prop) (w : World) (v : Value) (k : Nat) (E : World → Nat → Nat → α → Prop) (l : List α) : Prop :=
  ∃ base cap, v = .slice base l.length cap ∧ l.length ≤ cap ∧ cap ≤ maxLen ∧
    (l = [] ∨ ∃ b o, base = some ⟨b, o, none⟩ ∧ S b ∧ b < w.heap.size ∧ ∀ j (hj : j < l.length), E w b (o + j * k) l[j])

/-- What E tells is kept where the blocks of S are. -/
def KeepsE {α : Type} (S : Nat → Prop) (E : World → Nat → Nat → α → Prop) : Prop :=
  ∀ w w' b o x, w.heap.size ≤ w'.heap.size → (∀ q, S q → q < w.heap.size → w'.heap[q]? = w.heap[q]?) → S b → b < w.heap.size → E w b o x → E w' b o x

theorem rowIn.kept {α : Type} {S : Nat → Prop} {w w' : World} {v : Value} {k : Nat} {E : World → Nat → Nat → α → Prop} {l : List α} (h : rowIn S w v k E l) (hE : KeepsE S E) (hs : w.heap.size ≤ w'.heap.size) (hb : ∀ q, S q → q < w.heap.size → w'.heap[q]? = w.heap[q]?) : rowIn S w' v k E l := by
  obtain ⟨base, cap, hv, h1, h2, h3⟩ := h
  refine ⟨base, cap, hv, h1, h2, ?_⟩
  rcases h3 with h3 | ⟨b, o, e, hS, hlt, hc⟩
  · exact .inl h3
  · exact .inr ⟨b, o, e, hS, Nat.lt_of_lt_of_le hlt hs, fun j hj => hE w w' b _ _ hs hb hS hlt (hc j hj)⟩

theorem rowIn.at {α : Type} {S : Nat → Prop} {w : World} {v : Value} {k : Nat} {E : World → Nat → Nat → α → Prop} {l : List α} (h : rowIn S w v k E l) : ∃ base cap, v = .slice base l.length cap ∧ l.length ≤ cap ∧ cap ≤ maxLen ∧ ∀ i (hi : i < l.length), ∃ b o, base = some ⟨b, o, none⟩ ∧ S b ∧ b < w.heap.size ∧ E w b (o + i * k) l[i] := by
  obtain ⟨base, cap, hv, h1, h2, h3⟩ := h
  refine ⟨base, cap, hv, h1, h2, fun i hi => ?_⟩
  rcases h3 with h3 | ⟨b, o, e, hs, hlt, hc⟩
  · subst h3; simp at hi
  · exact ⟨b, o, e, hs, hlt, hc i hi⟩

theorem rowIn.wide {α : Type} {S S' : Nat → Prop} {w : World} {v : Value} {k : Nat} {E E' : World → Nat → Nat → α → Prop} {l : List α} (h : rowIn S w v k E l) (hS : ∀ q, q < w.heap.size → S q → S' q) (hE : ∀ b o x, E w b o x → E' w b o x) : rowIn S' w v k E' l := by
  obtain ⟨base, cap, hv, h1, h2, h3⟩ := h
  refine ⟨base, cap, hv, h1, h2, ?_⟩
  rcases h3 with h3 | ⟨b, o, e, hs, hlt, hc⟩
  · exact .inl h3
  · exact .inr ⟨b, o, e, hS b hlt hs, hlt, fun j hj => hE _ _ _ (hc j hj)⟩

def strE (w : World) (b o : Nat) (s : List UInt8) : Prop := w.cell? ⟨b, o, none⟩ = some (.string (strB s))
def insE (w : World) (b o : Nat) (x : In7) : Prop := w.cell? ⟨b, o, none⟩ = some (.int .i64 x.op) ∧ w.cell? ⟨b, o + 1, none⟩ = some (.int .i64 x.a)
def varE (w : World) (b o : Nat) (x : Vr) : Prop := w.cell? ⟨b, o, none⟩ = some (.string (strB x.name)) ∧ w.cell? ⟨b, o + 1, none⟩ = some (.int .i64 x.slot) ∧ w.cell? ⟨b, o + 2, none⟩ = some (.int .i64 x.lo) ∧ w.cell? ⟨b, o + 3, none⟩ = some (.int .i64 x.hi)
def strsIn (S : Nat → Prop) (w : World) (v : Value) (l : List (List UInt8)) : Prop := rowIn S w v 1 strE l
def insIn (S : Nat → Prop) (w : World) (v : Value) (l : List In7) : Prop := rowIn S w v 2 insE l
def varsIn (S : Nat → Prop) (w : World) (v : Value) (l : List Vr) : Prop := rowIn S w v 4 varE l
def shE (S : Nat → Prop) (w : World) (b o : Nat) (x : Sh) : Prop := w.cell? ⟨b, o, none⟩ = some (.string (strB x.name)) ∧ ∃ u, w.cell? ⟨b, o + 1, none⟩ = some u ∧ strsIn S w u x.fields
def shapesIn (S : Nat → Prop) (w : World) (v : Value) (l : List Sh) : Prop := rowIn S w v 2 (shE S) l
def unE (S : Nat → Prop) (w : World) (b o : Nat) (x : Un) : Prop :=
  w.cell? ⟨b, o, none⟩ = some (.string (strB x.name)) ∧ w.cell? ⟨b, o + 1, none⟩ = some (.int .i64 x.params) ∧ w.cell? ⟨b, o + 2, none⟩ = some (.int .i64 x.slots) ∧ w.cell? ⟨b, o + 3, none⟩ = some (.int .i64 x.stack) ∧ w.cell? ⟨b, o + 4, none⟩ = some (.bool x.result) ∧
    (∃ u, w.cell? ⟨b, o + 5, none⟩ = some u ∧ insIn S w u x.ins) ∧ ∃ u, w.cell? ⟨b, o + 6, none⟩ = some u ∧ varsIn S w u x.vars
def unitsIn (S : Nat → Prop) (w : World) (v : Value) (l : List Un) : Prop := rowIn S w v 7 (unE S) l
/-- The four values of a code. -/
structure CodeIn (S : Nat → Prop) (w : World) (c : Cd) (vs vh vu : Value) : Prop where
  strs : strsIn S w vs c.strs
  shapes : shapesIn S w vh c.shapes
  units : unitsIn S w vu c.units

theorem strE_keeps (S : Nat → Prop) : KeepsE S strE := fun _ _ _ _ _ _ hb hS hlt h => (World.cell?_of_block (hb _ hS hlt)).trans h
theorem insE_keeps (S : Nat → Prop) : KeepsE S insE := fun _ _ _ _ _ _ hb hS hlt h => ⟨(World.cell?_of_block (hb _ hS hlt)).trans h.1, (World.cell?_of_block (hb _ hS hlt)).trans h.2⟩
theorem varE_keeps (S : Nat → Prop) : KeepsE S varE := fun _ _ _ _ _ _ hb hS hlt ⟨a, b, c, d⟩ => ⟨(World.cell?_of_block (hb _ hS hlt)).trans a, (World.cell?_of_block (hb _ hS hlt)).trans b, (World.cell?_of_block (hb _ hS hlt)).trans c, (World.cell?_of_block (hb _ hS hlt)).trans d⟩
theorem shE_keeps (S : Nat → Prop) : KeepsE S (shE S) := fun _ _ _ _ _ hs hb hS hlt ⟨a, u, b, c⟩ => ⟨(World.cell?_of_block (hb _ hS hlt)).trans a, u, (World.cell?_of_block (hb _ hS hlt)).trans b, rowIn.kept c (strE_keeps S) hs hb⟩
theorem unE_keeps (S : Nat → Prop) : KeepsE S (unE S) := fun _ _ _ _ _ hs hb hS hlt ⟨a, b, c, d, e, ⟨u, f, g⟩, y, h, i⟩ =>
  ⟨(World.cell?_of_block (hb _ hS hlt)).trans a, (World.cell?_of_block (hb _ hS hlt)).trans b, (World.cell?_of_block (hb _ hS hlt)).trans c, (World.cell?_of_block (hb _ hS hlt)).trans d, (World.cell?_of_block (hb _ hS hlt)).trans e,
    ⟨u, (World.cell?_of_block (hb _ hS hlt)).trans f, rowIn.kept g (insE_keeps S) hs hb⟩, y, (World.cell?_of_block (hb _ hS hlt)).trans h, rowIn.kept i (varE_keeps S) hs hb⟩
theorem CodeIn.kept {S : Nat → Prop} {w w' : World} {c : Cd} {vs vh vu : Value} (h : CodeIn S w c vs vh vu) (hs : w.heap.size ≤ w'.heap.size) (hb : ∀ q, S q → q < w.heap.size → w'.heap[q]? = w.heap[q]?) : CodeIn S w' c vs vh vu :=
  ⟨rowIn.kept h.strs (strE_keeps S) hs hb, rowIn.kept h.shapes (shE_keeps S) hs hb, rowIn.kept h.units (unE_keeps S) hs hb⟩
theorem CodeIn.below {S : Nat → Prop} {w w' : World} {c : Cd} {vs vh vu : Value} (h : CodeIn S w c vs vh vu) (hb : Below w.heap.size w w') : CodeIn S w' c vs vh vu := h.kept hb.size fun q _ hq => hb.block q hq
end Go.Proofs.YtechkkphbajmoaaGreatDoor
