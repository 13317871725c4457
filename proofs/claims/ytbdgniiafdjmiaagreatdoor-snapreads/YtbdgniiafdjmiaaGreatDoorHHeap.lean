/- heap: a heap in memory. -/
import Derived.Test.YtbdgniiafdjmiaaGreatDoorHModel
namespace Go.Proofs.YtbdgniiafdjmiaaGreatDoor
open Go.RowKit Go.Shelf

/-- All but the blocks of S is kept. -/
structure KeptS (S : Nat → Prop) (w w' : World) : Prop where
  os : w'.os = w.os
  tape : w'.tape = w.tape
  output : w'.output = w.output
  size : w.heap.size ≤ w'.heap.size
  block : ∀ k, k < w.heap.size → ¬ S k → w'.heap[k]? = w.heap[k]?

theorem KeptS.refl (S : Nat → Prop) (w : World) : KeptS S w w := ⟨rfl, rfl, rfl, Nat.le_refl _, fun _ _ _ => rfl⟩
theorem KeptS.of {S : Nat → Prop} {w w' : World} (h : Below w.heap.size w w') : KeptS S w w' := ⟨h.os, h.tape, h.output, h.size, fun k hk _ => h.block k hk⟩
theorem KeptS.trans {S S' : Nat → Prop} {a b c : World} (h : KeptS S a b) (k : KeptS S' b c) (hS : ∀ i, i < a.heap.size → S' i → S i) : KeptS S a c :=
  ⟨k.os.trans h.os, k.tape.trans h.tape, k.output.trans h.output, Nat.le_trans h.size k.size, fun i hi hn => (k.block i (Nat.lt_of_lt_of_le hi h.size) fun hs => hn (hS i hi hs)).trans (h.block i hi hn)⟩
theorem KeptS.wide {S S' : Nat → Prop} {a b : World} (h : KeptS S a b) (hS : ∀ i, i < a.heap.size → S i → S' i) : KeptS S' a b :=
  ⟨h.os, h.tape, h.output, h.size, fun k hk hn => h.block k hk fun hs => hn (hS k hk hs)⟩
theorem KeptS.below {S : Nat → Prop} {a b : World} {B : Nat} (h : KeptS S a b) (hB : B ≤ a.heap.size) (hS : ∀ i, S i → B ≤ i) : Below B a b :=
  ⟨h.os, h.tape, h.output, h.size, fun k hk => h.block k (Nat.lt_of_lt_of_le hk hB) fun hs => by have := hS k hs; omega⟩
theorem KeptS.grown {S : Nat → Prop} {a b c : World} {row : Option Nat} (h : KeptS S a b) (hg : b.grownBy c row) (hrow : ∀ k, row = some k → k < a.heap.size → S k) : KeptS S a c :=
  ⟨hg.os.trans h.os, hg.tape.trans h.tape, hg.output.trans h.output, Nat.le_trans h.size hg.size, fun k hk hn => (hg.block k (Nat.lt_of_lt_of_le hk h.size) fun e => hn (hrow k e.symm hk)).trans (h.block k hk hn)⟩
theorem KeptS.alloc {S : Nat → Prop} {a b : World} (h : KeptS S a b) (o : Obj) : KeptS S a (b.alloc o) :=
  ⟨h.os, h.tape, h.output, by have := h.size; simp; omega, fun k hk hn => (Below.heap_alloc _ _ _ (Nat.lt_of_lt_of_le hk h.size)).trans (h.block k hk hn)⟩
theorem KeptS.set {S : Nat → Prop} {a b : World} (h : KeptS S a b) {p : Addr} (v : Value) (hp : p.block < a.heap.size → S p.block) : KeptS S a (b.setCell p v) :=
  ⟨h.os, h.tape, h.output, by have := h.size; simpa using this, fun k hk hn => (Below.heap_setCell _ _ _ _ (fun e => hn (by subst e; exact hp hk))).trans (h.block k hk hn)⟩

/-- The objects' cells: the tag, from where, up to where. -/
def objC : Nat → List Ob → List Value
  | _, [] => []
  | a, o :: os => .string (strB o.1) :: .int .i64 (a : Int) :: .int .i64 ((a + o.2.length : Nat) : Int) :: objC (a + o.2.length) os
/-- The cells of all objects. -/
def allV (os : List Ob) : List Vl := os.flatMap (·.2)

theorem objC_len : ∀ (a : Nat) (os : List Ob), (objC a os).length = os.length * 3
  | _, [] => rfl
  | a, o :: os => by simp only [objC, List.length_cons, objC_len]; omega
theorem allV_cons (o : Ob) (os : List Ob) : allV (o :: os) = o.2 ++ allV os := by unfold allV; rw [List.flatMap_cons]
theorem allV_snoc (os : List Ob) (o : Ob) : allV (os ++ [o]) = allV os ++ o.2 := by unfold allV; rw [List.flatMap_append]; simp
theorem objC_snoc : ∀ (a : Nat) (os : List Ob) (o : Ob), objC a (os ++ [o]) = objC a os ++ [.string (strB o.1), .int .i64 ((a + (allV os).length : Nat) : Int), .int .i64 ((a + (allV os).length + o.2.length : Nat) : Int)]
  | a, [], o => by simp [objC, allV]
  | a, x :: os, o => by
    rw [List.cons_append, objC, objC, objC_snoc, allV_cons, List.length_append]
    simp only [List.cons_append, Nat.add_assoc]
/-- From where an object's cells stand. -/
def fromO (os : List Ob) (i : Nat) : Nat := (allV (os.take i)).length
theorem objC_at : ∀ (a : Nat) (os : List Ob) (i : Nat) (h : i < os.length), (objC a os)[i * 3]? = some (.string (strB (os[i]).1)) ∧ (objC a os)[i * 3 + 1]? = some (.int .i64 ((a + fromO os i : Nat) : Int)) ∧ (objC a os)[i * 3 + 2]? = some (.int .i64 ((a + fromO os i + (os[i]).2.length : Nat) : Int))
  | _, [], _, h => by cases h
  | a, o :: os, 0, _ => by simp [objC, fromO, allV]
  | a, o :: os, i + 1, h => by
    have ih := objC_at (a + o.2.length) os i (by simpa using h)
    have e : fromO (o :: os) (i + 1) = o.2.length + fromO os i := by unfold fromO; rw [List.take_succ_cons, allV_cons, List.length_append]
    have key : ∀ q, (objC a (o :: os))[(i + 1) * 3 + q]? = (objC (a + o.2.length) os)[i * 3 + q]? := fun q => by
      rw [objC, show (i + 1) * 3 + q = (i * 3 + q) + 3 by omega]
      simp only [List.getElem?_cons_succ]
    have k0 := key 0
    simp only [Nat.add_zero] at k0
    rw [k0, key 1, key 2, e, ← Nat.add_assoc]
    exact ih
/-- An object's cells among all. -/
theorem allV_cut : ∀ (os : List Ob) (i : Nat) (h : i < os.length), fromO os i + (os[i]).2.length ≤ (allV os).length ∧ ((allV os).drop (fromO os i)).take (os[i]).2.length = (os[i]).2
  | [], _, h => by cases h
  | o :: os, 0, _ => by
    have e : fromO (o :: os) 0 = 0 := rfl
    simp [e, allV_cons]
  | o :: os, i + 1, h => by
    have ih := allV_cut os i (by simpa using h)
    have e : fromO (o :: os) (i + 1) = o.2.length + fromO os i := by unfold fromO; rw [List.take_succ_cons, allV_cons, List.length_append]
    rw [e, allV_cons]
    simp only [List.getElem_cons_succ, List.length_append]
    refine ⟨by omega, ?_⟩
    rw [← List.drop_drop, List.drop_left]
    exact ih.2

/-- Not too great for the model. -/
def smallV (v : Vl) : Prop := (-9223372036854775808 ≤ v.n ∧ v.n ≤ 9223372036854775807) ∧ v.s.length ≤ 1048576
def smallO (o : Ob) : Prop := o.1.length ≤ 1048576 ∧ ∀ v ∈ o.2, smallV v

/-- The heap at block h: what it may use, its objects; it lies in blocks of S. -/
structure HpIn (S : Nat → Prop) (w : World) (most : Nat) (os : List Ob) (h : Nat) (vo vc : Value) : Prop where
  blk : w.heap[h]? = some (.cells #[.bool true, .int .i64 (most : Int), vo, vc] 153 (0, 0))
  objs : w.ownsRow 0 167 3 vo os.length (objC 0 os)
  cells : w.ownsRow 0 54 3 vc (allV os).length (vlC (allV os))
  sh : S h
  so : ∀ k, vo.ownBlock = some k → S k
  sc : ∀ k, vc.ownBlock = some k → S k
  ok : ∀ o ∈ os, obB o os.length = true ∧ smallO o
  use : os.length + (allV os).length ≤ most
  may : most ≤ 4096

def HpAt (S : Nat → Prop) (w : World) (most : Nat) (os : List Ob) (h : Nat) : Prop := ∃ vo vc, HpIn S w most os h vo vc

theorem own_blocks {w w' : World} {B e sz n : Nat} {v : Value} {xs : List Value} (h : w.ownsRow B e sz v n xs) (hb : ∀ k, v.ownBlock = some k → k < w.heap.size → w'.heap[k]? = w.heap[k]?) : w'.ownsRow B e sz v n xs := by
  refine ⟨h.1, ?_⟩
  rcases h.2 with hn | ⟨g, cap, cur, rfl, hb1, hgg, rest⟩
  · exact .inl hn
  · exact .inr ⟨g, cap, cur, rfl, hb1, (hb g rfl (Array.getElem?_eq_some_iff.1 hgg).1).trans hgg, rest⟩

/-- A row's value, written out. -/
theorem own_val {w : World} {B e sz n : Nat} {v : Value} {xs : List Value} (h : w.ownsRow B e sz v n xs) : ∃ base cap, v = .slice base n cap ∧ n ≤ cap ∧ cap ≤ maxLen := by
  rcases h.2 with ⟨rfl, rfl⟩ | ⟨g, cap, cur, rfl, _, _, h1, h2, _⟩
  · exact ⟨_, _, rfl, Nat.le_refl _, Nat.zero_le _⟩
  · exact ⟨_, _, rfl, h1, h2⟩

theorem HpIn.lt {S : Nat → Prop} {w : World} {most : Nat} {os : List Ob} {h : Nat} {vo vc : Value} (H : HpIn S w most os h vo vc) : h < w.heap.size := (Array.getElem?_eq_some_iff.1 H.blk).1
theorem HpIn.wide {S S' : Nat → Prop} {w : World} {most : Nat} {os : List Ob} {h : Nat} {vo vc : Value} (H : HpIn S w most os h vo vc) (hS : ∀ k, k < w.heap.size → S k → S' k) : HpIn S' w most os h vo vc :=
  { H with sh := hS h H.lt H.sh, so := fun k hk => hS k (H.objs.lt k hk).2 (H.so k hk), sc := fun k hk => hS k (H.cells.lt k hk).2 (H.sc k hk) }
theorem HpIn.low {S : Nat → Prop} {w : World} {most : Nat} {os : List Ob} {h : Nat} {vo vc : Value} (H : HpIn S w most os h vo vc) : HpIn (fun k => S k ∧ k < w.heap.size) w most os h vo vc :=
  H.wide fun _ hk hs => ⟨hs, hk⟩
theorem HpIn.kept {S : Nat → Prop} {w w' : World} {most : Nat} {os : List Ob} {h : Nat} {vo vc : Value} (H : HpIn S w most os h vo vc) (hb : ∀ k, S k → k < w.heap.size → w'.heap[k]? = w.heap[k]?) : HpIn S w' most os h vo vc :=
  { H with blk := (hb h H.sh H.lt).trans H.blk, objs := own_blocks H.objs fun k hk hlt => hb k (H.so k hk) hlt, cells := own_blocks H.cells fun k hk hlt => hb k (H.sc k hk) hlt }
theorem HpIn.below {S : Nat → Prop} {w w' : World} {most : Nat} {os : List Ob} {h : Nat} {vo vc : Value} (H : HpIn S w most os h vo vc) (hb : Below w.heap.size w w') : HpIn S w' most os h vo vc := H.kept fun k _ hk => hb.block k hk

theorem cells4 {w : World} {N : Nat} {x0 x1 x2 x3 : Value} {ty : TypeId} (h : w.heap[N]? = some (.cells #[x0, x1, x2, x3] ty (0, 0))) :
    w.cell? ⟨N, 0, none⟩ = some x0 ∧ w.cell? ⟨N, 1, none⟩ = some x1 ∧ w.cell? ⟨N, 2, none⟩ = some x2 ∧ w.cell? ⟨N, 3, none⟩ = some x3 ∧ ∀ j, w.frozen? ⟨N, j, none⟩ = false := by
  refine ⟨?_, ?_, ?_, ?_, fun j => ?_⟩
  · simp only [World.cell?, h]; rfl
  · simp only [World.cell?, h]; rfl
  · simp only [World.cell?, h]; rfl
  · simp only [World.cell?, h]; rfl
  · simp only [World.frozen?, h]; simp
end Go.Proofs.YtbdgniiafdjmiaaGreatDoor
