/- snap: rows in memory, bytes that grow, rows that are read: what no package knows of. -/
import Derived.Test.YtbdgniiafdjmiaaGreatDoorMX
import Derived.Test.YtbdgniiafdjmiaaGreatDoorWMix
import Derived.Maps.AppendAt
import Derived.Deep.DeepCutAuto
import Derived.BigQuiet
namespace Go.Proofs.YtbdgniiafdjmiaaGreatDoor
open Go.RowKit Go.Shelf

/-- The slice value v reads in the world w as this list, k cells a thing, of which E tells where one lies; its cells lie in a block of S. -/
def rowIn {α : Type} (S : Nat → Prop) (w : World) (v : Value) (k : Nat) (E : World → Nat → Nat → α → Prop) (l : List α) : Prop :=
  ∃ base cap, v = .slice base l.length cap ∧ l.length ≤ cap ∧ cap ≤ maxLen ∧
    (l = [] ∨ ∃ b o, base = some ⟨b, o, none⟩ ∧ S b ∧ b < w.heap.size ∧ ∀ j (hj : j < l.length), E w b (o + j * k) l[j])
/-- What E tells is kept where the blocks of S are. -/
def KeepsE {α : Type} (S : Nat → Prop) (E : World → Nat → Nat → α → Prop) : Prop :=
  ∀ w w' b o x, w.heap.size ≤ w'.heap.size → (∀ q, S q → q < w.heap.size → w'.heap[q]? = w.heap[q]?) → S b → b < w.heap.size → E w b o x → E w' b o x
theorem rowIn.kept {α : Type} {S : Nat → Prop} {w w' : World} {v : Value} {k : Nat} {E : World → Nat → Nat → α → Prop} {l : List α} (h : rowIn S w v k E l) (hE : KeepsE S E) (hs : w.heap.size ≤ w'.heap.size) (hb : ∀ q, S q → q < w.heap.size → w'.heap[q]? = w.heap[q]?) : rowIn S w' v k E l := by
  obtain ⟨base, cap, hv, h1, h2, h3⟩ := h
  refine ⟨base, cap, hv, h1, h2, ?_⟩
  rcases h3 with h3 | ⟨b, o, e, hS, hlt, hc⟩
  · exact .inl h3
  · exact .inr ⟨b, o, e, hS, Nat.lt_of_lt_of_le hlt hs, fun j hj => hE w w' b _ _ hs hb hS hlt (hc j hj)⟩
theorem rowIn.at {α : Type} {S : Nat → Prop} {w : World} {v : Value} {k : Nat} {E : World → Nat → Nat → α → Prop} {l : List α} (h : rowIn S w v k E l) : ∃ base cap, v = .slice base l.length cap ∧ l.length ≤ cap ∧ cap ≤ maxLen ∧ ∀ i (hi : i < l.length), ∃ b o, base = some ⟨b, o, none⟩ ∧ S b ∧ b < w.heap.size ∧ E w b (o + i * k) l[i] := by
  obtain ⟨base, cap, hv, h1, h2, h3⟩ := h
  refine ⟨base, cap, hv, h1, h2, fun i hi => ?_⟩
  rcases h3 with h3 | ⟨b, o, e, hs, hlt, hc⟩
  · subst h3; simp at hi
  · exact ⟨b, o, e, hs, hlt, hc i hi⟩
theorem rowIn.wide {α : Type} {S S' : Nat → Prop} {w : World} {v : Value} {k : Nat} {E E' : World → Nat → Nat → α → Prop} {l : List α} (h : rowIn S w v k E l) (hS : ∀ q, q < w.heap.size → S q → S' q) (hE : ∀ b o x, E w b o x → E' w b o x) : rowIn S' w v k E' l := by
  obtain ⟨base, cap, hv, h1, h2, h3⟩ := h
  refine ⟨base, cap, hv, h1, h2, ?_⟩
  rcases h3 with h3 | ⟨b, o, e, hs, hlt, hc⟩
  · exact .inl h3
  · exact .inr ⟨b, o, e, hS b hlt hs, hlt, fun j hj => hE _ _ _ (hc j hj)⟩
theorem box1 (w : World) (A : Obj) : ∃ w1, w1 = w.alloc A ∧ Below w.heap.size w w1 ∧ Hid (w1.heap.size = w.heap.size + 1) ∧ w1.heap[w.heap.size]? = some A :=
  ⟨_, rfl, (Below.refl _ _).alloc (Nat.le_refl _) _, by show _ = _; simp, World.alloc_heap_new _ _⟩
theorem box2 (w : World) (A B : Obj) : ∃ w1, w1 = (w.alloc A).alloc B ∧ Below w.heap.size w w1 ∧ Hid (w1.heap.size = w.heap.size + 2) ∧ w1.heap[w.heap.size]? = some A ∧ w1.heap[w.heap.size + 1]? = some B :=
  ⟨_, rfl, ((Below.refl _ _).alloc (Nat.le_refl _) _).alloc (by simp) _, by show _ = _; simp, by rw [Below.heap_alloc _ _ _ (by simp)]; exact World.alloc_heap_new _ _, by
    have := World.alloc_heap_new (w.alloc A) B
    simpa using this⟩
theorem box3 (w : World) (A B C : Obj) : ∃ w1, w1 = ((w.alloc A).alloc B).alloc C ∧ Below w.heap.size w w1 ∧ Hid (w1.heap.size = w.heap.size + 3) ∧ w1.heap[w.heap.size]? = some A ∧ w1.heap[w.heap.size + 1]? = some B ∧ w1.heap[w.heap.size + 2]? = some C :=
  ⟨_, rfl, (((Below.refl _ _).alloc (Nat.le_refl _) _).alloc (by simp) _).alloc (by simp; omega) _, by show _ = _; simp,
    by rw [Below.heap_alloc _ _ _ (by simp; omega), Below.heap_alloc _ _ _ (by simp)]; exact World.alloc_heap_new _ _, by
    rw [Below.heap_alloc _ _ _ (by simp)]
    have := World.alloc_heap_new (w.alloc A) B
    simpa using this, by
    have := World.alloc_heap_new ((w.alloc A).alloc B) C
    simpa using this⟩
theorem bcells2 {w : World} {N : Nat} {x0 x1 : Value} {ty : TypeId} (h : w.heap[N]? = some (.cells #[x0, x1] ty (0, 0))) : w.cell? ⟨N, 0, none⟩ = some x0 ∧ w.cell? ⟨N, 1, none⟩ = some x1 := by
  refine ⟨?_, ?_⟩ <;> (simp only [World.cell?, h]; rfl)
theorem bcells4 {w : World} {N : Nat} {x0 x1 x2 x3 : Value} {ty : TypeId} (h : w.heap[N]? = some (.cells #[x0, x1, x2, x3] ty (0, 0))) : w.cell? ⟨N, 0, none⟩ = some x0 ∧ w.cell? ⟨N, 1, none⟩ = some x1 ∧ w.cell? ⟨N, 2, none⟩ = some x2 ∧ w.cell? ⟨N, 3, none⟩ = some x3 := by
  refine ⟨?_, ?_, ?_, ?_⟩ <;> (simp only [World.cell?, h]; rfl)
theorem heap_lt {w : World} {g : Nat} {o : Obj} (h : w.heap[g]? = some o) : g < w.heap.size := (Array.getElem?_eq_some_iff.1 h).1
theorem cells7 {w : World} {N : Nat} {x0 x1 x2 x3 x4 x5 x6 : Value} {ty : TypeId} (h : w.heap[N]? = some (.cells #[x0, x1, x2, x3, x4, x5, x6] ty (0, 0))) :
    w.cell? ⟨N, 0, none⟩ = some x0 ∧ w.cell? ⟨N, 1, none⟩ = some x1 ∧ w.cell? ⟨N, 2, none⟩ = some x2 ∧ w.cell? ⟨N, 3, none⟩ = some x3 ∧ w.cell? ⟨N, 4, none⟩ = some x4 ∧ w.cell? ⟨N, 5, none⟩ = some x5 ∧ w.cell? ⟨N, 6, none⟩ = some x6 := by
  refine ⟨?_, ?_, ?_, ?_, ?_, ?_, ?_⟩ <;> (simp only [World.cell?, h]; rfl)
/-- Bytes of one's own that have grown: all else is as it was. -/
structure OwnTo (B : Nat) (w : World) (v : Value) (w' : World) (v' : Value) (us' : List UInt8) : Prop where
  row : w'.ownsRow B 5 1 v' us'.length (Lib.byteCells us')
  grown : w.grownBy w' v.ownBlock
  loc : v'.ownBlock = v.ownBlock ∨ ∃ k, v'.ownBlock = some k ∧ w.heap.size ≤ k
theorem OwnTo.refl {B : Nat} {w : World} {v : Value} {us : List UInt8} (h : w.ownsRow B 5 1 v us.length (Lib.byteCells us)) : OwnTo B w v w v us := ⟨h, grownBy_refl _ _, .inl rfl⟩
theorem OwnTo.trans {B : Nat} {w w1 w2 : World} {v v1 v2 : Value} {us1 us2 : List UInt8} (h : OwnTo B w v w1 v1 us1) (h2 : OwnTo B w1 v1 w2 v2 us2) : OwnTo B w v w2 v2 us2 := by
  refine ⟨h2.row, ⟨h2.grown.os.trans h.grown.os, h2.grown.tape.trans h.grown.tape, h2.grown.output.trans h.grown.output, Nat.le_trans h.grown.size h2.grown.size, fun k hk hne => ?_⟩, ?_⟩
  · refine (h2.grown.block k (Nat.lt_of_lt_of_le hk h.grown.size) fun e => ?_).trans (h.grown.block k hk hne)
    rcases h.loc with e1 | ⟨q, e1, hq⟩
    · exact hne (e.trans e1)
    · rw [e1] at e; cases e; omega
  · rcases h2.loc with e2 | ⟨q, e2, hq⟩
    · rcases h.loc with e1 | ⟨q, e1, hq⟩
      · exact .inl (e2.trans e1)
      · exact .inr ⟨q, e2.trans e1, hq⟩
    · exact .inr ⟨q, e2, Nat.le_trans h.grown.size hq⟩
/-- Behind new memory. -/
theorem OwnTo.behind {B : Nat} {w w1 w2 : World} {v v2 : Value} {us2 : List UInt8} (hb : Below w.heap.size w w1) (h2 : OwnTo B w1 v w2 v2 us2) : OwnTo B w v w2 v2 us2 := by
  refine ⟨h2.row, ⟨h2.grown.os.trans hb.os, h2.grown.tape.trans hb.tape, h2.grown.output.trans hb.output, Nat.le_trans hb.size h2.grown.size, fun k hk hne => (h2.grown.block k (Nat.lt_of_lt_of_le hk hb.size) hne).trans (hb.block k hk)⟩, ?_⟩
  rcases h2.loc with e | ⟨q, e, hq⟩
  · exact .inl e
  · exact .inr ⟨q, e, Nat.le_trans hb.size hq⟩
theorem bown_type {w : World} {B e sz n k : Nat} {v : Value} {xs : List Value} (h : w.ownsRow B e sz v n xs) (hk : v.ownBlock = some k) : ∃ cur, w.heap[k]? = some (.cells cur e (0, 0)) := by
  rcases h.2 with ⟨rfl, _⟩ | ⟨g, cap, cur, rfl, _, hh, _⟩
  · simp [Value.ownBlock] at hk
  · simp [Value.ownBlock] at hk
    subst hk
    exact ⟨cur, hh⟩
/-- A block of another type is kept. -/
theorem OwnTo.other {B : Nat} {w w' : World} {v v' : Value} {us us' : List UInt8} (h : OwnTo B w v w' v' us') (ho : w.ownsRow B 5 1 v us.length (Lib.byteCells us)) {q : Nat} {xs : Array Value} {ty : TypeId} {z : Nat × Nat} (hq : w.heap[q]? = some (.cells xs ty z)) (hne : ty ≠ 5) : w'.heap[q]? = some (.cells xs ty z) := by
  refine (h.grown.block q (heap_lt hq) fun e => ?_).trans hq
  obtain ⟨cur, hc⟩ := bown_type ho e.symm
  rw [hq] at hc
  cases hc
  exact hne rfl
theorem OwnTo.low {B : Nat} {w w' : World} {v v' : Value} {us us' : List UInt8} (h : OwnTo B w v w' v' us') (ho : w.ownsRow B 5 1 v us.length (Lib.byteCells us)) (hB : B ≤ w.heap.size) : Below B w w' :=
  ⟨h.grown.os, h.grown.tape, h.grown.output, h.grown.size, fun k hk => h.grown.block k (by omega) fun e => by have := (ho.lt k e.symm).1; omega⟩
theorem own_stay {w w' : World} {B e n : Nat} {v : Value} {xs : List Value} (h : w.ownsRow B e 1 v n xs) (hb : Below w.heap.size w w') : w'.ownsRow B e 1 v n xs := by
  obtain ⟨h1, h2⟩ := h
  refine ⟨h1, ?_⟩
  rcases h2 with h2 | ⟨g, cap, cur, hv, hg, hh, h3⟩
  · exact .inl h2
  · exact .inr ⟨g, cap, cur, hv, hg, (hb.block g (heap_lt hh)).trans hh, h3⟩
theorem own_form0 {w : World} {B e n : Nat} {v : Value} {xs : List Value} (h : w.ownsRow B e 1 v n xs) : ∃ base cap, v = .slice base n cap := by
  rcases h.2 with ⟨rfl, h2⟩ | ⟨g, cap, cur, rfl, _⟩
  · exact ⟨none, 0, by rw [h2]⟩
  · exact ⟨_, _, rfl⟩
theorem bytesAt_block {w w' : World} {v : Value} {bs : List UInt8} (h : bytesAt w v bs) (hb : ∀ a n c, v = .slice (some a) n c → w'.heap[a.block]? = w.heap[a.block]?) : bytesAt w' v bs := by
  obtain ⟨base, cap, rfl, hn, h1, h2, hc⟩ := h
  refine ⟨base, cap, rfl, hn, h1, h2, fun a ha j u hj => ?_⟩
  have h3 := hc a ha j u hj
  subst ha
  have hblk : (a.add j).block = a.block := by unfold Addr.add; split <;> rfl
  exact (World.cell?_of_block (by rw [hblk]; exact hb a _ _ rfl)).trans h3
set_option maxRecDepth 100000 in
theorem append_bytes_at {ops : Array Oper} {rest : List Oper} {o : Oper} {a : Act} {w : World} {Q : Exit → Act → World → Prop} (hgd : o.guard = none) (s x : Operand)
    (ho : o.op = .call { callee := .builtin .append, args := #[s, x], argTypes := #[30, 30] })
    (B : Nat) (v : Value) (us : List UInt8) (hs : a.eval s = v) (hown : w.ownsRow B 5 1 v us.length (Lib.byteCells us)) (xv : Value) (bs : List UInt8) (hx : a.eval x = xv) (hv : bytesAt w xv bs)
    (hb : us.length + bs.length ≤ 140737488355328) (hB : B ≤ w.heap.size)
    (h : ∀ v' w', OwnTo B w v w' v' (us ++ bs) → wpList Tryz.prog ops Q rest (a.put o.dst v') w') : wpList Tryz.prog ops Q (o :: rest) a w := by
  obtain ⟨i0, hi, hz0, hz1, hz2⟩ := info_parts info_u8
  obtain ⟨base, cap, rfl, hn, h1, h2, hc⟩ := hv
  cases base with
  | none =>
    obtain ⟨rfl, rfl⟩ := hn rfl
    refine wpList_append_own_none hgd s x 30 ho B 5 i0 1 Tryz.underlying30 hi v us.length _ hs hown hx ?_
    refine h v w ?_
    rw [List.append_nil]; exact OwnTo.refl hown
  | some ad =>
    refine wpList_append_own_at _ hgd s x 30 ho B 5 i0 (.int .u8 0) 1 1 Tryz.underlying30 hi hz0 hz1 hz2 rfl (by decide) v us.length _ hs hown ad bs.length cap (Lib.byteCells bs) hx (by rw [Lib.byteCells_length, Nat.mul_one]) (hc ad rfl) (bytes_one bs) (by unfold maxLen; omega) (by omega) hB ?_
    intro v' w' ho' hg' _ hloc
    refine h v' w' ⟨?_, hg', hloc.imp id fun e => ⟨_, e, Nat.le_refl _⟩⟩
    rw [List.length_append, Lib.byteCells_append]
    exact ho'
/-- A text with its length ahead. -/
def txB (s : List UInt8) : List UInt8 := numB s.length ++ s
theorem txB_eq (s : List UInt8) : textB (strB s) = txB s := rfl
def flatP (ps : List (Value × List UInt8)) : List UInt8 := (ps.map (fun p => p.2)).flatten
theorem catB_flat (ps : List (Value × List UInt8)) : catB ps ps.length = flatP ps := by unfold catB flatP; rw [List.take_length]
/-- How many there are, and each. -/
def allB {α : Type} (pc : α → List UInt8) (l : List α) : List UInt8 := numB l.length ++ (l.map pc).flatten
theorem flat_succ {α : Type} (pc : α → List UInt8) (l : List α) {i : Nat} (hi : i < l.length) : ((l.take (i + 1)).map pc).flatten = ((l.take i).map pc).flatten ++ pc l[i] := by
  have h : l.take i ++ [l[i]] = l.take (i + 1) := List.take_append_getElem hi
  rw [← h, List.map_append, List.flatten_append]
  simp only [List.map_cons, List.map_nil, List.flatten_cons, List.flatten_nil, List.append_nil]
theorem flat_le {α : Type} (pc : α → List UInt8) (l : List α) (i : Nat) : ((l.take i).map pc).flatten.length ≤ (l.map pc).flatten.length := by
  have h : l.map pc = (l.take i).map pc ++ (l.drop i).map pc := by rw [← List.map_append, List.take_append_drop]
  rw [h, List.flatten_append, List.length_append]
  omega
theorem own_form1 {w : World} {B e n : Nat} {v : Value} {xs : List Value} (h : w.ownsRow B e 1 v n xs) : ∃ n0 base cap, v = .slice base n0 cap := by
  obtain ⟨b, c, h⟩ := own_form0 h
  exact ⟨_, b, c, h⟩
/-- Reading a number, a truth, a text, a count. -/
def rI (bs : List UInt8) (a r : Nat) : Int × Nat × Nat := stepR 0 a r (getI (bs.drop a))
def rB (bs : List UInt8) (a r : Nat) : Bool × Nat × Nat := stepR false a r (getB (bs.drop a))
def rC (bs : List UInt8) (a r : Nat) : Int × Nat × Nat := stepR 0 a r (getC (bs.drop a) 1048576)
/-- So many, while all is well. -/
def loopR {α : Type} (one : Nat → Nat → α × Nat × Nat) : Nat → Nat → Nat → List α × Nat × Nat
  | 0, a, r => ([], a, r)
  | n + 1, a, r => if r ≠ 0 then ([], a, r) else ((one a r).1 :: (loopR one n (one a r).2.1 (one a r).2.2).1, (loopR one n (one a r).2.1 (one a r).2.2).2)
def rAll {α : Type} (bs : List UInt8) (one : Nat → Nat → α × Nat × Nat) (a r : Nat) : List α × Nat × Nat := loopR one (rC bs a r).1.toNat (rC bs a r).2.1 (rC bs a r).2.2
theorem loopR_bad {α : Type} (one : Nat → Nat → α × Nat × Nat) (n a r : Nat) (h : r ≠ 0) : loopR one n a r = ([], a, r) := by
  cases n with
  | zero => rfl
  | succ n => unfold loopR; rw [if_pos h]
theorem loopR_zero {α : Type} (one : Nat → Nat → α × Nat × Nat) (a r : Nat) : loopR one 0 a r = ([], a, r) := rfl
theorem loopR_succ {α : Type} (one : Nat → Nat → α × Nat × Nat) (n a : Nat) : loopR one (n + 1) a 0 = ((one a 0).1 :: (loopR one n (one a 0).2.1 (one a 0).2.2).1, (loopR one n (one a 0).2.1 (one a 0).2.2).2) := by
  rw [loopR, if_neg (by simp)]
theorem getC_most (bs : List UInt8) (m : Int) (hm : 0 ≤ m) : (getC bs m).1 ≤ m := by
  unfold getC
  split
  · exact hm
  · split
    · exact hm
    · split
      · exact hm
      · rename_i h; omega
theorem rC_bound (bs : List UInt8) (a r : Nat) : 0 ≤ (rC bs a r).1 ∧ (rC bs a r).1 ≤ 1048576 := by
  unfold rC stepR
  split
  · simp
  · split
    · simp
    · exact ⟨getC_nonneg _ _, getC_most _ _ (by decide)⟩
/-- How a thing's cells are: k of them, one cell each, of which rows hang that lie in blocks of S. -/
structure CellLaw {α : Type} (k : Nat) (CO : (Nat → Prop) → World → α → List Value → Prop) : Prop where
  len : ∀ S w x cs, CO S w x cs → cs.length = k
  one : ∀ S w x cs, CO S w x cs → ∀ u ∈ cs, u.oneCell' = true
  keep : ∀ S w w' x cs, CO S w x cs → w.heap.size ≤ w'.heap.size → (∀ q, S q → q < w.heap.size → w'.heap[q]? = w.heap[q]?) → CO S w' x cs
  wide : ∀ (S S' : Nat → Prop) w x cs, CO S w x cs → (∀ q, q < w.heap.size → S q → S' q) → CO S' w x cs
/-- Blocks from N on, but the reader's and the row's own. -/
def SV (N p : Nat) (v : Value) (b : Nat) : Prop := N ≤ b ∧ b ≠ p ∧ v.ownBlock ≠ some b
/-- A row as it grows, beside its reader. -/
structure RowJ {α : Type} (CO : (Nat → Prop) → World → α → List Value → Prop) (k N p : Nat) (ty : TypeId) (w0 : World) (base : Option Addr) (cap : Nat) (bs : List UInt8) (v : Value) (wr : World) (l : List α) (css : List (List Value)) (a r : Nat) : Prop where
  rd : ReaderAt wr p base cap bs a r
  kept : w0.grownBy wr (some p)
  len : css.length = l.length
  co : ∀ i (h : i < l.length) (h' : i < css.length), CO (SV N p v) wr l[i] css[i]
  row : wr.ownsRow N ty k v l.length css.flatten
  hN : N = w0.heap.size
  low : N ≤ wr.heap.size
  plt : p < N
  blt : ∀ x, base = some x → x.block < N
theorem RowJ.start {α : Type} {CO : (Nat → Prop) → World → α → List Value → Prop} {k N p : Nat} {ty : TypeId} {w0 wr : World} {base : Option Addr} {cap : Nat} {bs : List UInt8} {a r : Nat} (hr : ReaderAt wr p base cap bs a r) (hk : w0.grownBy wr (some p)) (hN : N = w0.heap.size) (hp : p < N) (hb : ∀ x, base = some x → x.block < N) : RowJ CO k N p ty w0 base cap bs (.slice none 0 0) wr ([] : List α) [] a r :=
  ⟨hr, hk, rfl, fun _ h _ => absurd h (by simp), World.ownsRow_nil _ _ _ _, hN, by rw [hN]; exact hk.size, hp, hb⟩
theorem flatten_len {k : Nat} {css : List (List Value)} (h : ∀ cs ∈ css, cs.length = k) : css.flatten.length = css.length * k := by
  induction css with
  | nil => simp
  | cons c t ih =>
    rw [List.flatten_cons, List.length_append, ih fun cs hcs => h cs (by simp [hcs]), h c (by simp), List.length_cons, Nat.add_mul, Nat.one_mul, Nat.add_comm]
/-- One more. -/
theorem RowJ.snoc {α : Type} {CO : (Nat → Prop) → World → α → List Value → Prop} {k N p : Nat} (law : CellLaw k CO) {ty : TypeId} {w0 : World} {base : Option Addr} {cap : Nat} {bs : List UInt8} {v v' : Value} {wr w1 w2 w3 : World} {l : List α} {css : List (List Value)} {a r a1 r1 : Nat} (h : RowJ CO k N p ty w0 base cap bs v wr l css a r) {x : α} {cs : List Value} {o : Obj}
    (hr1 : ReaderAt w1 p base cap bs a1 r1) (hg1 : wr.grownBy w1 (some p)) (hco : CO (fun b => wr.heap.size ≤ b) w1 x cs) (hw2 : w2 = w1.alloc o) (hrow : w3.ownsRow N ty k v' (l.length + 1) (css.flatten ++ cs)) (hg3 : w2.grownBy w3 v.ownBlock) (hloc : v'.ownBlock = v.ownBlock ∨ v'.ownBlock = some w2.heap.size) :
    RowJ CO k N p ty w0 base cap bs v' w3 (l ++ [x]) (css ++ [cs]) a1 r1 := by
  have hs1 := hg1.size
  have hs2 : w2.heap.size = w1.heap.size + 1 := by rw [hw2]; simp
  have hs3 := hg3.size
  have hvlt := h.row.lt
  have k13 : ∀ q, q < w1.heap.size → v.ownBlock ≠ some q → w3.heap[q]? = w1.heap[q]? := fun q hq hne => by
    rw [hg3.block q (by omega) (fun e => hne e.symm), hw2, Below.heap_alloc _ _ _ hq]
  have kr3 : ∀ q, q < wr.heap.size → q ≠ p → v.ownBlock ≠ some q → w3.heap[q]? = wr.heap[q]? := fun q hq hp hne =>
    (k13 q (by omega) hne).trans (hg1.block q hq (by simpa using hp))
  have hvN : ∀ q, q < N → v.ownBlock ≠ some q := fun q hq e => by have := (hvlt q e).1; omega
  have hplt := h.plt
  have hlow := h.low
  refine ⟨hr1.kept fun q hq hc => k13 q hq (hvN q ?_), ?_, by simp [h.len], fun i hi hi' => ?_, ?_, h.hN, by omega, h.plt, h.blt⟩
  · rcases hc with rfl | ⟨b, e, rfl⟩
    · exact h.plt
    · exact h.blt b e
  · refine ⟨?_, ?_, ?_, ?_, fun q hq hne => ?_⟩
    · rw [hg3.os, hw2]; exact hg1.os.trans h.kept.os
    · rw [hg3.tape, hw2]; exact hg1.tape.trans h.kept.tape
    · rw [hg3.output, hw2]; exact hg1.output.trans h.kept.output
    · have := h.kept.size; omega
    · have hq2 : q < wr.heap.size := Nat.lt_of_lt_of_le hq h.kept.size
      exact (kr3 q hq2 (by simpa using hne) (hvN q (by rw [h.hN]; exact hq))).trans (h.kept.block q hq hne)
  · by_cases e : i < l.length
    · rw [List.getElem_append_left e, List.getElem_append_left (by rw [h.len]; exact e)]
      have h1 := h.co i e (by rw [h.len]; exact e)
      have h2 := law.wide _ (fun q => SV N p v q ∧ q < wr.heap.size) _ _ _ h1 (fun q hq hS => ⟨hS, hq⟩)
      have h3 := law.keep _ _ w3 _ _ h2 (by omega) (fun q hS hq => kr3 q hq hS.1.2.1 hS.1.2.2)
      refine law.wide _ _ _ _ _ h3 fun q _ hS => ⟨hS.1.1, hS.1.2.1, ?_⟩
      rcases hloc with e1 | e1
      · rw [e1]; exact hS.1.2.2
      · rw [e1]
        intro e2
        have e3 : w2.heap.size = q := Option.some.inj e2
        have := hS.2
        omega
    · have hie : i = l.length := by
        rw [List.length_append] at hi
        simp at hi
        omega
      subst hie
      rw [List.getElem_append_right (Nat.le_refl _)]
      have hc' : (css ++ [cs])[l.length]'hi' = cs := by
        rw [List.getElem_append_right (by rw [h.len]; exact Nat.le_refl _)]
        simp [h.len]
      rw [hc']
      simp only [Nat.sub_self, List.getElem_cons_zero]
      have h2 := law.wide _ (fun q => wr.heap.size ≤ q ∧ q < w1.heap.size) _ _ _ hco (fun q hq hS => ⟨hS, hq⟩)
      have h3 := law.keep _ _ w3 _ _ h2 (by omega) (fun q hS hq => k13 q hq (fun e => by have := (hvlt q e).2; have := hS.1; omega))
      refine law.wide _ _ _ _ _ h3 fun q _ hS => ⟨by have := hS.1; omega, by have := hS.1; omega, ?_⟩
      rcases hloc with e1 | e1
      · rw [e1]; exact fun e2 => by have := (hvlt q e2).2; have := hS.1; omega
      · rw [e1]
        intro e2
        have e3 : w2.heap.size = q := Option.some.inj e2
        have := hS.2
        omega
  · have : (l ++ [x]).length = l.length + 1 := by simp
    rw [this, List.flatten_append]
    simpa using hrow
/-- A row that was read lies in memory. -/
theorem RowJ.rowIn {α : Type} {CO : (Nat → Prop) → World → α → List Value → Prop} {k N p : Nat} (law : CellLaw k CO) {ty : TypeId} {w0 : World} {base : Option Addr} {cap : Nat} {bs : List UInt8} {v : Value} {wr : World} {l : List α} {css : List (List Value)} {a r : Nat} (h : RowJ CO k N p ty w0 base cap bs v wr l css a r) {E : World → Nat → Nat → α → Prop}
    (hE : ∀ x cs b o, CO (fun b => N ≤ b ∧ b ≠ p) wr x cs → (∀ j (hj : j < cs.length), wr.cell? ⟨b, o + j, none⟩ = some cs[j]) → E wr b o x) : rowIn (fun b => N ≤ b ∧ b ≠ p) wr v k E l := by
  have hplt := h.plt
  rcases h.row.2 with ⟨hv, h0⟩ | ⟨g, cp, cur, hv, hg, hh, hnc, hcm, hcs, htake⟩
  · refine ⟨none, 0, by rw [hv, h0], by omega, by decide, .inl (List.length_eq_zero_iff.1 h0)⟩
  · refine ⟨some ⟨g, 0, none⟩, cp, hv, hnc, hcm, .inr ⟨g, 0, rfl, ⟨hg, by omega⟩, heap_lt hh, fun i hi => ?_⟩⟩
    have hi' : i < css.length := by rw [h.len]; exact hi
    have hco := h.co i hi hi'
    refine hE l[i] css[i] g _ (law.wide _ _ _ _ _ hco fun q _ hS => ⟨hS.1, hS.2.1⟩) fun j hj => ?_
    have hlens : ∀ cs ∈ css, cs.length = k := fun cs hcs' => by
      obtain ⟨q, hq, rfl⟩ := List.getElem_of_mem hcs'
      exact law.len _ _ _ _ (h.co q (by rw [← h.len]; exact hq) hq)
    have hjk : j < k := by rw [← hlens css[i] (List.getElem_mem hi')]; exact hj
    have hpos : css.flatten[i * k + j]? = some css[i][j] := by
      have hd : css = css.take i ++ css[i] :: css.drop (i + 1) := by rw [List.getElem_cons_drop, List.take_append_drop]
      have hl1 : (css.take i).flatten.length = i * k := by
        rw [flatten_len fun cs hcs' => hlens cs (List.mem_of_mem_take hcs'), List.length_take, Nat.min_eq_left (Nat.le_of_lt hi')]
      conv => lhs; rw [hd]
      rw [List.flatten_append, List.flatten_cons, List.getElem?_append_right (by omega), hl1, Nat.add_sub_cancel_left, List.getElem?_append_left hj, List.getElem?_eq_getElem hj]
    have hcell := h.row.cells (g := g) (by rw [hv]; rfl) (i * k + j) css[i][j] hpos
    rw [show (⟨g, 0 + i * k + j, none⟩ : Addr) = (⟨g, 0, none⟩ : Addr).add (i * k + j) by rw [add_zero']; simp]
    exact hcell
theorem rcells_new (w : World) (l : List Value) (ty : TypeId) : ∀ j u, l[j]? = some u → (w.alloc (.cells l.toArray ty)).cell? ((⟨w.heap.size, 0, none⟩ : Addr).add j) = some u := fun j u h => by
  rw [add_zero']
  have hb : (w.alloc (.cells l.toArray ty)).heap[w.heap.size]? = some (.cells l.toArray ty (0, 0)) := World.alloc_heap_new _ _
  simp only [World.cell?, hb]
  simpa using h
def rTx (m : Int) (bs : List UInt8) (a r : Nat) : List UInt8 × Nat × Nat := stepR [] a r (getT (bs.drop a) m)
theorem csetCell_block {w : World} {N j : Nat} {xs : Array Value} {ty : TypeId} (v : Value) (h : w.heap[N]? = some (.cells xs ty (0, 0))) : (w.setCell ⟨N, j, none⟩ v).heap[N]? = some (.cells (xs.setIfInBounds j v) ty (0, 0)) := heap_setCell_same w N j xs ty v h
theorem cfrozen {w : World} {N : Nat} {xs : Array Value} {ty : TypeId} (h : w.heap[N]? = some (.cells xs ty (0, 0))) (j : Nat) : w.frozen? ⟨N, j, none⟩ = false := by simp only [World.frozen?, h]; simp
/-- What is read, as it grows in a block of its own, beside the reader. -/
structure RdBox (w W : World) (p : Nat) (base : Option Addr) (cap : Nat) (bs : List UInt8) (a r : Nat) (ty : TypeId) (zero cur : Array Value) : Prop where
  rd : ReaderAt W p base cap bs a r
  X : W.heap[w.heap.size + 1]? = some (.cells cur ty (0, 0))
  Y : W.heap[w.heap.size]? = some (.cells zero ty (0, 0))
  G : w.grownBy W (some p)
  plt : p < w.heap.size
  blt : ∀ x, base = some x → x.block < w.heap.size
theorem RdBox.call {w W W1 : World} {p : Nat} {base : Option Addr} {cap : Nat} {bs : List UInt8} {a r a1 r1 : Nat} {ty : TypeId} {zero cur : Array Value} (h : RdBox w W p base cap bs a r ty zero cur) (hr : ReaderAt W1 p base cap bs a1 r1) (hg : W.grownBy W1 (some p)) : RdBox w W1 p base cap bs a1 r1 ty zero cur := by
  have hplt := h.plt
  have hx := heap_lt h.X
  refine ⟨hr, (hg.block _ hx (by simp; omega)).trans h.X, (hg.block _ (by omega) (by simp; omega)).trans h.Y, ⟨hg.os.trans h.G.os, hg.tape.trans h.G.tape, hg.output.trans h.G.output, Nat.le_trans h.G.size hg.size, fun k hk hne => (hg.block k (Nat.lt_of_lt_of_le hk h.G.size) hne).trans (h.G.block k hk hne)⟩, h.plt, h.blt⟩
theorem RdBox.store {w W : World} {p : Nat} {base : Option Addr} {cap : Nat} {bs : List UInt8} {a r : Nat} {ty : TypeId} {zero cur : Array Value} (h : RdBox w W p base cap bs a r ty zero cur) (j : Nat) (v : Value) : RdBox w (W.setCell ⟨w.heap.size + 1, j, none⟩ v) p base cap bs a r ty zero (cur.setIfInBounds j v) := by
  have hplt := h.plt
  have hk : ∀ k, k ≠ w.heap.size + 1 → (W.setCell ⟨w.heap.size + 1, j, none⟩ v).heap[k]? = W.heap[k]? := fun k hk => Below.heap_setCell _ _ _ _ (by simpa using hk)
  refine ⟨h.rd.kept fun k _ hc => hk k ?_, csetCell_block v h.X, (hk _ (by omega)).trans h.Y, ⟨h.G.os, h.G.tape, h.G.output, by simpa using h.G.size, fun k hlt hne => (hk k (by omega)).trans (h.G.block k hlt hne)⟩, h.plt, h.blt⟩
  rcases hc with rfl | ⟨x, e, rfl⟩
  · omega
  · have := h.blt x e; omega
theorem RdBox.storeY {w W : World} {p : Nat} {base : Option Addr} {cap : Nat} {bs : List UInt8} {a r : Nat} {ty : TypeId} {zero cur : Array Value} (h : RdBox w W p base cap bs a r ty zero cur) (j : Nat) (v : Value) : RdBox w (W.setCell ⟨w.heap.size, j, none⟩ v) p base cap bs a r ty (zero.setIfInBounds j v) cur := by
  have hplt := h.plt
  have hk : ∀ k, k ≠ w.heap.size → (W.setCell ⟨w.heap.size, j, none⟩ v).heap[k]? = W.heap[k]? := fun k hk => Below.heap_setCell _ _ _ _ (by simpa using hk)
  refine ⟨h.rd.kept fun k _ hc => hk k ?_, (hk _ (by omega)).trans h.X, csetCell_block v h.Y, ⟨h.G.os, h.G.tape, h.G.output, by simpa using h.G.size, fun k hlt hne => (hk k (by omega)).trans (h.G.block k hlt hne)⟩, h.plt, h.blt⟩
  rcases hc with rfl | ⟨x, e, rfl⟩
  · omega
  · have := h.blt x e; omega
theorem RdBox.start {w : World} {p : Nat} {base : Option Addr} {cap : Nat} {bs : List UInt8} {a r : Nat} (hr : ReaderAt w p base cap bs a r) (hp : p < w.heap.size) (hb : ∀ x, base = some x → x.block < w.heap.size) (zero : Array Value) (ty : TypeId) : RdBox w ((w.alloc (.cells zero ty)).alloc (.cells zero ty)) p base cap bs a r ty zero zero := by
  obtain ⟨w1, hw1, hb1, -, h0, h1⟩ := box2 w (.cells zero ty) (.cells zero ty)
  rw [← hw1]
  exact ⟨hr.below hb1 (Nat.le_refl _), h1, h0, ⟨hb1.os, hb1.tape, hb1.output, hb1.size, fun k hk _ => hb1.block k hk⟩, hp, hb⟩
def I64 (n : Int) : Prop := -9223372036854775808 ≤ n ∧ n ≤ 9223372036854775807
theorem loopR_mem {α : Type} (one : Nat → Nat → α × Nat × Nat) : ∀ (n a r : Nat) (x : α), x ∈ (loopR one n a r).1 → ∃ a' r', x = (one a' r').1
  | 0, _, _, x, h => by cases h
  | n + 1, a, r, x, h => by
    rw [loopR] at h
    split at h
    · cases h
    · rcases List.mem_cons.1 h with rfl | h
      · exact ⟨a, r, rfl⟩
      · exact loopR_mem one n _ _ x h
theorem loopR_len {α : Type} (one : Nat → Nat → α × Nat × Nat) : ∀ (n a r : Nat), (loopR one n a r).1.length ≤ n
  | 0, _, _ => by simp [loopR]
  | n + 1, a, r => by
    rw [loopR]
    split
    · simp
    · simp only [List.length_cons]
      have := loopR_len one n (one a r).2.1 (one a r).2.2
      omega
theorem rAll_mem {α : Type} (bs : List UInt8) (one : Nat → Nat → α × Nat × Nat) (a r : Nat) (x : α) (h : x ∈ (rAll bs one a r).1) : ∃ a' r', x = (one a' r').1 := loopR_mem one _ _ _ x h
theorem rAll_len {α : Type} (bs : List UInt8) (one : Nat → Nat → α × Nat × Nat) (a r : Nat) : (rAll bs one a r).1.length ≤ 1048576 := by
  have h1 := loopR_len one (rC bs a r).1.toNat (rC bs a r).2.1 (rC bs a r).2.2
  have h2 := rC_bound bs a r
  show (loopR _ _ _ _).1.length ≤ _
  omega
theorem cells3p {w : World} {N : Nat} {x0 x1 x2 : Value} {ty : TypeId} (h : w.heap[N]? = some (.cells #[x0, x1, x2] ty (0, 0))) : w.cell? ⟨N, 0, none⟩ = some x0 ∧ w.cell? ⟨N, 1, none⟩ = some x1 ∧ w.cell? ⟨N, 2, none⟩ = some x2 := by
  refine ⟨?_, ?_, ?_⟩ <;> (simp only [World.cell?, h]; rfl)
theorem cells5p {w : World} {N : Nat} {x0 x1 x2 x3 x4 : Value} {ty : TypeId} (h : w.heap[N]? = some (.cells #[x0, x1, x2, x3, x4] ty (0, 0))) : w.cell? ⟨N, 0, none⟩ = some x0 ∧ w.cell? ⟨N, 1, none⟩ = some x1 ∧ w.cell? ⟨N, 2, none⟩ = some x2 ∧ w.cell? ⟨N, 3, none⟩ = some x3 ∧ w.cell? ⟨N, 4, none⟩ = some x4 := by
  refine ⟨?_, ?_, ?_, ?_, ?_⟩ <;> (simp only [World.cell?, h]; rfl)
theorem cells1p {w : World} {N : Nat} {x0 : Value} {ty : TypeId} (h : w.heap[N]? = some (.cells #[x0] ty (0, 0))) : w.cell? ⟨N, 0, none⟩ = some x0 := by
  simp only [World.cell?, h]; rfl
end Go.Proofs.YtbdgniiafdjmiaaGreatDoor
