/- code: a code as text. -/
import Derived.Test.YtechkkphbajmoaaGreatDoorCInsText
import Derived.Test.YtechkkphbajmoaaGreatDoorCHeights
import Derived.Test.YtechkkphbajmoaaGreatDoorME
import Derived.Test.YtechkkphbajmoaaGreatDoorCBytes
import Derived.Test.YtechkkphbajmoaaGreatDoorWMix
namespace Go.Proofs.YtechkkphbajmoaaGreatDoor
open Go.RowKit Go.Shelf

theorem cstep_append_at {P : Program} {ops : Array Oper} {o : Oper} {a : Act} {w : World} {K : Act → World → Prop} {Q : Exit → Act → World → Prop} {E : Prop} (s x : Operand) (t : TypeId)
    (ho : o.op = .call { callee := .builtin .append, args := #[s, x], argTypes := #[t, t] }) (hw : Region.wanted o (yielded ops a.tmps) = true)
    (base : Nat) (e : TypeId) (i : TypeInfo) (z : Value) (size bytes : Nat) (ht : P.underlying t = some (.slice e)) (hi : P.info? e = some i) (hz : i.zero = some z)
    (hsize : i.size = size) (hby : i.bytes = bytes) (hzs : z.cells.size = size) (hsz : 0 < size)
    (v : Value) (n : Nat) (xs : List Value) (hs : a.eval s = v) (hown : w.ownsRow base e size v n xs)
    (ad : Addr) (m c : Nat) (news : List Value) (hx : a.eval x = .slice (some ad) m c) (hl : news.length = m * size) (hnews : ∀ j u, news[j]? = some u → w.cell? (ad.add j) = some u) (h1 : ∀ u ∈ news, u.oneCell' = true)
    (h63 : n + m ≤ maxLen) (hbytes : (n + m) * bytes ≤ 140737488355328) (hbase : base ≤ w.heap.size)
    (h : ∀ v' w', w'.ownsRow base e size v' (n + m) (xs ++ news) → w.grownBy w' v.ownBlock → (v'.ownBlock = v.ownBlock ∨ v'.ownBlock = some w.heap.size) → K (a.put o.dst v') w') :
    if Region.wanted o (yielded ops a.tmps) = true then Oper.wp P o a w K Q else E := by
  rw [if_pos hw]
  obtain ⟨v', w', hrun, g1, g2, -, g4⟩ := run_append_own_at (P := P) w base t o.type e i z size bytes ht hi hz hsize hby hzs hsz v n xs hown ad m c news hl hnews h1 h63 hbytes hbase
  unfold Oper.wp
  simp [execOp, ho, resolve, invoke, builtin, hs, hx, hrun, Result.andThen]
  exact h v' w' g1 g2 g4

/-- The lines of instructions, from this number on. -/
def linesT : Nat → List In7 → List (List UInt8)
  | _, [] => []
  | k, x :: t => ((Lib.itoa (k : Int) ++ [32]) ++ insT x) :: linesT (k + 1) t
def unT (u : Un) : List (List UInt8) := ([102, 110, 32] ++ u.name) :: linesT 0 u.ins
def listT (c : Cd) : List (List UInt8) := (c.units.map unT).flatten
theorem linesT_app : ∀ (k : Nat) (l m : List In7), linesT k (l ++ m) = linesT k l ++ linesT (k + l.length) m
  | k, [], m => by simp [linesT]
  | k, x :: t, m => by
    simp only [List.cons_append, linesT, linesT_app (k + 1) t m, List.length_cons]
    rw [show k + 1 + t.length = k + (t.length + 1) by omega]
theorem linesT_snoc (l : List In7) (i : Nat) (hi : i < l.length) : linesT 0 (l.take (i + 1)) = linesT 0 (l.take i) ++ [(Lib.itoa (i : Int) ++ [32]) ++ insT l[i]] := by
  have h : l.take i ++ [l[i]] = l.take (i + 1) := List.take_append_getElem hi
  rw [← h, linesT_app, List.length_take, Nat.min_eq_left (Nat.le_of_lt hi)]
  simp [linesT]
theorem linesT_len : ∀ (k : Nat) (l : List In7), (linesT k l).length = l.length
  | _, [] => rfl
  | k, x :: t => by simp [linesT, linesT_len (k + 1) t]
def strC (l : List (List UInt8)) : List Value := l.map fun s => Value.string (strB s)
theorem strC_snoc (l : List (List UInt8)) (s : List UInt8) : strC (l ++ [s]) = strC l ++ [.string (strB s)] := by simp [strC]
theorem insT_len {x : In7} (hop : 0 ≤ x.op ∧ x.op < 35) (ha : -9223372036854775808 ≤ x.a ∧ x.a ≤ 9223372036854775807) : (insT x).length ≤ 2000 := by
  have hn : x.op.toNat < opsL.length := by show x.op.toNat < 35; omega
  unfold insT
  rw [List.getElem?_eq_getElem hn]
  have h1 := ops_name _ (List.getElem_mem hn)
  have h2 := citoa_len x.a ha.1 ha.2
  simp only
  split
  · omega
  · simp only [List.length_append, List.length_singleton]; omega

/-- Lines that are told so far, in a row of one's own. -/
structure ListJ (B : Nat) (w0 wr : World) (v : Value) (l : List (List UInt8)) : Prop where
  row : wr.ownsRow B 9 1 v l.length (strC l)
  below : Below B w0 wr
  low : B ≤ wr.heap.size
theorem ListJ.new {B : Nat} {w0 wr w1 : World} {v : Value} {l : List (List UInt8)} (h : ListJ B w0 wr v l) (hb : Below wr.heap.size wr w1) : ListJ B w0 w1 v l := ⟨own_stay h.row hb, h.below.trans (hb.mono h.low), Nat.le_trans h.low hb.size⟩
theorem ListJ.snoc {B : Nat} {w0 wr w2 w3 : World} {v v' : Value} {l : List (List UInt8)} {s : List UInt8} {o : Obj} (h : ListJ B w0 wr v l) (h2 : w2 = wr.alloc o) (hr : w3.ownsRow B 9 1 v' (l.length + 1) (strC l ++ [.string (strB s)])) (hg : w2.grownBy w3 v.ownBlock) : ListJ B w0 w3 v' (l ++ [s]) := by
  have hs2 : w2.heap.size = wr.heap.size + 1 := by rw [h2]; simp
  have hs3 := hg.size
  have hlow := h.low
  refine ⟨by rw [strC_snoc, List.length_append]; exact hr, ⟨?_, ?_, ?_, by have := h.below.size; omega, fun k hk => ?_⟩, by omega⟩
  · rw [hg.os, h2]; exact h.below.os
  · rw [hg.tape, h2]; exact h.below.tape
  · rw [hg.output, h2]; exact h.below.output
  · rw [hg.block k (by omega) (fun e => by have := (h.row.lt k e.symm).1; omega), h2, Below.heap_alloc _ _ _ (by omega)]
    exact h.below.block k hk
/-- A block of another type is kept by an append. -/
theorem keep_other {B : Nat} {w2 w3 : World} {v : Value} {n : Nat} {xs : List Value} (hr : w2.ownsRow B 9 1 v n xs) (hg : w2.grownBy w3 v.ownBlock) {q : Nat} {ys : Array Value} {ty : TypeId} {z : Nat × Nat} (hq : w2.heap[q]? = some (.cells ys ty z)) (hne : ty ≠ 9) : w3.heap[q]? = some (.cells ys ty z) := by
  refine (hg.block q (heap_lt hq) fun e => ?_).trans hq
  obtain ⟨cur, hc⟩ := bown_type hr e.symm
  rw [hq] at hc
  cases hc
  exact hne rfl
theorem unitsFew {c : Cd} (h : rightC c = true) : c.units.length ≤ 32 := by
  have h1 := (rightC_parts h).1
  unfold outR at h1
  simp only [Bool.and_eq_true] at h1
  have h2 := h1.2.2.2.2.1
  unfold namesR at h2
  simp only [Bool.and_eq_true, decide_eq_true_eq, List.length_map] at h2
  omega
theorem linesAll_len (c : Cd) (hu : ∀ u ∈ c.units, u.ins.length ≤ 4096) (_ : c.units.length ≤ 1048576) : ∀ (k : Nat), k ≤ 32 → (((c.units.take k).map unT).flatten).length ≤ 10000000 := by
  intro k hk
  have h : ∀ l : List Un, (∀ u ∈ l, u.ins.length ≤ 4096) → ((l.map unT).flatten).length ≤ l.length * 4097 := by
    intro l
    induction l with
    | nil => intro _; simp
    | cons a t ih =>
      intro hl
      have h1 := ih fun u hu => hl u (by simp [hu])
      have h2 := hl a (by simp)
      rw [List.map_cons, List.flatten_cons, List.length_append, List.length_cons]
      have h3 : (unT a).length = a.ins.length + 1 := by simp [unT, linesT_len]
      omega
  have h4 := h (c.units.take k) fun u hu' => hu u (List.mem_of_mem_take hu')
  have h5 : (c.units.take k).length ≤ k := by rw [List.length_take]; omega
  omega
/-- What List answers. -/
def ListRet (N : Nat) (c : Cd) (e : Ending) (w' : World) : Prop :=
  (rightC c = false ∧ e = .returned (.tuple #[.slice none 0 0, .int .i64 2])) ∨ (rightC c = true ∧ ∃ v, e = .returned (.tuple #[v, .int .i64 0]) ∧ w'.ownsRow N 9 1 v (listT c).length (strC (listT c)))
end Go.Proofs.YtechkkphbajmoaaGreatDoor
