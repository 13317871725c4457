import Derived.Test.YtechkkphbajmoaaGreatDoorCPut
import Derived.Test.YtechkkphbajmoaaGreatDoorMB
/- code: rows that are read, thing by thing. -/
namespace Go.Proofs.YtechkkphbajmoaaGreatDoor
open Go.RowKit Go.Shelf

/-- Reading a number, a truth, a text, a count. -/
def rI (bs : List UInt8) (a r : Nat) : Int × Nat × Nat := stepR 0 a r (getI (bs.drop a))
def rB (bs : List UInt8) (a r : Nat) : Bool × Nat × Nat := stepR false a r (getB (bs.drop a))
def rT (bs : List UInt8) (a r : Nat) : List UInt8 × Nat × Nat := stepR [] a r (getT (bs.drop a) 255)
def rC (bs : List UInt8) (a r : Nat) : Int × Nat × Nat := stepR 0 a r (getC (bs.drop a) 1048576)
/-- So many, while all is well. -/
def loopR {α : Type} (one : Nat → Nat → α × Nat × Nat) : Nat → Nat → Nat → List α × Nat × Nat
  | 0, a, r => ([], a, r)
  | n + 1, a, r => if r ≠ 0 then ([], a, r) else ((one a r).1 :: (loopR one n (one a r).2.1 (one a r).2.2).1, (loopR one n (one a r).2.1 (one a r).2.2).2)
def rAll {α : Type} (bs : List UInt8) (one : Nat → Nat → α × Nat × Nat) (a r : Nat) : List α × Nat × Nat := loopR one (rC bs a r).1.toNat (rC bs a r).2.1 (rC bs a r).2.2
theorem loopR_bad {α : Type} (one : Nat → Nat → α × Nat × Nat) (n a r : Nat) (h : r ≠ 0) : loopR one n a r = ([], a, r) := by
  cases n with
  | zero => rfl
  | succ n => unfold loopR; rw [if_pos h]
theorem loopR_zero {α : Type} (one : Nat → Nat → α × Nat × Nat) (a r : Nat) : loopR one 0 a r = ([], a, r) := rfl
theorem loopR_succ {α : Type} (one : Nat → Nat → α × Nat × Nat) (n a : Nat) : loopR one (n + 1) a 0 = ((one a 0).1 :: (loopR one n (one a 0).2.1 (one a 0).2.2).1, (loopR one n (one a 0).2.1 (one a 0).2.2).2) := by
  rw [loopR, if_neg (by simp)]

theorem getC_most (bs : List UInt8) (m : Int) (hm : 0 ≤ m) : (getC bs m).1 ≤ m := by
  unfold getC
  split
  · exact hm
  · split
    · exact hm
    · split
      · exact hm
      · rename_i h; omega
theorem rC_bound (bs : List UInt8) (a r : Nat) : 0 ≤ (rC bs a r).1 ∧ (rC bs a r).1 ≤ 1048576 := by
  unfold rC stepR
  split
  · simp
  · split
    · simp
    · exact ⟨getC_nonneg _ _, getC_most _ _ (by decide)⟩

/-- How a thing's cells are: k of them, one cell each, of which rows hang that lie in blocks of S. -/
structure CellLaw {α : Type} (k : Nat) (CO : (Nat → Prop) → World → α → List Value → Prop) : Prop where
  len : ∀ S w x cs, CO S w x cs → cs.length = k
  one : ∀ S w x cs, CO S w x cs → ∀ u ∈ cs, u.oneCell' = true
  keep : ∀ S w w' x cs, CO S w x cs → w.heap.size ≤ w'.heap.size → (∀ q, S q → q < w.heap.size → w'.heap[q]? = w.heap[q]?) → CO S w' x cs
  wide : ∀ (S S' : Nat → Prop) w x cs, CO S w x cs → (∀ q, q < w.heap.size → S q → S' q) → CO S' w x cs

/-- Blocks from N on, but the reader's and the row's own. -/
def SV (N p : Nat) (v : Value) (b : Nat) : Prop := N ≤ b ∧ b ≠ p ∧ v.ownBlock ≠ some b

/-- A row as it grows, beside its reader. -/
structure RowJ {α : Type} (CO : (Nat → Prop) → World → α → List Value → Prop) (k N p : Nat) (ty : TypeId) (w0 : World) (base : Option Addr) (cap : Nat) (bs : List UInt8) (v : Value) (wr : World) (l : List α) (css : List (List Value)) (a r : Nat) : Prop where
  rd : ReaderAt wr p base cap bs a r
  kept : w0.grownBy wr (some p)
  len : css.length = l.length
  co : ∀ i (h : i < l.length) (h' : i < css.length), CO (SV N p v) wr l[i] css[i]
  row : wr.ownsRow N ty k v l.length css.flatten
  hN : N = w0.heap.size
  low : N ≤ wr.heap.size
  plt : p < N
  blt : ∀ x, base = some x → x.block < N

theorem RowJ.start {α : Type} {CO : (Nat → Prop) → World → α → List Value → Prop} {k N p : Nat} {ty : TypeId} {w0 wr : World} {base : Option Addr} {cap : Nat} {bs : List UInt8} {a r : Nat} (hr : ReaderAt wr p base cap bs a r) (hk : w0.grownBy wr (some p)) (hN : N = w0.heap.size) (hp : p < N) (hb : ∀ x, base = some x → x.block < N) : RowJ CO k N p ty w0 base cap bs (.slice none 0 0) wr ([] : List α) [] a r :=
  ⟨hr, hk, rfl, fun _ h _ => absurd h (by simp), World.ownsRow_nil _ _ _ _, hN, by rw [hN]; exact hk.size, hp, hb⟩

theorem flatten_len {k : Nat} {css : List (List Value)} (h : ∀ cs ∈ css, cs.length = k) : css.flatten.length = css.length * k := by
  induction css with
  | nil => simp
  | cons c t ih =>
    rw [List.flatten_cons, List.length_append, ih fun cs hcs => h cs (by simp [hcs]), h c (by simp), List.length_cons, Nat.add_mul, Nat.one_mul, Nat.add_comm]

/-- One more. -/
theorem RowJ.snoc {α : Type} {CO : (Nat → Prop) → World → α → List Value → Prop} {k N p : Nat} (law : CellLaw k CO) {ty : TypeId} {w0 : World} {base : Option Addr} {cap : Nat} {bs : List UInt8} {v v' : Value} {wr w1 w2 w3 : World} {l : List α} {css : List (List Value)} {a r a1 r1 : Nat} (h : RowJ CO k N p ty w0 base cap bs v wr l css a r) {x : α} {cs : List Value} {o : Obj}
    (hr1 : ReaderAt w1 p base cap bs a1 r1) (hg1 : wr.grownBy w1 (some p)) (hco : CO (fun b => wr.heap.size ≤ b) w1 x cs) (hw2 : w2 = w1.alloc o) (hrow : w3.ownsRow N ty k v' (l.length + 1) (css.flatten ++ cs)) (hg3 : w2.grownBy w3 v.ownBlock) (hloc : v'.ownBlock = v.ownBlock ∨ v'.ownBlock = some w2.heap.size) :
    RowJ CO k N p ty w0 base cap bs v' w3 (l ++ [x]) (css ++ [cs]) a1 r1 := by
  have hs1 := hg1.size
  have hs2 : w2.heap.size = w1.heap.size + 1 := by rw [hw2]; simp
  have hs3 := hg3.size
  have hvlt := h.row.lt
  have k13 : ∀ q, q < w1.heap.size → v.ownBlock ≠ some q → w3.heap[q]? = w1.heap[q]? := fun q hq hne => by
    rw [hg3.block q (by omega) (fun e => hne e.symm), hw2, Below.heap_alloc _ _ _ hq]
  have kr3 : ∀ q, q < wr.heap.size → q ≠ p → v.ownBlock ≠ some q → w3.heap[q]? = wr.heap[q]? := fun q hq hp hne =>
    (k13 q (by omega) hne).trans (hg1.block q hq (by simpa using hp))
  have hvN : ∀ q, q < N → v.ownBlock ≠ some q := fun q hq e => by have := (hvlt q e).1; omega
  have hplt := h.plt
  have hlow := h.low
  refine ⟨hr1.kept fun q hq hc => k13 q hq (hvN q ?_), ?_, by simp [h.len], fun i hi hi' => ?_, ?_, h.hN, by omega, h.plt, h.blt⟩
  · rcases hc with rfl | ⟨b, e, rfl⟩
    · exact h.plt
    · exact h.blt b e
  · refine ⟨?_, ?_, ?_, ?_, fun q hq hne => ?_⟩
    · rw [hg3.os, hw2]; exact hg1.os.trans h.kept.os
    · rw [hg3.tape, hw2]; exact hg1.tape.trans h.kept.tape
    · rw [hg3.output, hw2]; exact hg1.output.trans h.kept.output
    · have := h.kept.size; omega
    · have hq2 : q < wr.heap.size := Nat.lt_of_lt_of_le hq h.kept.size
      exact (kr3 q hq2 (by simpa using hne) (hvN q (by rw [h.hN]; exact hq))).trans (h.kept.block q hq hne)
  · by_cases e : i < l.length
    · rw [List.getElem_append_left e, List.getElem_append_left (by rw [h.len]; exact e)]
      have h1 := h.co i e (by rw [h.len]; exact e)
      have h2 := law.wide _ (fun q => SV N p v q ∧ q < wr.heap.size) _ _ _ h1 (fun q hq hS => ⟨hS, hq⟩)
      have h3 := law.keep _ _ w3 _ _ h2 (by omega) (fun q hS hq => kr3 q hq hS.1.2.1 hS.1.2.2)
      refine law.wide _ _ _ _ _ h3 fun q _ hS => ⟨hS.1.1, hS.1.2.1, ?_⟩
      rcases hloc with e1 | e1
      · rw [e1]; exact hS.1.2.2
      · rw [e1]
        intro e2
        have e3 : w2.heap.size = q := Option.some.inj e2
        have := hS.2
        omega
    · have hie : i = l.length := by
        rw [List.length_append] at hi
        simp at hi
        omega
      subst hie
      rw [List.getElem_append_right (Nat.le_refl _)]
      have hc' : (css ++ [cs])[l.length]'hi' = cs := by
        rw [List.getElem_append_right (by rw [h.len]; exact Nat.le_refl _)]
        simp [h.len]
      rw [hc']
      simp only [Nat.sub_self, List.getElem_cons_zero]
      have h2 := law.wide _ (fun q => wr.heap.size ≤ q ∧ q < w1.heap.size) _ _ _ hco (fun q hq hS => ⟨hS, hq⟩)
      have h3 := law.keep _ _ w3 _ _ h2 (by omega) (fun q hS hq => k13 q hq (fun e => by have := (hvlt q e).2; have := hS.1; omega))
      refine law.wide _ _ _ _ _ h3 fun q _ hS => ⟨by have := hS.1; omega, by have := hS.1; omega, ?_⟩
      rcases hloc with e1 | e1
      · rw [e1]; exact fun e2 => by have := (hvlt q e2).2; have := hS.1; omega
      · rw [e1]
        intro e2
        have e3 : w2.heap.size = q := Option.some.inj e2
        have := hS.2
        omega
  · have : (l ++ [x]).length = l.length + 1 := by simp
    rw [this, List.flatten_append]
    simpa using hrow
/-- A row that was read lies in memory. -/
theorem RowJ.rowIn {α : Type} {CO : (Nat → Prop) → World → α → List Value → Prop} {k N p : Nat} (law : CellLaw k CO) {ty : TypeId} {w0 : World} {base : Option Addr} {cap : Nat} {bs : List UInt8} {v : Value} {wr : World} {l : List α} {css : List (List Value)} {a r : Nat} (h : RowJ CO k N p ty w0 base cap bs v wr l css a r) {E : World → Nat → Nat → α → Prop}
    (hE : ∀ x cs b o, CO (fun b => N ≤ b ∧ b ≠ p) wr x cs → (∀ j (hj : j < cs.length), wr.cell? ⟨b, o + j, none⟩ = some cs[j]) → E wr b o x) : rowIn (fun b => N ≤ b ∧ b ≠ p) wr v k E l := by
  have hplt := h.plt
  rcases h.row.2 with ⟨hv, h0⟩ | ⟨g, cp, cur, hv, hg, hh, hnc, hcm, hcs, htake⟩
  · refine ⟨none, 0, by rw [hv, h0], by omega, by decide, .inl (List.length_eq_zero_iff.1 h0)⟩
  · refine ⟨some ⟨g, 0, none⟩, cp, hv, hnc, hcm, .inr ⟨g, 0, rfl, ⟨hg, by omega⟩, heap_lt hh, fun i hi => ?_⟩⟩
    have hi' : i < css.length := by rw [h.len]; exact hi
    have hco := h.co i hi hi'
    refine hE l[i] css[i] g _ (law.wide _ _ _ _ _ hco fun q _ hS => ⟨hS.1, hS.2.1⟩) fun j hj => ?_
    have hlens : ∀ cs ∈ css, cs.length = k := fun cs hcs' => by
      obtain ⟨q, hq, rfl⟩ := List.getElem_of_mem hcs'
      exact law.len _ _ _ _ (h.co q (by rw [← h.len]; exact hq) hq)
    have hjk : j < k := by rw [← hlens css[i] (List.getElem_mem hi')]; exact hj
    have hpos : css.flatten[i * k + j]? = some css[i][j] := by
      have hd : css = css.take i ++ css[i] :: css.drop (i + 1) := by rw [List.getElem_cons_drop, List.take_append_drop]
      have hl1 : (css.take i).flatten.length = i * k := by
        rw [flatten_len fun cs hcs' => hlens cs (List.mem_of_mem_take hcs'), List.length_take, Nat.min_eq_left (Nat.le_of_lt hi')]
      conv => lhs; rw [hd]
      rw [List.flatten_append, List.flatten_cons, List.getElem?_append_right (by omega), hl1, Nat.add_sub_cancel_left, List.getElem?_append_left hj, List.getElem?_eq_getElem hj]
    have hcell := h.row.cells (g := g) (by rw [hv]; rfl) (i * k + j) css[i][j] hpos
    rw [show (⟨g, 0 + i * k + j, none⟩ : Addr) = (⟨g, 0, none⟩ : Addr).add (i * k + j) by rw [add_zero']; simp]
    exact hcell

def coStr (_ : Nat → Prop) (_ : World) (x : List UInt8) (cs : List Value) : Prop := cs = [.string (strB x)]
def coIns (_ : Nat → Prop) (_ : World) (x : In7) (cs : List Value) : Prop := cs = [.int .i64 x.op, .int .i64 x.a]
def coVar (_ : Nat → Prop) (_ : World) (x : Vr) (cs : List Value) : Prop := cs = [.string (strB x.name), .int .i64 x.slot, .int .i64 x.lo, .int .i64 x.hi]
def coSh (S : Nat → Prop) (w : World) (x : Sh) (cs : List Value) : Prop := ∃ b n c, cs = [.string (strB x.name), .slice b n c] ∧ strsIn S w (.slice b n c) x.fields
def coUn (S : Nat → Prop) (w : World) (x : Un) (cs : List Value) : Prop := ∃ b n c b2 n2 c2, cs = [.string (strB x.name), .int .i64 x.params, .int .i64 x.slots, .int .i64 x.stack, .bool x.result, .slice b n c, .slice b2 n2 c2] ∧ insIn S w (.slice b n c) x.ins ∧ varsIn S w (.slice b2 n2 c2) x.vars
theorem lawStr : CellLaw 1 coStr where
  len := fun _ _ _ _ h => by rw [h]; rfl
  one := fun _ _ _ _ h u hu => by rw [h] at hu; simp at hu; subst hu; rfl
  keep := fun _ _ _ _ _ h _ _ => h
  wide := fun _ _ _ _ _ h _ => h
theorem lawIns : CellLaw 2 coIns where
  len := fun _ _ _ _ h => by rw [h]; rfl
  one := fun _ _ _ _ h u hu => by rw [h] at hu; simp at hu; rcases hu with rfl | rfl <;> rfl
  keep := fun _ _ _ _ _ h _ _ => h
  wide := fun _ _ _ _ _ h _ => h
theorem lawVar : CellLaw 4 coVar where
  len := fun _ _ _ _ h => by rw [h]; rfl
  one := fun _ _ _ _ h u hu => by rw [h] at hu; simp at hu; rcases hu with rfl | rfl | rfl | rfl <;> rfl
  keep := fun _ _ _ _ _ h _ _ => h
  wide := fun _ _ _ _ _ h _ => h
theorem lawSh : CellLaw 2 coSh where
  len := fun _ _ _ _ h => by obtain ⟨b, n, c, rfl, -⟩ := h; rfl
  one := fun _ _ _ _ h u hu => by obtain ⟨b, n, c, rfl, -⟩ := h; simp at hu; rcases hu with rfl | rfl <;> rfl
  keep := fun S _ _ _ _ h hs hb => by obtain ⟨b, n, c, e, h⟩ := h; exact ⟨b, n, c, e, rowIn.kept h (strE_keeps S) hs hb⟩
  wide := fun _ _ _ _ _ h hS => by obtain ⟨b, n, c, e, h⟩ := h; exact ⟨b, n, c, e, rowIn.wide h hS fun _ _ _ h => h⟩
theorem lawUn : CellLaw 7 coUn where
  len := fun _ _ _ _ h => by obtain ⟨b, n, c, b2, n2, c2, rfl, -⟩ := h; rfl
  one := fun _ _ _ _ h u hu => by obtain ⟨b, n, c, b2, n2, c2, rfl, -⟩ := h; simp at hu; rcases hu with rfl | rfl | rfl | rfl | rfl | rfl | rfl <;> rfl
  keep := fun S _ _ _ _ h hs hb => by obtain ⟨b, n, c, b2, n2, c2, e, h, h2⟩ := h; exact ⟨b, n, c, b2, n2, c2, e, rowIn.kept h (insE_keeps S) hs hb, rowIn.kept h2 (varE_keeps S) hs hb⟩
  wide := fun _ _ _ _ _ h hS => by obtain ⟨b, n, c, b2, n2, c2, e, h, h2⟩ := h; exact ⟨b, n, c, b2, n2, c2, e, rowIn.wide h hS fun _ _ _ h => h, rowIn.wide h2 hS fun _ _ _ h => h⟩
theorem rcells_new (w : World) (l : List Value) (ty : TypeId) : ∀ j u, l[j]? = some u → (w.alloc (.cells l.toArray ty)).cell? ((⟨w.heap.size, 0, none⟩ : Addr).add j) = some u := fun j u h => by
  rw [add_zero']
  have hb : (w.alloc (.cells l.toArray ty)).heap[w.heap.size]? = some (.cells l.toArray ty (0, 0)) := World.alloc_heap_new _ _
  simp only [World.cell?, hb]
  simpa using h
theorem info_str : (Tryz.prog.info? 9).map (fun i => (i.zero, i.size, i.bytes)) = some (some (.string ⟨#[]⟩), 1, 16) := by kernel_rfl
theorem info_insT : (Tryz.prog.info? 62).map (fun i => (i.zero, i.size, i.bytes)) = some (some (.agg #[.int .i64 0, .int .i64 0]), 2, 16) := by kernel_rfl
theorem info_varT : (Tryz.prog.info? 121).map (fun i => (i.zero, i.size, i.bytes)) = some (some (.agg #[.string ⟨#[]⟩, .int .i64 0, .int .i64 0, .int .i64 0]), 4, 40) := by kernel_rfl
theorem info_shT : (Tryz.prog.info? 77).map (fun i => (i.zero, i.size, i.bytes)) = some (some (.agg #[.string ⟨#[]⟩, .slice none 0 0]), 2, 40) := by kernel_rfl
theorem info_unT : (Tryz.prog.info? 58).map (fun i => (i.zero, i.size, i.bytes)) = some (some (.agg #[.string ⟨#[]⟩, .int .i64 0, .int .i64 0, .int .i64 0, .bool false, .slice none 0 0, .slice none 0 0]), 7, 96) := by kernel_rfl
end Go.Proofs.YtechkkphbajmoaaGreatDoor
/- code: how many there are, and each, read: at string. -/
namespace Go.Proofs.YtechkkphbajmoaaGreatDoor
open Go.RowKit Go.Shelf

set_option maxRecDepth 100000 in
set_option maxHeartbeats 8000000 in
theorem cReadAllStr_any (p : Nat) (base : Option Addr) (cap : Nat) (bs : List UInt8) (one : Nat → Nat → (List UInt8) × Nat × Nat) (w : World) (a0 r0 : Nat) (hr : ReaderAt w p base cap bs a0 r0) (hp : p < w.heap.size) (hbl : ∀ x, base = some x → x.block < w.heap.size)
    (hk : ∀ W a, w.heap.size ≤ W.heap.size → ReaderAt W p base cap bs a 0 → Calls Tryz.prog 46 #[.pointer (some ⟨p, 0, none⟩)] W fun e w' => ∃ x, x = (one a 0).1 ∧ (e = .returned (.string (strB x)) ∧ True) ∧ ReaderAt w' p base cap bs (one a 0).2.1 (one a 0).2.2 ∧ W.grownBy w' (some p)) :
    Calls Tryz.prog 45 #[.pointer (some ⟨p, 0, none⟩), .func (.func 46) #[] #[]] w fun e w' => ∃ v, e = .returned v ∧ ∃ css, RowJ coStr 1 w.heap.size p 9 w base cap bs v w' (rAll bs one a0 r0).1 css (rAll bs one a0 r0).2.1 (rAll bs one a0 r0).2.2 := by
  have HK : Hid (∀ W a, w.heap.size ≤ W.heap.size → ReaderAt W p base cap bs a 0 → Calls Tryz.prog 46 #[.pointer (some ⟨p, 0, none⟩)] W fun e w' => ∃ x, x = (one a 0).1 ∧ (e = .returned (.string (strB x)) ∧ True) ∧ ReaderAt w' p base cap bs (one a 0).2.1 (one a 0).2.2 ∧ W.grownBy w' (some p)) := hk
  obtain ⟨i0, hinf, hz0, hz1, hz2⟩ := info_parts info_str
  have HR : Hid (ReaderAt w p base cap bs a0 r0) := hr
  have HP : Hid (p < w.heap.size) := hp
  have HBL : Hid (∀ x, base = some x → x.block < w.heap.size) := hbl
  have cc := count_any 1048576 hr
  have hbd := rC_bound bs a0 r0
  obtain ⟨n, a1, r1, hrc⟩ : ∃ (n : Nat) (a1 r1 : Nat), rC bs a0 r0 = ((n : Int), a1, r1) := ⟨(rC bs a0 r0).1.toNat, (rC bs a0 r0).2.1, (rC bs a0 r0).2.2, by rw [Int.toNat_of_nonneg hbd.1]⟩
  have hrc' : stepR 0 a0 r0 (getC (bs.drop a0) 1048576) = ((n : Int), a1, r1) := hrc
  rw [hrc'] at cc
  simp only at cc
  have hn : (n : Int) ≤ 1048576 := by rw [hrc] at hbd; exact hbd.2
  have HALL : Hid (rAll bs one a0 r0 = loopR one n a1 r1) := by
    show _ = _
    unfold rAll
    rw [hrc]
    simp only [Int.toNat_natCast]
  obtain ⟨RR, hRR⟩ : ∃ RR, RR = rAll bs one a0 r0 := ⟨_, rfl⟩
  rw [← hRR] at HALL ⊢
  clear hk hr hp hbl hbd hrc hrc' hRR
  go_enter Tryz.func45, Tryz.ntmps45
  go_wp2_with fail
  refine cc.mono ?_
  clear cc
  rintro e w1 ⟨rfl, hr1, hg1⟩
  have HJ0 : Hid (RowJ coStr 1 w.heap.size p 9 w base cap bs (.slice none 0 0) w1 ([] : List (List UInt8)) [] a1 r1) := RowJ.start hr1 hg1 rfl HP.out HBL.out
  clear hr1 hg1
  go_wp2
  go_loopw [5, 6] (fun v vi wr => ∃ (m : Nat) (l : List (List UInt8)) (css : List (List Value)) (a r : Nat), vi = .int .i64 (m : Int) ∧ m ≤ n ∧ l.length + m ≤ n ∧ RowJ coStr 1 w.heap.size p 9 w base cap bs v wr l css a r ∧ RR = (l ++ (loopR one m a r).1, (loopR one m a r).2)) (fun _ vi _ => (intOf vi).toNat)
  case atStart => exact ⟨n, [], [], a1, r1, rfl, Nat.le_refl _, by simp, HJ0.out, by rw [HALL.out]; rfl⟩
  case round =>
    obtain ⟨m, l, css, a, r, rfl, hmn, hlm, hJ, hRR⟩ := hrel
    have HJ : Hid (RowJ coStr 1 w.heap.size p 9 w base cap bs u5 wr l css a r) := hJ
    have HRR : Hid (RR = (l ++ (loopR one m a r).1, (loopR one m a r).2)) := hRR
    have HLM : Hid (l.length + m ≤ n) := hlm
    by_cases hm : 0 < m
    · have hm1 : (0 : Int) < m := by omega
      have hm2 : (m : Int) ≤ 1048576 := by omega
      have ce := err_any hJ.rd
      obtain ⟨b5, n5, c5, hv5⟩ : ∃ b n c, u5 = .slice b n c := by
        rcases hJ.row.2 with ⟨h, _⟩ | ⟨g, cp, cur, h, _⟩
        · exact ⟨_, _, _, h⟩
        · exact ⟨_, _, _, h⟩
      subst hv5
      by_cases hr0 : r = 0
      · subst hr0
        have c1 := HK.out wr a hJ.low hJ.rd
        have HRS : Hid (RR = (l ++ [(one a 0).1] ++ (loopR one (m - 1) (one a 0).2.1 (one a 0).2.2).1, (loopR one (m - 1) (one a 0).2.1 (one a 0).2.2).2)) := by
          obtain ⟨m', rfl⟩ : ∃ m', m = m' + 1 := ⟨m - 1, by omega⟩
          show _ = _
          rw [hRR, loopR_succ]
          simp
        clear hJ hRR hlm
        go_wp2_with fail
        refine ce.mono ?_
        clear ce
        rintro e _ ⟨rfl, rfl⟩
        go_wp2_with fail
        refine c1.mono ?_
        clear c1
        rintro e w2 ⟨x, hx, ⟨rfl, hnest⟩, hr2, hg2⟩
        have HX : Hid (x = (one a 0).1) := hx
        have HR2 : Hid (ReaderAt w2 p base cap bs (one a 0).2.1 (one a 0).2.2) := hr2
        have HG2 : Hid (wr.grownBy w2 (some p)) := hg2
        have HCO : Hid (coStr (fun b => wr.heap.size ≤ b) w2 x [.string (strB x)]) := rfl
        have HROW : Hid (w2.ownsRow w.heap.size 9 1 (.slice b5 n5 c5) l.length css.flatten) := HJ.out.row.kept hg2 (by
          by_cases hob : (Value.slice b5 n5 c5).ownBlock = none
          · exact .inl hob
          · refine .inr fun e => ?_
            have := (HJ.out.row.lt p e).1
            have := HP.out
            omega)
        have HW2 : Hid (w.heap.size ≤ w2.heap.size) := Nat.le_trans HJ.out.low hg2.size
        have HLN : Hid (l.length + 1 ≤ 1048576) := by have := HLM.out; show _ ≤ _; omega
        clear hx hnest hr2 hg2
        go_wp2_with (first
          | (at_builtin; refine wpList_append_own_at _ rfl _ _ 22 rfl w.heap.size 9 i0 (.string ⟨#[]⟩) 1 16 Tryz.underlying22 hinf hz0 hz1 hz2 rfl (by decide) _ _ _ rfl (HROW.out.alloc _) ⟨w2.heap.size, 0, none⟩ 1 1 [.string (strB x)] rfl rfl (rcells_new _ _ _) (lawStr.one _ _ _ _ HCO.out) (by have := HLN.out; unfold maxLen; omega) (by have := HLN.out; omega) (by have := HW2.out; simp; omega) ?_; intro v' w9 hown9 hgrow9 hnil9 hloc9)
          | go_in)
        go_roundw
        case rel =>
          refine ⟨m - 1, l ++ [x], css ++ [[.string (strB x)]], (one a 0).2.1, (one a 0).2.2, ?_, by omega, by have := HLM.out; simp; omega, HJ.out.snoc lawStr HR2.out HG2.out HCO.out rfl hown9 hgrow9 hloc9, by rw [HX.out]; exact HRS.out⟩
          have : ((m - 1 : Nat) : Int) = (m : Int) - 1 := by omega
          rw [this]
        case measure => simp [intOf]; omega
      · have hrb : ((r : Int) == 0) = false := by rw [beq_eq_false_iff_ne]; omega
        have HE : Hid (RR = (l, a, r)) := by rw [hRR, loopR_bad one m a r hr0]; show _ = _; simp
        clear hJ hRR hlm
        go_wp2_with fail
        refine ce.mono ?_
        clear ce
        rintro e _ ⟨rfl, rfl⟩
        go_wp2
        go_ret
        refine ⟨_, rfl, css, ?_⟩
        rw [HE.out]
        exact HJ.out
    · obtain rfl : m = 0 := by omega
      have HE : Hid (RR = (l, a, r)) := by rw [hRR, loopR_zero]; show _ = _; simp
      clear hJ hRR hlm
      go_wp2
      go_ret
      refine ⟨_, rfl, css, ?_⟩
      rw [HE.out]
      exact HJ.out
end Go.Proofs.YtechkkphbajmoaaGreatDoor
/- code: a thing is read. -/
namespace Go.Proofs.YtechkkphbajmoaaGreatDoor
open Go.RowKit Go.Shelf

theorem csetCell_block {w : World} {N j : Nat} {xs : Array Value} {ty : TypeId} (v : Value) (h : w.heap[N]? = some (.cells xs ty (0, 0))) : (w.setCell ⟨N, j, none⟩ v).heap[N]? = some (.cells (xs.setIfInBounds j v) ty (0, 0)) := heap_setCell_same w N j xs ty v h
theorem cfrozen {w : World} {N : Nat} {xs : Array Value} {ty : TypeId} (h : w.heap[N]? = some (.cells xs ty (0, 0))) (j : Nat) : w.frozen? ⟨N, j, none⟩ = false := by simp only [World.frozen?, h]; simp
/-- What is read, as it grows in a block of its own, beside the reader. -/
structure RdBox (w W : World) (p : Nat) (base : Option Addr) (cap : Nat) (bs : List UInt8) (a r : Nat) (ty : TypeId) (zero cur : Array Value) : Prop where
  rd : ReaderAt W p base cap bs a r
  X : W.heap[w.heap.size + 1]? = some (.cells cur ty (0, 0))
  Y : W.heap[w.heap.size]? = some (.cells zero ty (0, 0))
  G : w.grownBy W (some p)
  plt : p < w.heap.size
  blt : ∀ x, base = some x → x.block < w.heap.size
theorem RdBox.call {w W W1 : World} {p : Nat} {base : Option Addr} {cap : Nat} {bs : List UInt8} {a r a1 r1 : Nat} {ty : TypeId} {zero cur : Array Value} (h : RdBox w W p base cap bs a r ty zero cur) (hr : ReaderAt W1 p base cap bs a1 r1) (hg : W.grownBy W1 (some p)) : RdBox w W1 p base cap bs a1 r1 ty zero cur := by
  have hplt := h.plt
  have hx := heap_lt h.X
  refine ⟨hr, (hg.block _ hx (by simp; omega)).trans h.X, (hg.block _ (by omega) (by simp; omega)).trans h.Y, ⟨hg.os.trans h.G.os, hg.tape.trans h.G.tape, hg.output.trans h.G.output, Nat.le_trans h.G.size hg.size, fun k hk hne => (hg.block k (Nat.lt_of_lt_of_le hk h.G.size) hne).trans (h.G.block k hk hne)⟩, h.plt, h.blt⟩
theorem RdBox.store {w W : World} {p : Nat} {base : Option Addr} {cap : Nat} {bs : List UInt8} {a r : Nat} {ty : TypeId} {zero cur : Array Value} (h : RdBox w W p base cap bs a r ty zero cur) (j : Nat) (v : Value) : RdBox w (W.setCell ⟨w.heap.size + 1, j, none⟩ v) p base cap bs a r ty zero (cur.setIfInBounds j v) := by
  have hplt := h.plt
  have hk : ∀ k, k ≠ w.heap.size + 1 → (W.setCell ⟨w.heap.size + 1, j, none⟩ v).heap[k]? = W.heap[k]? := fun k hk => Below.heap_setCell _ _ _ _ (by simpa using hk)
  refine ⟨h.rd.kept fun k _ hc => hk k ?_, csetCell_block v h.X, (hk _ (by omega)).trans h.Y, ⟨h.G.os, h.G.tape, h.G.output, by simpa using h.G.size, fun k hlt hne => (hk k (by omega)).trans (h.G.block k hlt hne)⟩, h.plt, h.blt⟩
  rcases hc with rfl | ⟨x, e, rfl⟩
  · omega
  · have := h.blt x e; omega
theorem RdBox.storeY {w W : World} {p : Nat} {base : Option Addr} {cap : Nat} {bs : List UInt8} {a r : Nat} {ty : TypeId} {zero cur : Array Value} (h : RdBox w W p base cap bs a r ty zero cur) (j : Nat) (v : Value) : RdBox w (W.setCell ⟨w.heap.size, j, none⟩ v) p base cap bs a r ty (zero.setIfInBounds j v) cur := by
  have hplt := h.plt
  have hk : ∀ k, k ≠ w.heap.size → (W.setCell ⟨w.heap.size, j, none⟩ v).heap[k]? = W.heap[k]? := fun k hk => Below.heap_setCell _ _ _ _ (by simpa using hk)
  refine ⟨h.rd.kept fun k _ hc => hk k ?_, (hk _ (by omega)).trans h.X, csetCell_block v h.Y, ⟨h.G.os, h.G.tape, h.G.output, by simpa using h.G.size, fun k hlt hne => (hk k (by omega)).trans (h.G.block k hlt hne)⟩, h.plt, h.blt⟩
  rcases hc with rfl | ⟨x, e, rfl⟩
  · omega
  · have := h.blt x e; omega
theorem RdBox.start {w : World} {p : Nat} {base : Option Addr} {cap : Nat} {bs : List UInt8} {a r : Nat} (hr : ReaderAt w p base cap bs a r) (hp : p < w.heap.size) (hb : ∀ x, base = some x → x.block < w.heap.size) (zero : Array Value) (ty : TypeId) : RdBox w ((w.alloc (.cells zero ty)).alloc (.cells zero ty)) p base cap bs a r ty zero zero := by
  obtain ⟨w1, hw1, hb1, -, h0, h1⟩ := box2 w (.cells zero ty) (.cells zero ty)
  rw [← hw1]
  exact ⟨hr.below hb1 (Nat.le_refl _), h1, h0, ⟨hb1.os, hb1.tape, hb1.output, hb1.size, fun k hk _ => hb1.block k hk⟩, hp, hb⟩
set_option maxRecDepth 100000 in
set_option maxHeartbeats 2000000 in
theorem cReadText_any (p : Nat) (base : Option Addr) (cap : Nat) (bs : List UInt8) (w : World) (a r : Nat) (hr : ReaderAt w p base cap bs a r) :
    Calls Tryz.prog 46 #[.pointer (some ⟨p, 0, none⟩)] w fun e w' => ∃ x, x = (rT bs a r).1 ∧ (e = .returned (.string (strB x)) ∧ True) ∧ ReaderAt w' p base cap bs (rT bs a r).2.1 (rT bs a r).2.2 ∧ w.grownBy w' (some p) := by
  have c := text_any 255 hr
  obtain ⟨x, a1, r1, hx⟩ : ∃ x a1 r1, rT bs a r = (x, a1, r1) := ⟨_, _, _, rfl⟩
  have hx' : stepR [] a r (getT (bs.drop a) 255) = (x, a1, r1) := hx
  rw [hx'] at c
  rw [hx]
  simp only at c ⊢
  clear hx hx' hr
  go_enter Tryz.func46, Tryz.ntmps46
  go_wp2_with fail
  refine c.mono ?_
  clear c
  rintro e w1 ⟨rfl, hr1, hg1⟩
  have HR : Hid (ReaderAt w1 p base cap bs a1 r1 ∧ w.grownBy w1 (some p)) := ⟨hr1, hg1⟩
  clear hr1 hg1
  go_wp2
  go_ret
  exact ⟨x, rfl, ⟨rfl, trivial⟩, HR.out⟩
end Go.Proofs.YtechkkphbajmoaaGreatDoor
/- code: readShape. -/
namespace Go.Proofs.YtechkkphbajmoaaGreatDoor
open Go.RowKit Go.Shelf

def rSh (bs : List UInt8) (a0 r0 : Nat) : Sh × Nat × Nat :=
  match rT bs a0 r0 with
  | (x0, a1, r1) =>
  match rAll bs (rT bs) a1 r1 with
  | (x1, a2, r2) =>
  ((⟨x0, x1⟩ : Sh), a2, r2)

set_option maxRecDepth 100000 in
set_option maxHeartbeats 8000000 in
theorem cReadShape_any (p : Nat) (base : Option Addr) (cap : Nat) (bs : List UInt8) (w : World) (a0 r0 : Nat) (hr : ReaderAt w p base cap bs a0 r0) (hp : p < w.heap.size) (hbl : ∀ x, base = some x → x.block < w.heap.size) :
    Calls Tryz.prog 48 #[.pointer (some ⟨p, 0, none⟩)] w fun e w' => ∃ x, x = (rSh bs a0 r0).1 ∧ (∃ bf nf cf, e = .returned (shV x (.slice bf nf cf)) ∧ strsIn (fun b => w.heap.size ≤ b) w' (.slice bf nf cf) x.fields) ∧ ReaderAt w' p base cap bs (rSh bs a0 r0).2.1 (rSh bs a0 r0).2.2 ∧ w.grownBy w' (some p) := by
  have B0 : Hid (RdBox w ((w.alloc (.cells #[.string ⟨#[]⟩, .slice none 0 0] 77)).alloc (.cells #[.string ⟨#[]⟩, .slice none 0 0] 77)) p base cap bs a0 r0 77 #[.string ⟨#[]⟩, .slice none 0 0] #[.string ⟨#[]⟩, .slice none 0 0]) := RdBox.start hr hp hbl _ _
  obtain ⟨W0, hW0⟩ : ∃ W, W = (w.alloc (.cells #[.string ⟨#[]⟩, .slice none 0 0] 77)).alloc (.cells #[.string ⟨#[]⟩, .slice none 0 0] 77) := ⟨_, rfl⟩
  have HW0 : Hid (W0 = (w.alloc (.cells #[.string ⟨#[]⟩, .slice none 0 0] 77)).alloc (.cells #[.string ⟨#[]⟩, .slice none 0 0] 77)) := hW0
  rw [← hW0] at B0
  obtain ⟨x0, a1, r1, hx0⟩ : ∃ x ya yr, rT bs a0 r0 = (x, ya, yr) := ⟨_, _, _, rfl⟩
  obtain ⟨x1, a2, r2, hx1⟩ : ∃ x ya yr, rAll bs (rT bs) a1 r1 = (x, ya, yr) := ⟨_, _, _, rfl⟩
  have HRES : Hid (rSh bs a0 r0 = ((⟨x0, x1⟩ : Sh), a2, r2)) := by
    show _ = _
    simp only [rSh, hx0, hx1]
  have HX0 : Hid (rT bs a0 r0 = (x0, a1, r1)) := hx0
  have HX1 : Hid (rAll bs (rT bs) a1 r1 = (x1, a2, r2)) := hx1
  obtain ⟨RR, hRR⟩ : ∃ RR, RR = rSh bs a0 r0 := ⟨_, rfl⟩
  rw [← hRR] at HRES ⊢
  clear hr hp hbl hW0 hRR hx0 hx1
  go_enter Tryz.func48, Tryz.ntmps48
  have c := cReadText_any p base cap bs W0 a0 r0 B0.out.rd
  rw [HX0.out] at c
  simp only at c
  go_wp2_with fail
  rw [← HW0.out]
  refine c.mono ?_
  clear c
  rintro e V0 ⟨xx, hxx, ⟨he, -⟩, hr1, hg1⟩
  have hxx2 := hxx.symm
  subst hxx2
  subst he
  have A0 : Hid (RdBox w V0 p base cap bs a1 r1 77 #[.string ⟨#[]⟩, .slice none 0 0] #[.string ⟨#[]⟩, .slice none 0 0]) := B0.out.call hr1 hg1
  have HGV0 : Hid (W0.grownBy V0 (some p)) := hg1
  obtain ⟨W1, hW⟩ : ∃ W, W = V0.setCell ⟨w.heap.size + 1, 0, none⟩ (.string (strB x0)) := ⟨_, rfl⟩
  have HW1 : Hid (W1 = V0.setCell ⟨w.heap.size + 1, 0, none⟩ (.string (strB x0))) := hW
  have B1 : Hid (RdBox w W1 p base cap bs a1 r1 77 #[.string ⟨#[]⟩, .slice none 0 0] #[.string (strB x0), .slice none 0 0]) := by rw [hW]; exact A0.out.store 0 _
  obtain ⟨q0, -⟩ := bcells2 A0.out.X
  have fz := cfrozen A0.out.X 0
  clear hr1 hg1 hW 
  have c := cReadAllStr_any p base cap bs (rT bs) W1 a1 r1 B1.out.rd (Nat.lt_of_lt_of_le B1.out.plt B1.out.G.size) (fun x e => Nat.lt_of_lt_of_le (B1.out.blt x e) B1.out.G.size) (fun W a hs hW => (by have _ := hs; exact cReadText_any p base cap bs W a 0 hW))
  rw [HX1.out] at c
  simp only at c
  go_wp2_with fail
  rw [← HW1.out]
  refine c.mono ?_
  clear c
  rintro e V1 ⟨v1, rfl, css, hJ⟩
  obtain ⟨b1, n1, c1, rfl⟩ : ∃ b n c, v1 = .slice b n c := by
    rcases hJ.row.2 with ⟨h, _⟩ | ⟨g, cp, cur, h, _⟩
    · exact ⟨_, _, _, h⟩
    · exact ⟨_, _, _, h⟩
  have hin : strsIn (fun b => W1.heap.size ≤ b ∧ b ≠ p) V1 (.slice b1 n1 c1) x1 := hJ.rowIn lawStr (fun x cs b o hco hc => by rw [show cs = [.string (strB x)] from hco] at hc; exact hc 0 (by simp))
  have HIN1 : Hid (strsIn (fun b => W1.heap.size ≤ b ∧ b ≠ p) V1 (.slice b1 n1 c1) x1) := hin
  have hr1 := hJ.rd
  have hg1 := hJ.kept
  clear hin hJ
  have A1 : Hid (RdBox w V1 p base cap bs a2 r2 77 #[.string ⟨#[]⟩, .slice none 0 0] #[.string (strB x0), .slice none 0 0]) := B1.out.call hr1 hg1
  have HGV1 : Hid (W1.grownBy V1 (some p)) := hg1
  obtain ⟨W2, hW⟩ : ∃ W, W = V1.setCell ⟨w.heap.size + 1, 1, none⟩ (.slice b1 n1 c1) := ⟨_, rfl⟩
  have HW2 : Hid (W2 = V1.setCell ⟨w.heap.size + 1, 1, none⟩ (.slice b1 n1 c1)) := hW
  have B2 : Hid (RdBox w W2 p base cap bs a2 r2 77 #[.string ⟨#[]⟩, .slice none 0 0] #[.string (strB x0), .slice b1 n1 c1]) := by rw [hW]; exact A1.out.store 1 _
  obtain ⟨-, q1⟩ := bcells2 A1.out.X
  have fz := cfrozen A1.out.X 1
  clear hr1 hg1 hW 
  go_upto_region 4 with fail
  rw [← HW2.out]
  obtain ⟨d0, d1⟩ := bcells2 B2.out.X
  obtain ⟨y0, y1⟩ := bcells2 B2.out.Y
  have yf := cfrozen B2.out.Y
  have HE : Hid (RdBox w ((W2.setCell ⟨w.heap.size, 0, none⟩ (.string (strB x0))).setCell ⟨w.heap.size, 1, none⟩ (.slice b1 n1 c1)) p base cap bs a2 r2 77 #[.string (strB x0), .slice b1 n1 c1] #[.string (strB x0), .slice b1 n1 c1]) := ((B2.out.storeY 0 (.string (strB x0))).storeY 1 (.slice b1 n1 c1))
  obtain ⟨z0, z1⟩ := bcells2 HE.out.Y
  have HN1 : Hid (strsIn (fun b => w.heap.size ≤ b) ((W2.setCell ⟨w.heap.size, 0, none⟩ (.string (strB x0))).setCell ⟨w.heap.size, 1, none⟩ (.slice b1 n1 c1)) (.slice b1 n1 c1) x1) := by
    have hWs : w.heap.size + 1 < W1.heap.size := heap_lt B1.out.X
    have h1 : strsIn (fun b => w.heap.size + 2 ≤ b ∧ b ≠ p) V1 (.slice b1 n1 c1) x1 := rowIn.wide HIN1.out (fun q _ hq => ⟨by have := hq.1; omega, hq.2⟩) fun _ _ _ h => h
    have h2 := rowIn.kept (w' := ((W2.setCell ⟨w.heap.size, 0, none⟩ (.string (strB x0))).setCell ⟨w.heap.size, 1, none⟩ (.slice b1 n1 c1))) h1 (strE_keeps _) (by rw [HW2.out]; simp) fun q hq _ => by
      have hq1 := hq.1
      rw [Below.heap_setCell _ _ _ _ (by simp; omega), Below.heap_setCell _ _ _ _ (by simp; omega), HW2.out, Below.heap_setCell _ _ _ _ (by simp; omega)]
    exact rowIn.wide h2 (fun q _ hq => by have := hq.1; omega) fun _ _ _ h => h
  go_wp2
  refine bodyPost_ret (v := .agg #[.string (strB x0), .slice b1 n1 c1]) (by simp [results, Tryz.results48, go_sem, z0, z1]) rfl ?_
  refine ⟨(⟨x0, x1⟩ : Sh), by rw [HRES.out], ⟨_, _, _, rfl, HN1.out⟩, ?_, HE.out.G⟩
  rw [HRES.out]
  exact HE.out.rd
end Go.Proofs.YtechkkphbajmoaaGreatDoor
/- code: readIns. -/
namespace Go.Proofs.YtechkkphbajmoaaGreatDoor
open Go.RowKit Go.Shelf

def rIns (bs : List UInt8) (a0 r0 : Nat) : In7 × Nat × Nat :=
  match rI bs a0 r0 with
  | (x0, a1, r1) =>
  match rI bs a1 r1 with
  | (x1, a2, r2) =>
  ((⟨x0, x1⟩ : In7), a2, r2)

set_option maxRecDepth 100000 in
set_option maxHeartbeats 8000000 in
theorem cReadIns_any (p : Nat) (base : Option Addr) (cap : Nat) (bs : List UInt8) (w : World) (a0 r0 : Nat) (hr : ReaderAt w p base cap bs a0 r0) (hp : p < w.heap.size) (hbl : ∀ x, base = some x → x.block < w.heap.size) :
    Calls Tryz.prog 92 #[.pointer (some ⟨p, 0, none⟩)] w fun e w' => ∃ x, x = (rIns bs a0 r0).1 ∧ (e = .returned (inV x) ∧ True) ∧ ReaderAt w' p base cap bs (rIns bs a0 r0).2.1 (rIns bs a0 r0).2.2 ∧ w.grownBy w' (some p) := by
  have B0 : Hid (RdBox w ((w.alloc (.cells #[.int .i64 0, .int .i64 0] 62)).alloc (.cells #[.int .i64 0, .int .i64 0] 62)) p base cap bs a0 r0 62 #[.int .i64 0, .int .i64 0] #[.int .i64 0, .int .i64 0]) := RdBox.start hr hp hbl _ _
  obtain ⟨W0, hW0⟩ : ∃ W, W = (w.alloc (.cells #[.int .i64 0, .int .i64 0] 62)).alloc (.cells #[.int .i64 0, .int .i64 0] 62) := ⟨_, rfl⟩
  have HW0 : Hid (W0 = (w.alloc (.cells #[.int .i64 0, .int .i64 0] 62)).alloc (.cells #[.int .i64 0, .int .i64 0] 62)) := hW0
  rw [← hW0] at B0
  obtain ⟨x0, a1, r1, hx0⟩ : ∃ x ya yr, rI bs a0 r0 = (x, ya, yr) := ⟨_, _, _, rfl⟩
  obtain ⟨x1, a2, r2, hx1⟩ : ∃ x ya yr, rI bs a1 r1 = (x, ya, yr) := ⟨_, _, _, rfl⟩
  have HRES : Hid (rIns bs a0 r0 = ((⟨x0, x1⟩ : In7), a2, r2)) := by
    show _ = _
    simp only [rIns, hx0, hx1]
  have HX0 : Hid (rI bs a0 r0 = (x0, a1, r1)) := hx0
  have HX1 : Hid (rI bs a1 r1 = (x1, a2, r2)) := hx1
  obtain ⟨RR, hRR⟩ : ∃ RR, RR = rIns bs a0 r0 := ⟨_, rfl⟩
  rw [← hRR] at HRES ⊢
  clear hr hp hbl hW0 hRR hx0 hx1
  go_enter Tryz.func92, Tryz.ntmps92
  have c := int_any B0.out.rd
  rw [show stepR 0 a0 r0 (getI (bs.drop a0)) = (x0, a1, r1) from HX0.out] at c
  simp only at c
  go_wp2_with fail
  rw [← HW0.out]
  refine c.mono ?_
  clear c
  rintro e V0 ⟨rfl, hr1, hg1⟩
  have A0 : Hid (RdBox w V0 p base cap bs a1 r1 62 #[.int .i64 0, .int .i64 0] #[.int .i64 0, .int .i64 0]) := B0.out.call hr1 hg1
  have HGV0 : Hid (W0.grownBy V0 (some p)) := hg1
  obtain ⟨W1, hW⟩ : ∃ W, W = V0.setCell ⟨w.heap.size + 1, 0, none⟩ (.int .i64 x0) := ⟨_, rfl⟩
  have HW1 : Hid (W1 = V0.setCell ⟨w.heap.size + 1, 0, none⟩ (.int .i64 x0)) := hW
  have B1 : Hid (RdBox w W1 p base cap bs a1 r1 62 #[.int .i64 0, .int .i64 0] #[.int .i64 x0, .int .i64 0]) := by rw [hW]; exact A0.out.store 0 _
  obtain ⟨q0, -⟩ := bcells2 A0.out.X
  have fz := cfrozen A0.out.X 0
  clear hr1 hg1 hW 
  have c := int_any B1.out.rd
  rw [show stepR 0 a1 r1 (getI (bs.drop a1)) = (x1, a2, r2) from HX1.out] at c
  simp only at c
  go_wp2_with fail
  rw [← HW1.out]
  refine c.mono ?_
  clear c
  rintro e V1 ⟨rfl, hr1, hg1⟩
  have A1 : Hid (RdBox w V1 p base cap bs a2 r2 62 #[.int .i64 0, .int .i64 0] #[.int .i64 x0, .int .i64 0]) := B1.out.call hr1 hg1
  have HGV1 : Hid (W1.grownBy V1 (some p)) := hg1
  obtain ⟨W2, hW⟩ : ∃ W, W = V1.setCell ⟨w.heap.size + 1, 1, none⟩ (.int .i64 x1) := ⟨_, rfl⟩
  have HW2 : Hid (W2 = V1.setCell ⟨w.heap.size + 1, 1, none⟩ (.int .i64 x1)) := hW
  have B2 : Hid (RdBox w W2 p base cap bs a2 r2 62 #[.int .i64 0, .int .i64 0] #[.int .i64 x0, .int .i64 x1]) := by rw [hW]; exact A1.out.store 1 _
  obtain ⟨-, q1⟩ := bcells2 A1.out.X
  have fz := cfrozen A1.out.X 1
  clear hr1 hg1 hW 
  go_upto_region 4 with fail
  rw [← HW2.out]
  obtain ⟨d0, d1⟩ := bcells2 B2.out.X
  obtain ⟨y0, y1⟩ := bcells2 B2.out.Y
  have yf := cfrozen B2.out.Y
  have HE : Hid (RdBox w ((W2.setCell ⟨w.heap.size, 0, none⟩ (.int .i64 x0)).setCell ⟨w.heap.size, 1, none⟩ (.int .i64 x1)) p base cap bs a2 r2 62 #[.int .i64 x0, .int .i64 x1] #[.int .i64 x0, .int .i64 x1]) := ((B2.out.storeY 0 (.int .i64 x0)).storeY 1 (.int .i64 x1))
  obtain ⟨z0, z1⟩ := bcells2 HE.out.Y
  go_wp2
  refine bodyPost_ret (v := .agg #[.int .i64 x0, .int .i64 x1]) (by simp [results, Tryz.results92, go_sem, z0, z1]) rfl ?_
  refine ⟨(⟨x0, x1⟩ : In7), by rw [HRES.out], ⟨rfl, trivial⟩, ?_, HE.out.G⟩
  rw [HRES.out]
  exact HE.out.rd
end Go.Proofs.YtechkkphbajmoaaGreatDoor
/- code: readVar. -/
namespace Go.Proofs.YtechkkphbajmoaaGreatDoor
open Go.RowKit Go.Shelf

def rVar (bs : List UInt8) (a0 r0 : Nat) : Vr × Nat × Nat :=
  match rT bs a0 r0 with
  | (x0, a1, r1) =>
  match rI bs a1 r1 with
  | (x1, a2, r2) =>
  match rI bs a2 r2 with
  | (x2, a3, r3) =>
  match rI bs a3 r3 with
  | (x3, a4, r4) =>
  ((⟨x0, x1, x2, x3⟩ : Vr), a4, r4)

set_option maxRecDepth 100000 in
set_option maxHeartbeats 8000000 in
theorem cReadVar_any (p : Nat) (base : Option Addr) (cap : Nat) (bs : List UInt8) (w : World) (a0 r0 : Nat) (hr : ReaderAt w p base cap bs a0 r0) (hp : p < w.heap.size) (hbl : ∀ x, base = some x → x.block < w.heap.size) :
    Calls Tryz.prog 94 #[.pointer (some ⟨p, 0, none⟩)] w fun e w' => ∃ x, x = (rVar bs a0 r0).1 ∧ (e = .returned (vrV x) ∧ True) ∧ ReaderAt w' p base cap bs (rVar bs a0 r0).2.1 (rVar bs a0 r0).2.2 ∧ w.grownBy w' (some p) := by
  have B0 : Hid (RdBox w ((w.alloc (.cells #[.string ⟨#[]⟩, .int .i64 0, .int .i64 0, .int .i64 0] 121)).alloc (.cells #[.string ⟨#[]⟩, .int .i64 0, .int .i64 0, .int .i64 0] 121)) p base cap bs a0 r0 121 #[.string ⟨#[]⟩, .int .i64 0, .int .i64 0, .int .i64 0] #[.string ⟨#[]⟩, .int .i64 0, .int .i64 0, .int .i64 0]) := RdBox.start hr hp hbl _ _
  obtain ⟨W0, hW0⟩ : ∃ W, W = (w.alloc (.cells #[.string ⟨#[]⟩, .int .i64 0, .int .i64 0, .int .i64 0] 121)).alloc (.cells #[.string ⟨#[]⟩, .int .i64 0, .int .i64 0, .int .i64 0] 121) := ⟨_, rfl⟩
  have HW0 : Hid (W0 = (w.alloc (.cells #[.string ⟨#[]⟩, .int .i64 0, .int .i64 0, .int .i64 0] 121)).alloc (.cells #[.string ⟨#[]⟩, .int .i64 0, .int .i64 0, .int .i64 0] 121)) := hW0
  rw [← hW0] at B0
  obtain ⟨x0, a1, r1, hx0⟩ : ∃ x ya yr, rT bs a0 r0 = (x, ya, yr) := ⟨_, _, _, rfl⟩
  obtain ⟨x1, a2, r2, hx1⟩ : ∃ x ya yr, rI bs a1 r1 = (x, ya, yr) := ⟨_, _, _, rfl⟩
  obtain ⟨x2, a3, r3, hx2⟩ : ∃ x ya yr, rI bs a2 r2 = (x, ya, yr) := ⟨_, _, _, rfl⟩
  obtain ⟨x3, a4, r4, hx3⟩ : ∃ x ya yr, rI bs a3 r3 = (x, ya, yr) := ⟨_, _, _, rfl⟩
  have HRES : Hid (rVar bs a0 r0 = ((⟨x0, x1, x2, x3⟩ : Vr), a4, r4)) := by
    show _ = _
    simp only [rVar, hx0, hx1, hx2, hx3]
  have HX0 : Hid (rT bs a0 r0 = (x0, a1, r1)) := hx0
  have HX1 : Hid (rI bs a1 r1 = (x1, a2, r2)) := hx1
  have HX2 : Hid (rI bs a2 r2 = (x2, a3, r3)) := hx2
  have HX3 : Hid (rI bs a3 r3 = (x3, a4, r4)) := hx3
  obtain ⟨RR, hRR⟩ : ∃ RR, RR = rVar bs a0 r0 := ⟨_, rfl⟩
  rw [← hRR] at HRES ⊢
  clear hr hp hbl hW0 hRR hx0 hx1 hx2 hx3
  go_enter Tryz.func94, Tryz.ntmps94
  have c := cReadText_any p base cap bs W0 a0 r0 B0.out.rd
  rw [HX0.out] at c
  simp only at c
  go_wp2_with fail
  rw [← HW0.out]
  refine c.mono ?_
  clear c
  rintro e V0 ⟨xx, hxx, ⟨he, -⟩, hr1, hg1⟩
  have hxx2 := hxx.symm
  subst hxx2
  subst he
  have A0 : Hid (RdBox w V0 p base cap bs a1 r1 121 #[.string ⟨#[]⟩, .int .i64 0, .int .i64 0, .int .i64 0] #[.string ⟨#[]⟩, .int .i64 0, .int .i64 0, .int .i64 0]) := B0.out.call hr1 hg1
  have HGV0 : Hid (W0.grownBy V0 (some p)) := hg1
  obtain ⟨W1, hW⟩ : ∃ W, W = V0.setCell ⟨w.heap.size + 1, 0, none⟩ (.string (strB x0)) := ⟨_, rfl⟩
  have HW1 : Hid (W1 = V0.setCell ⟨w.heap.size + 1, 0, none⟩ (.string (strB x0))) := hW
  have B1 : Hid (RdBox w W1 p base cap bs a1 r1 121 #[.string ⟨#[]⟩, .int .i64 0, .int .i64 0, .int .i64 0] #[.string (strB x0), .int .i64 0, .int .i64 0, .int .i64 0]) := by rw [hW]; exact A0.out.store 0 _
  obtain ⟨q0, -, -, -⟩ := bcells4 A0.out.X
  have fz := cfrozen A0.out.X 0
  clear hr1 hg1 hW 
  have c := int_any B1.out.rd
  rw [show stepR 0 a1 r1 (getI (bs.drop a1)) = (x1, a2, r2) from HX1.out] at c
  simp only at c
  go_wp2_with fail
  rw [← HW1.out]
  refine c.mono ?_
  clear c
  rintro e V1 ⟨rfl, hr1, hg1⟩
  have A1 : Hid (RdBox w V1 p base cap bs a2 r2 121 #[.string ⟨#[]⟩, .int .i64 0, .int .i64 0, .int .i64 0] #[.string (strB x0), .int .i64 0, .int .i64 0, .int .i64 0]) := B1.out.call hr1 hg1
  have HGV1 : Hid (W1.grownBy V1 (some p)) := hg1
  obtain ⟨W2, hW⟩ : ∃ W, W = V1.setCell ⟨w.heap.size + 1, 1, none⟩ (.int .i64 x1) := ⟨_, rfl⟩
  have HW2 : Hid (W2 = V1.setCell ⟨w.heap.size + 1, 1, none⟩ (.int .i64 x1)) := hW
  have B2 : Hid (RdBox w W2 p base cap bs a2 r2 121 #[.string ⟨#[]⟩, .int .i64 0, .int .i64 0, .int .i64 0] #[.string (strB x0), .int .i64 x1, .int .i64 0, .int .i64 0]) := by rw [hW]; exact A1.out.store 1 _
  obtain ⟨-, q1, -, -⟩ := bcells4 A1.out.X
  have fz := cfrozen A1.out.X 1
  clear hr1 hg1 hW 
  have c := int_any B2.out.rd
  rw [show stepR 0 a2 r2 (getI (bs.drop a2)) = (x2, a3, r3) from HX2.out] at c
  simp only at c
  go_wp2_with fail
  rw [← HW2.out]
  refine c.mono ?_
  clear c
  rintro e V2 ⟨rfl, hr1, hg1⟩
  have A2 : Hid (RdBox w V2 p base cap bs a3 r3 121 #[.string ⟨#[]⟩, .int .i64 0, .int .i64 0, .int .i64 0] #[.string (strB x0), .int .i64 x1, .int .i64 0, .int .i64 0]) := B2.out.call hr1 hg1
  have HGV2 : Hid (W2.grownBy V2 (some p)) := hg1
  obtain ⟨W3, hW⟩ : ∃ W, W = V2.setCell ⟨w.heap.size + 1, 2, none⟩ (.int .i64 x2) := ⟨_, rfl⟩
  have HW3 : Hid (W3 = V2.setCell ⟨w.heap.size + 1, 2, none⟩ (.int .i64 x2)) := hW
  have B3 : Hid (RdBox w W3 p base cap bs a3 r3 121 #[.string ⟨#[]⟩, .int .i64 0, .int .i64 0, .int .i64 0] #[.string (strB x0), .int .i64 x1, .int .i64 x2, .int .i64 0]) := by rw [hW]; exact A2.out.store 2 _
  obtain ⟨-, -, q2, -⟩ := bcells4 A2.out.X
  have fz := cfrozen A2.out.X 2
  clear hr1 hg1 hW 
  have c := int_any B3.out.rd
  rw [show stepR 0 a3 r3 (getI (bs.drop a3)) = (x3, a4, r4) from HX3.out] at c
  simp only at c
  go_wp2_with fail
  rw [← HW3.out]
  refine c.mono ?_
  clear c
  rintro e V3 ⟨rfl, hr1, hg1⟩
  have A3 : Hid (RdBox w V3 p base cap bs a4 r4 121 #[.string ⟨#[]⟩, .int .i64 0, .int .i64 0, .int .i64 0] #[.string (strB x0), .int .i64 x1, .int .i64 x2, .int .i64 0]) := B3.out.call hr1 hg1
  have HGV3 : Hid (W3.grownBy V3 (some p)) := hg1
  obtain ⟨W4, hW⟩ : ∃ W, W = V3.setCell ⟨w.heap.size + 1, 3, none⟩ (.int .i64 x3) := ⟨_, rfl⟩
  have HW4 : Hid (W4 = V3.setCell ⟨w.heap.size + 1, 3, none⟩ (.int .i64 x3)) := hW
  have B4 : Hid (RdBox w W4 p base cap bs a4 r4 121 #[.string ⟨#[]⟩, .int .i64 0, .int .i64 0, .int .i64 0] #[.string (strB x0), .int .i64 x1, .int .i64 x2, .int .i64 x3]) := by rw [hW]; exact A3.out.store 3 _
  obtain ⟨-, -, -, q3⟩ := bcells4 A3.out.X
  have fz := cfrozen A3.out.X 3
  clear hr1 hg1 hW 
  go_upto_region 6 with fail
  rw [← HW4.out]
  obtain ⟨d0, d1, d2, d3⟩ := bcells4 B4.out.X
  obtain ⟨y0, y1, y2, y3⟩ := bcells4 B4.out.Y
  have yf := cfrozen B4.out.Y
  have HE : Hid (RdBox w ((((W4.setCell ⟨w.heap.size, 0, none⟩ (.string (strB x0))).setCell ⟨w.heap.size, 1, none⟩ (.int .i64 x1)).setCell ⟨w.heap.size, 2, none⟩ (.int .i64 x2)).setCell ⟨w.heap.size, 3, none⟩ (.int .i64 x3)) p base cap bs a4 r4 121 #[.string (strB x0), .int .i64 x1, .int .i64 x2, .int .i64 x3] #[.string (strB x0), .int .i64 x1, .int .i64 x2, .int .i64 x3]) := ((((B4.out.storeY 0 (.string (strB x0))).storeY 1 (.int .i64 x1)).storeY 2 (.int .i64 x2)).storeY 3 (.int .i64 x3))
  obtain ⟨z0, z1, z2, z3⟩ := bcells4 HE.out.Y
  go_wp2
  refine bodyPost_ret (v := .agg #[.string (strB x0), .int .i64 x1, .int .i64 x2, .int .i64 x3]) (by simp [results, Tryz.results94, go_sem, z0, z1, z2, z3]) rfl ?_
  refine ⟨(⟨x0, x1, x2, x3⟩ : Vr), by rw [HRES.out], ⟨rfl, trivial⟩, ?_, HE.out.G⟩
  rw [HRES.out]
  exact HE.out.rd
end Go.Proofs.YtechkkphbajmoaaGreatDoor
/- code: how many there are, and each, read: at hindcast/api.Ins. -/
namespace Go.Proofs.YtechkkphbajmoaaGreatDoor
open Go.RowKit Go.Shelf

set_option maxRecDepth 100000 in
set_option maxHeartbeats 8000000 in
theorem cReadAllIns_any (p : Nat) (base : Option Addr) (cap : Nat) (bs : List UInt8) (one : Nat → Nat → In7 × Nat × Nat) (w : World) (a0 r0 : Nat) (hr : ReaderAt w p base cap bs a0 r0) (hp : p < w.heap.size) (hbl : ∀ x, base = some x → x.block < w.heap.size)
    (hk : ∀ W a, w.heap.size ≤ W.heap.size → ReaderAt W p base cap bs a 0 → Calls Tryz.prog 92 #[.pointer (some ⟨p, 0, none⟩)] W fun e w' => ∃ x, x = (one a 0).1 ∧ (e = .returned (inV x) ∧ True) ∧ ReaderAt w' p base cap bs (one a 0).2.1 (one a 0).2.2 ∧ W.grownBy w' (some p)) :
    Calls Tryz.prog 91 #[.pointer (some ⟨p, 0, none⟩), .func (.func 92) #[] #[]] w fun e w' => ∃ v, e = .returned v ∧ ∃ css, RowJ coIns 2 w.heap.size p 62 w base cap bs v w' (rAll bs one a0 r0).1 css (rAll bs one a0 r0).2.1 (rAll bs one a0 r0).2.2 := by
  have HK : Hid (∀ W a, w.heap.size ≤ W.heap.size → ReaderAt W p base cap bs a 0 → Calls Tryz.prog 92 #[.pointer (some ⟨p, 0, none⟩)] W fun e w' => ∃ x, x = (one a 0).1 ∧ (e = .returned (inV x) ∧ True) ∧ ReaderAt w' p base cap bs (one a 0).2.1 (one a 0).2.2 ∧ W.grownBy w' (some p)) := hk
  obtain ⟨i0, hinf, hz0, hz1, hz2⟩ := info_parts info_insT
  have HR : Hid (ReaderAt w p base cap bs a0 r0) := hr
  have HP : Hid (p < w.heap.size) := hp
  have HBL : Hid (∀ x, base = some x → x.block < w.heap.size) := hbl
  have cc := count_any 1048576 hr
  have hbd := rC_bound bs a0 r0
  obtain ⟨n, a1, r1, hrc⟩ : ∃ (n : Nat) (a1 r1 : Nat), rC bs a0 r0 = ((n : Int), a1, r1) := ⟨(rC bs a0 r0).1.toNat, (rC bs a0 r0).2.1, (rC bs a0 r0).2.2, by rw [Int.toNat_of_nonneg hbd.1]⟩
  have hrc' : stepR 0 a0 r0 (getC (bs.drop a0) 1048576) = ((n : Int), a1, r1) := hrc
  rw [hrc'] at cc
  simp only at cc
  have hn : (n : Int) ≤ 1048576 := by rw [hrc] at hbd; exact hbd.2
  have HALL : Hid (rAll bs one a0 r0 = loopR one n a1 r1) := by
    show _ = _
    unfold rAll
    rw [hrc]
    simp only [Int.toNat_natCast]
  obtain ⟨RR, hRR⟩ : ∃ RR, RR = rAll bs one a0 r0 := ⟨_, rfl⟩
  rw [← hRR] at HALL ⊢
  clear hk hr hp hbl hbd hrc hrc' hRR
  go_enter Tryz.func91, Tryz.ntmps91
  go_wp2_with fail
  refine cc.mono ?_
  clear cc
  rintro e w1 ⟨rfl, hr1, hg1⟩
  have HJ0 : Hid (RowJ coIns 2 w.heap.size p 62 w base cap bs (.slice none 0 0) w1 ([] : List In7) [] a1 r1) := RowJ.start hr1 hg1 rfl HP.out HBL.out
  clear hr1 hg1
  go_wp2
  go_loopw [5, 6] (fun v vi wr => ∃ (m : Nat) (l : List In7) (css : List (List Value)) (a r : Nat), vi = .int .i64 (m : Int) ∧ m ≤ n ∧ l.length + m ≤ n ∧ RowJ coIns 2 w.heap.size p 62 w base cap bs v wr l css a r ∧ RR = (l ++ (loopR one m a r).1, (loopR one m a r).2)) (fun _ vi _ => (intOf vi).toNat)
  case atStart => exact ⟨n, [], [], a1, r1, rfl, Nat.le_refl _, by simp, HJ0.out, by rw [HALL.out]; rfl⟩
  case round =>
    obtain ⟨m, l, css, a, r, rfl, hmn, hlm, hJ, hRR⟩ := hrel
    have HJ : Hid (RowJ coIns 2 w.heap.size p 62 w base cap bs u5 wr l css a r) := hJ
    have HRR : Hid (RR = (l ++ (loopR one m a r).1, (loopR one m a r).2)) := hRR
    have HLM : Hid (l.length + m ≤ n) := hlm
    by_cases hm : 0 < m
    · have hm1 : (0 : Int) < m := by omega
      have hm2 : (m : Int) ≤ 1048576 := by omega
      have ce := err_any hJ.rd
      obtain ⟨b5, n5, c5, hv5⟩ : ∃ b n c, u5 = .slice b n c := by
        rcases hJ.row.2 with ⟨h, _⟩ | ⟨g, cp, cur, h, _⟩
        · exact ⟨_, _, _, h⟩
        · exact ⟨_, _, _, h⟩
      subst hv5
      by_cases hr0 : r = 0
      · subst hr0
        have c1 := HK.out wr a hJ.low hJ.rd
        have HRS : Hid (RR = (l ++ [(one a 0).1] ++ (loopR one (m - 1) (one a 0).2.1 (one a 0).2.2).1, (loopR one (m - 1) (one a 0).2.1 (one a 0).2.2).2)) := by
          obtain ⟨m', rfl⟩ : ∃ m', m = m' + 1 := ⟨m - 1, by omega⟩
          show _ = _
          rw [hRR, loopR_succ]
          simp
        clear hJ hRR hlm
        go_wp2_with fail
        refine ce.mono ?_
        clear ce
        rintro e _ ⟨rfl, rfl⟩
        go_wp2_with fail
        refine c1.mono ?_
        clear c1
        rintro e w2 ⟨x, hx, ⟨rfl, hnest⟩, hr2, hg2⟩
        have HX : Hid (x = (one a 0).1) := hx
        have HR2 : Hid (ReaderAt w2 p base cap bs (one a 0).2.1 (one a 0).2.2) := hr2
        have HG2 : Hid (wr.grownBy w2 (some p)) := hg2
        have HCO : Hid (coIns (fun b => wr.heap.size ≤ b) w2 x [.int .i64 x.op, .int .i64 x.a]) := rfl
        have HROW : Hid (w2.ownsRow w.heap.size 62 2 (.slice b5 n5 c5) l.length css.flatten) := HJ.out.row.kept hg2 (by
          by_cases hob : (Value.slice b5 n5 c5).ownBlock = none
          · exact .inl hob
          · refine .inr fun e => ?_
            have := (HJ.out.row.lt p e).1
            have := HP.out
            omega)
        have HW2 : Hid (w.heap.size ≤ w2.heap.size) := Nat.le_trans HJ.out.low hg2.size
        have HLN : Hid (l.length + 1 ≤ 1048576) := by have := HLM.out; show _ ≤ _; omega
        clear hx hnest hr2 hg2
        go_wp2_with (first
          | (at_builtin; refine wpList_append_own_at _ rfl _ _ 55 rfl w.heap.size 62 i0 (.agg #[.int .i64 0, .int .i64 0]) 2 16 Tryz.underlying55 hinf hz0 hz1 hz2 rfl (by decide) _ _ _ rfl (HROW.out.alloc _) ⟨w2.heap.size, 0, none⟩ 1 1 [.int .i64 x.op, .int .i64 x.a] rfl rfl (rcells_new _ _ _) (lawIns.one _ _ _ _ HCO.out) (by have := HLN.out; unfold maxLen; omega) (by have := HLN.out; omega) (by have := HW2.out; simp; omega) ?_; intro v' w9 hown9 hgrow9 hnil9 hloc9)
          | go_in)
        go_roundw
        case rel =>
          refine ⟨m - 1, l ++ [x], css ++ [[.int .i64 x.op, .int .i64 x.a]], (one a 0).2.1, (one a 0).2.2, ?_, by omega, by have := HLM.out; simp; omega, HJ.out.snoc lawIns HR2.out HG2.out HCO.out rfl hown9 hgrow9 hloc9, by rw [HX.out]; exact HRS.out⟩
          have : ((m - 1 : Nat) : Int) = (m : Int) - 1 := by omega
          rw [this]
        case measure => simp [intOf]; omega
      · have hrb : ((r : Int) == 0) = false := by rw [beq_eq_false_iff_ne]; omega
        have HE : Hid (RR = (l, a, r)) := by rw [hRR, loopR_bad one m a r hr0]; show _ = _; simp
        clear hJ hRR hlm
        go_wp2_with fail
        refine ce.mono ?_
        clear ce
        rintro e _ ⟨rfl, rfl⟩
        go_wp2
        go_ret
        refine ⟨_, rfl, css, ?_⟩
        rw [HE.out]
        exact HJ.out
    · obtain rfl : m = 0 := by omega
      have HE : Hid (RR = (l, a, r)) := by rw [hRR, loopR_zero]; show _ = _; simp
      clear hJ hRR hlm
      go_wp2
      go_ret
      refine ⟨_, rfl, css, ?_⟩
      rw [HE.out]
      exact HJ.out
end Go.Proofs.YtechkkphbajmoaaGreatDoor
/- code: how many there are, and each, read: at hindcast/api.Var. -/
namespace Go.Proofs.YtechkkphbajmoaaGreatDoor
open Go.RowKit Go.Shelf

set_option maxRecDepth 100000 in
set_option maxHeartbeats 8000000 in
theorem cReadAllVar_any (p : Nat) (base : Option Addr) (cap : Nat) (bs : List UInt8) (one : Nat → Nat → Vr × Nat × Nat) (w : World) (a0 r0 : Nat) (hr : ReaderAt w p base cap bs a0 r0) (hp : p < w.heap.size) (hbl : ∀ x, base = some x → x.block < w.heap.size)
    (hk : ∀ W a, w.heap.size ≤ W.heap.size → ReaderAt W p base cap bs a 0 → Calls Tryz.prog 94 #[.pointer (some ⟨p, 0, none⟩)] W fun e w' => ∃ x, x = (one a 0).1 ∧ (e = .returned (vrV x) ∧ True) ∧ ReaderAt w' p base cap bs (one a 0).2.1 (one a 0).2.2 ∧ W.grownBy w' (some p)) :
    Calls Tryz.prog 93 #[.pointer (some ⟨p, 0, none⟩), .func (.func 94) #[] #[]] w fun e w' => ∃ v, e = .returned v ∧ ∃ css, RowJ coVar 4 w.heap.size p 121 w base cap bs v w' (rAll bs one a0 r0).1 css (rAll bs one a0 r0).2.1 (rAll bs one a0 r0).2.2 := by
  have HK : Hid (∀ W a, w.heap.size ≤ W.heap.size → ReaderAt W p base cap bs a 0 → Calls Tryz.prog 94 #[.pointer (some ⟨p, 0, none⟩)] W fun e w' => ∃ x, x = (one a 0).1 ∧ (e = .returned (vrV x) ∧ True) ∧ ReaderAt w' p base cap bs (one a 0).2.1 (one a 0).2.2 ∧ W.grownBy w' (some p)) := hk
  obtain ⟨i0, hinf, hz0, hz1, hz2⟩ := info_parts info_varT
  have HR : Hid (ReaderAt w p base cap bs a0 r0) := hr
  have HP : Hid (p < w.heap.size) := hp
  have HBL : Hid (∀ x, base = some x → x.block < w.heap.size) := hbl
  have cc := count_any 1048576 hr
  have hbd := rC_bound bs a0 r0
  obtain ⟨n, a1, r1, hrc⟩ : ∃ (n : Nat) (a1 r1 : Nat), rC bs a0 r0 = ((n : Int), a1, r1) := ⟨(rC bs a0 r0).1.toNat, (rC bs a0 r0).2.1, (rC bs a0 r0).2.2, by rw [Int.toNat_of_nonneg hbd.1]⟩
  have hrc' : stepR 0 a0 r0 (getC (bs.drop a0) 1048576) = ((n : Int), a1, r1) := hrc
  rw [hrc'] at cc
  simp only at cc
  have hn : (n : Int) ≤ 1048576 := by rw [hrc] at hbd; exact hbd.2
  have HALL : Hid (rAll bs one a0 r0 = loopR one n a1 r1) := by
    show _ = _
    unfold rAll
    rw [hrc]
    simp only [Int.toNat_natCast]
  obtain ⟨RR, hRR⟩ : ∃ RR, RR = rAll bs one a0 r0 := ⟨_, rfl⟩
  rw [← hRR] at HALL ⊢
  clear hk hr hp hbl hbd hrc hrc' hRR
  go_enter Tryz.func93, Tryz.ntmps93
  go_wp2_with fail
  refine cc.mono ?_
  clear cc
  rintro e w1 ⟨rfl, hr1, hg1⟩
  have HJ0 : Hid (RowJ coVar 4 w.heap.size p 121 w base cap bs (.slice none 0 0) w1 ([] : List Vr) [] a1 r1) := RowJ.start hr1 hg1 rfl HP.out HBL.out
  clear hr1 hg1
  go_wp2
  go_loopw [5, 6] (fun v vi wr => ∃ (m : Nat) (l : List Vr) (css : List (List Value)) (a r : Nat), vi = .int .i64 (m : Int) ∧ m ≤ n ∧ l.length + m ≤ n ∧ RowJ coVar 4 w.heap.size p 121 w base cap bs v wr l css a r ∧ RR = (l ++ (loopR one m a r).1, (loopR one m a r).2)) (fun _ vi _ => (intOf vi).toNat)
  case atStart => exact ⟨n, [], [], a1, r1, rfl, Nat.le_refl _, by simp, HJ0.out, by rw [HALL.out]; rfl⟩
  case round =>
    obtain ⟨m, l, css, a, r, rfl, hmn, hlm, hJ, hRR⟩ := hrel
    have HJ : Hid (RowJ coVar 4 w.heap.size p 121 w base cap bs u5 wr l css a r) := hJ
    have HRR : Hid (RR = (l ++ (loopR one m a r).1, (loopR one m a r).2)) := hRR
    have HLM : Hid (l.length + m ≤ n) := hlm
    by_cases hm : 0 < m
    · have hm1 : (0 : Int) < m := by omega
      have hm2 : (m : Int) ≤ 1048576 := by omega
      have ce := err_any hJ.rd
      obtain ⟨b5, n5, c5, hv5⟩ : ∃ b n c, u5 = .slice b n c := by
        rcases hJ.row.2 with ⟨h, _⟩ | ⟨g, cp, cur, h, _⟩
        · exact ⟨_, _, _, h⟩
        · exact ⟨_, _, _, h⟩
      subst hv5
      by_cases hr0 : r = 0
      · subst hr0
        have c1 := HK.out wr a hJ.low hJ.rd
        have HRS : Hid (RR = (l ++ [(one a 0).1] ++ (loopR one (m - 1) (one a 0).2.1 (one a 0).2.2).1, (loopR one (m - 1) (one a 0).2.1 (one a 0).2.2).2)) := by
          obtain ⟨m', rfl⟩ : ∃ m', m = m' + 1 := ⟨m - 1, by omega⟩
          show _ = _
          rw [hRR, loopR_succ]
          simp
        clear hJ hRR hlm
        go_wp2_with fail
        refine ce.mono ?_
        clear ce
        rintro e _ ⟨rfl, rfl⟩
        go_wp2_with fail
        refine c1.mono ?_
        clear c1
        rintro e w2 ⟨x, hx, ⟨rfl, hnest⟩, hr2, hg2⟩
        have HX : Hid (x = (one a 0).1) := hx
        have HR2 : Hid (ReaderAt w2 p base cap bs (one a 0).2.1 (one a 0).2.2) := hr2
        have HG2 : Hid (wr.grownBy w2 (some p)) := hg2
        have HCO : Hid (coVar (fun b => wr.heap.size ≤ b) w2 x [.string (strB x.name), .int .i64 x.slot, .int .i64 x.lo, .int .i64 x.hi]) := rfl
        have HROW : Hid (w2.ownsRow w.heap.size 121 4 (.slice b5 n5 c5) l.length css.flatten) := HJ.out.row.kept hg2 (by
          by_cases hob : (Value.slice b5 n5 c5).ownBlock = none
          · exact .inl hob
          · refine .inr fun e => ?_
            have := (HJ.out.row.lt p e).1
            have := HP.out
            omega)
        have HW2 : Hid (w.heap.size ≤ w2.heap.size) := Nat.le_trans HJ.out.low hg2.size
        have HLN : Hid (l.length + 1 ≤ 1048576) := by have := HLM.out; show _ ≤ _; omega
        clear hx hnest hr2 hg2
        go_wp2_with (first
          | (at_builtin; refine wpList_append_own_at _ rfl _ _ 56 rfl w.heap.size 121 i0 (.agg #[.string ⟨#[]⟩, .int .i64 0, .int .i64 0, .int .i64 0]) 4 40 Tryz.underlying56 hinf hz0 hz1 hz2 rfl (by decide) _ _ _ rfl (HROW.out.alloc _) ⟨w2.heap.size, 0, none⟩ 1 1 [.string (strB x.name), .int .i64 x.slot, .int .i64 x.lo, .int .i64 x.hi] rfl rfl (rcells_new _ _ _) (lawVar.one _ _ _ _ HCO.out) (by have := HLN.out; unfold maxLen; omega) (by have := HLN.out; omega) (by have := HW2.out; simp; omega) ?_; intro v' w9 hown9 hgrow9 hnil9 hloc9)
          | go_in)
        go_roundw
        case rel =>
          refine ⟨m - 1, l ++ [x], css ++ [[.string (strB x.name), .int .i64 x.slot, .int .i64 x.lo, .int .i64 x.hi]], (one a 0).2.1, (one a 0).2.2, ?_, by omega, by have := HLM.out; simp; omega, HJ.out.snoc lawVar HR2.out HG2.out HCO.out rfl hown9 hgrow9 hloc9, by rw [HX.out]; exact HRS.out⟩
          have : ((m - 1 : Nat) : Int) = (m : Int) - 1 := by omega
          rw [this]
        case measure => simp [intOf]; omega
      · have hrb : ((r : Int) == 0) = false := by rw [beq_eq_false_iff_ne]; omega
        have HE : Hid (RR = (l, a, r)) := by rw [hRR, loopR_bad one m a r hr0]; show _ = _; simp
        clear hJ hRR hlm
        go_wp2_with fail
        refine ce.mono ?_
        clear ce
        rintro e _ ⟨rfl, rfl⟩
        go_wp2
        go_ret
        refine ⟨_, rfl, css, ?_⟩
        rw [HE.out]
        exact HJ.out
    · obtain rfl : m = 0 := by omega
      have HE : Hid (RR = (l, a, r)) := by rw [hRR, loopR_zero]; show _ = _; simp
      clear hJ hRR hlm
      go_wp2
      go_ret
      refine ⟨_, rfl, css, ?_⟩
      rw [HE.out]
      exact HJ.out
end Go.Proofs.YtechkkphbajmoaaGreatDoor
/- code: readUnit. -/
namespace Go.Proofs.YtechkkphbajmoaaGreatDoor
open Go.RowKit Go.Shelf

def rUn (bs : List UInt8) (a0 r0 : Nat) : Un × Nat × Nat :=
  match rT bs a0 r0 with
  | (x0, a1, r1) =>
  match rI bs a1 r1 with
  | (x1, a2, r2) =>
  match rI bs a2 r2 with
  | (x2, a3, r3) =>
  match rI bs a3 r3 with
  | (x3, a4, r4) =>
  match rB bs a4 r4 with
  | (x4, a5, r5) =>
  match rAll bs (rIns bs) a5 r5 with
  | (x5, a6, r6) =>
  match rAll bs (rVar bs) a6 r6 with
  | (x6, a7, r7) =>
  ((⟨x0, x1, x2, x3, x4, x5, x6⟩ : Un), a7, r7)

set_option maxRecDepth 100000 in
set_option maxHeartbeats 8000000 in
theorem cReadUnit_any (p : Nat) (base : Option Addr) (cap : Nat) (bs : List UInt8) (w : World) (a0 r0 : Nat) (hr : ReaderAt w p base cap bs a0 r0) (hp : p < w.heap.size) (hbl : ∀ x, base = some x → x.block < w.heap.size) :
    Calls Tryz.prog 50 #[.pointer (some ⟨p, 0, none⟩)] w fun e w' => ∃ x, x = (rUn bs a0 r0).1 ∧ (∃ bi ni ci bv nv cv, e = .returned (unV x (.slice bi ni ci) (.slice bv nv cv)) ∧ insIn (fun b => w.heap.size ≤ b) w' (.slice bi ni ci) x.ins ∧ varsIn (fun b => w.heap.size ≤ b) w' (.slice bv nv cv) x.vars) ∧ ReaderAt w' p base cap bs (rUn bs a0 r0).2.1 (rUn bs a0 r0).2.2 ∧ w.grownBy w' (some p) := by
  have B0 : Hid (RdBox w ((w.alloc (.cells #[.string ⟨#[]⟩, .int .i64 0, .int .i64 0, .int .i64 0, .bool false, .slice none 0 0, .slice none 0 0] 58)).alloc (.cells #[.string ⟨#[]⟩, .int .i64 0, .int .i64 0, .int .i64 0, .bool false, .slice none 0 0, .slice none 0 0] 58)) p base cap bs a0 r0 58 #[.string ⟨#[]⟩, .int .i64 0, .int .i64 0, .int .i64 0, .bool false, .slice none 0 0, .slice none 0 0] #[.string ⟨#[]⟩, .int .i64 0, .int .i64 0, .int .i64 0, .bool false, .slice none 0 0, .slice none 0 0]) := RdBox.start hr hp hbl _ _
  obtain ⟨W0, hW0⟩ : ∃ W, W = (w.alloc (.cells #[.string ⟨#[]⟩, .int .i64 0, .int .i64 0, .int .i64 0, .bool false, .slice none 0 0, .slice none 0 0] 58)).alloc (.cells #[.string ⟨#[]⟩, .int .i64 0, .int .i64 0, .int .i64 0, .bool false, .slice none 0 0, .slice none 0 0] 58) := ⟨_, rfl⟩
  have HW0 : Hid (W0 = (w.alloc (.cells #[.string ⟨#[]⟩, .int .i64 0, .int .i64 0, .int .i64 0, .bool false, .slice none 0 0, .slice none 0 0] 58)).alloc (.cells #[.string ⟨#[]⟩, .int .i64 0, .int .i64 0, .int .i64 0, .bool false, .slice none 0 0, .slice none 0 0] 58)) := hW0
  rw [← hW0] at B0
  obtain ⟨x0, a1, r1, hx0⟩ : ∃ x ya yr, rT bs a0 r0 = (x, ya, yr) := ⟨_, _, _, rfl⟩
  obtain ⟨x1, a2, r2, hx1⟩ : ∃ x ya yr, rI bs a1 r1 = (x, ya, yr) := ⟨_, _, _, rfl⟩
  obtain ⟨x2, a3, r3, hx2⟩ : ∃ x ya yr, rI bs a2 r2 = (x, ya, yr) := ⟨_, _, _, rfl⟩
  obtain ⟨x3, a4, r4, hx3⟩ : ∃ x ya yr, rI bs a3 r3 = (x, ya, yr) := ⟨_, _, _, rfl⟩
  obtain ⟨x4, a5, r5, hx4⟩ : ∃ x ya yr, rB bs a4 r4 = (x, ya, yr) := ⟨_, _, _, rfl⟩
  obtain ⟨x5, a6, r6, hx5⟩ : ∃ x ya yr, rAll bs (rIns bs) a5 r5 = (x, ya, yr) := ⟨_, _, _, rfl⟩
  obtain ⟨x6, a7, r7, hx6⟩ : ∃ x ya yr, rAll bs (rVar bs) a6 r6 = (x, ya, yr) := ⟨_, _, _, rfl⟩
  have HRES : Hid (rUn bs a0 r0 = ((⟨x0, x1, x2, x3, x4, x5, x6⟩ : Un), a7, r7)) := by
    show _ = _
    simp only [rUn, hx0, hx1, hx2, hx3, hx4, hx5, hx6]
  have HX0 : Hid (rT bs a0 r0 = (x0, a1, r1)) := hx0
  have HX1 : Hid (rI bs a1 r1 = (x1, a2, r2)) := hx1
  have HX2 : Hid (rI bs a2 r2 = (x2, a3, r3)) := hx2
  have HX3 : Hid (rI bs a3 r3 = (x3, a4, r4)) := hx3
  have HX4 : Hid (rB bs a4 r4 = (x4, a5, r5)) := hx4
  have HX5 : Hid (rAll bs (rIns bs) a5 r5 = (x5, a6, r6)) := hx5
  have HX6 : Hid (rAll bs (rVar bs) a6 r6 = (x6, a7, r7)) := hx6
  obtain ⟨RR, hRR⟩ : ∃ RR, RR = rUn bs a0 r0 := ⟨_, rfl⟩
  rw [← hRR] at HRES ⊢
  clear hr hp hbl hW0 hRR hx0 hx1 hx2 hx3 hx4 hx5 hx6
  go_enter Tryz.func50, Tryz.ntmps50
  have c := cReadText_any p base cap bs W0 a0 r0 B0.out.rd
  rw [HX0.out] at c
  simp only at c
  go_wp2_with fail
  rw [← HW0.out]
  refine c.mono ?_
  clear c
  rintro e V0 ⟨xx, hxx, ⟨he, -⟩, hr1, hg1⟩
  have hxx2 := hxx.symm
  subst hxx2
  subst he
  have A0 : Hid (RdBox w V0 p base cap bs a1 r1 58 #[.string ⟨#[]⟩, .int .i64 0, .int .i64 0, .int .i64 0, .bool false, .slice none 0 0, .slice none 0 0] #[.string ⟨#[]⟩, .int .i64 0, .int .i64 0, .int .i64 0, .bool false, .slice none 0 0, .slice none 0 0]) := B0.out.call hr1 hg1
  have HGV0 : Hid (W0.grownBy V0 (some p)) := hg1
  obtain ⟨W1, hW⟩ : ∃ W, W = V0.setCell ⟨w.heap.size + 1, 0, none⟩ (.string (strB x0)) := ⟨_, rfl⟩
  have HW1 : Hid (W1 = V0.setCell ⟨w.heap.size + 1, 0, none⟩ (.string (strB x0))) := hW
  have B1 : Hid (RdBox w W1 p base cap bs a1 r1 58 #[.string ⟨#[]⟩, .int .i64 0, .int .i64 0, .int .i64 0, .bool false, .slice none 0 0, .slice none 0 0] #[.string (strB x0), .int .i64 0, .int .i64 0, .int .i64 0, .bool false, .slice none 0 0, .slice none 0 0]) := by rw [hW]; exact A0.out.store 0 _
  obtain ⟨q0, -, -, -, -, -, -⟩ := cells7 A0.out.X
  have fz := cfrozen A0.out.X 0
  clear hr1 hg1 hW 
  have c := int_any B1.out.rd
  rw [show stepR 0 a1 r1 (getI (bs.drop a1)) = (x1, a2, r2) from HX1.out] at c
  simp only at c
  go_wp2_with fail
  rw [← HW1.out]
  refine c.mono ?_
  clear c
  rintro e V1 ⟨rfl, hr1, hg1⟩
  have A1 : Hid (RdBox w V1 p base cap bs a2 r2 58 #[.string ⟨#[]⟩, .int .i64 0, .int .i64 0, .int .i64 0, .bool false, .slice none 0 0, .slice none 0 0] #[.string (strB x0), .int .i64 0, .int .i64 0, .int .i64 0, .bool false, .slice none 0 0, .slice none 0 0]) := B1.out.call hr1 hg1
  have HGV1 : Hid (W1.grownBy V1 (some p)) := hg1
  obtain ⟨W2, hW⟩ : ∃ W, W = V1.setCell ⟨w.heap.size + 1, 1, none⟩ (.int .i64 x1) := ⟨_, rfl⟩
  have HW2 : Hid (W2 = V1.setCell ⟨w.heap.size + 1, 1, none⟩ (.int .i64 x1)) := hW
  have B2 : Hid (RdBox w W2 p base cap bs a2 r2 58 #[.string ⟨#[]⟩, .int .i64 0, .int .i64 0, .int .i64 0, .bool false, .slice none 0 0, .slice none 0 0] #[.string (strB x0), .int .i64 x1, .int .i64 0, .int .i64 0, .bool false, .slice none 0 0, .slice none 0 0]) := by rw [hW]; exact A1.out.store 1 _
  obtain ⟨-, q1, -, -, -, -, -⟩ := cells7 A1.out.X
  have fz := cfrozen A1.out.X 1
  clear hr1 hg1 hW 
  have c := int_any B2.out.rd
  rw [show stepR 0 a2 r2 (getI (bs.drop a2)) = (x2, a3, r3) from HX2.out] at c
  simp only at c
  go_wp2_with fail
  rw [← HW2.out]
  refine c.mono ?_
  clear c
  rintro e V2 ⟨rfl, hr1, hg1⟩
  have A2 : Hid (RdBox w V2 p base cap bs a3 r3 58 #[.string ⟨#[]⟩, .int .i64 0, .int .i64 0, .int .i64 0, .bool false, .slice none 0 0, .slice none 0 0] #[.string (strB x0), .int .i64 x1, .int .i64 0, .int .i64 0, .bool false, .slice none 0 0, .slice none 0 0]) := B2.out.call hr1 hg1
  have HGV2 : Hid (W2.grownBy V2 (some p)) := hg1
  obtain ⟨W3, hW⟩ : ∃ W, W = V2.setCell ⟨w.heap.size + 1, 2, none⟩ (.int .i64 x2) := ⟨_, rfl⟩
  have HW3 : Hid (W3 = V2.setCell ⟨w.heap.size + 1, 2, none⟩ (.int .i64 x2)) := hW
  have B3 : Hid (RdBox w W3 p base cap bs a3 r3 58 #[.string ⟨#[]⟩, .int .i64 0, .int .i64 0, .int .i64 0, .bool false, .slice none 0 0, .slice none 0 0] #[.string (strB x0), .int .i64 x1, .int .i64 x2, .int .i64 0, .bool false, .slice none 0 0, .slice none 0 0]) := by rw [hW]; exact A2.out.store 2 _
  obtain ⟨-, -, q2, -, -, -, -⟩ := cells7 A2.out.X
  have fz := cfrozen A2.out.X 2
  clear hr1 hg1 hW 
  have c := int_any B3.out.rd
  rw [show stepR 0 a3 r3 (getI (bs.drop a3)) = (x3, a4, r4) from HX3.out] at c
  simp only at c
  go_wp2_with fail
  rw [← HW3.out]
  refine c.mono ?_
  clear c
  rintro e V3 ⟨rfl, hr1, hg1⟩
  have A3 : Hid (RdBox w V3 p base cap bs a4 r4 58 #[.string ⟨#[]⟩, .int .i64 0, .int .i64 0, .int .i64 0, .bool false, .slice none 0 0, .slice none 0 0] #[.string (strB x0), .int .i64 x1, .int .i64 x2, .int .i64 0, .bool false, .slice none 0 0, .slice none 0 0]) := B3.out.call hr1 hg1
  have HGV3 : Hid (W3.grownBy V3 (some p)) := hg1
  obtain ⟨W4, hW⟩ : ∃ W, W = V3.setCell ⟨w.heap.size + 1, 3, none⟩ (.int .i64 x3) := ⟨_, rfl⟩
  have HW4 : Hid (W4 = V3.setCell ⟨w.heap.size + 1, 3, none⟩ (.int .i64 x3)) := hW
  have B4 : Hid (RdBox w W4 p base cap bs a4 r4 58 #[.string ⟨#[]⟩, .int .i64 0, .int .i64 0, .int .i64 0, .bool false, .slice none 0 0, .slice none 0 0] #[.string (strB x0), .int .i64 x1, .int .i64 x2, .int .i64 x3, .bool false, .slice none 0 0, .slice none 0 0]) := by rw [hW]; exact A3.out.store 3 _
  obtain ⟨-, -, -, q3, -, -, -⟩ := cells7 A3.out.X
  have fz := cfrozen A3.out.X 3
  clear hr1 hg1 hW 
  have c := bool_any B4.out.rd
  rw [show stepR false a4 r4 (getB (bs.drop a4)) = (x4, a5, r5) from HX4.out] at c
  simp only at c
  go_wp2_with fail
  rw [← HW4.out]
  refine c.mono ?_
  clear c
  rintro e V4 ⟨rfl, hr1, hg1⟩
  have A4 : Hid (RdBox w V4 p base cap bs a5 r5 58 #[.string ⟨#[]⟩, .int .i64 0, .int .i64 0, .int .i64 0, .bool false, .slice none 0 0, .slice none 0 0] #[.string (strB x0), .int .i64 x1, .int .i64 x2, .int .i64 x3, .bool false, .slice none 0 0, .slice none 0 0]) := B4.out.call hr1 hg1
  have HGV4 : Hid (W4.grownBy V4 (some p)) := hg1
  obtain ⟨W5, hW⟩ : ∃ W, W = V4.setCell ⟨w.heap.size + 1, 4, none⟩ (.bool x4) := ⟨_, rfl⟩
  have HW5 : Hid (W5 = V4.setCell ⟨w.heap.size + 1, 4, none⟩ (.bool x4)) := hW
  have B5 : Hid (RdBox w W5 p base cap bs a5 r5 58 #[.string ⟨#[]⟩, .int .i64 0, .int .i64 0, .int .i64 0, .bool false, .slice none 0 0, .slice none 0 0] #[.string (strB x0), .int .i64 x1, .int .i64 x2, .int .i64 x3, .bool x4, .slice none 0 0, .slice none 0 0]) := by rw [hW]; exact A4.out.store 4 _
  obtain ⟨-, -, -, -, q4, -, -⟩ := cells7 A4.out.X
  have fz := cfrozen A4.out.X 4
  clear hr1 hg1 hW 
  have c := cReadAllIns_any p base cap bs (rIns bs) W5 a5 r5 B5.out.rd (Nat.lt_of_lt_of_le B5.out.plt B5.out.G.size) (fun x e => Nat.lt_of_lt_of_le (B5.out.blt x e) B5.out.G.size) (fun W a hs hW => (cReadIns_any p base cap bs W a 0 hW (Nat.lt_of_lt_of_le B5.out.plt (Nat.le_trans B5.out.G.size hs)) (fun x e => Nat.lt_of_lt_of_le (B5.out.blt x e) (Nat.le_trans B5.out.G.size hs))))
  rw [HX5.out] at c
  simp only at c
  go_wp2_with fail
  rw [← HW5.out]
  refine c.mono ?_
  clear c
  rintro e V5 ⟨v5, rfl, css, hJ⟩
  obtain ⟨b5, n5, c5, rfl⟩ : ∃ b n c, v5 = .slice b n c := by
    rcases hJ.row.2 with ⟨h, _⟩ | ⟨g, cp, cur, h, _⟩
    · exact ⟨_, _, _, h⟩
    · exact ⟨_, _, _, h⟩
  have hin : insIn (fun b => W5.heap.size ≤ b ∧ b ≠ p) V5 (.slice b5 n5 c5) x5 := hJ.rowIn lawIns (fun x cs b o hco hc => by rw [show cs = [.int .i64 x.op, .int .i64 x.a] from hco] at hc; exact ⟨hc 0 (by simp), hc 1 (by simp)⟩)
  have HIN5 : Hid (insIn (fun b => W5.heap.size ≤ b ∧ b ≠ p) V5 (.slice b5 n5 c5) x5) := hin
  have hr1 := hJ.rd
  have hg1 := hJ.kept
  clear hin hJ
  have A5 : Hid (RdBox w V5 p base cap bs a6 r6 58 #[.string ⟨#[]⟩, .int .i64 0, .int .i64 0, .int .i64 0, .bool false, .slice none 0 0, .slice none 0 0] #[.string (strB x0), .int .i64 x1, .int .i64 x2, .int .i64 x3, .bool x4, .slice none 0 0, .slice none 0 0]) := B5.out.call hr1 hg1
  have HGV5 : Hid (W5.grownBy V5 (some p)) := hg1
  obtain ⟨W6, hW⟩ : ∃ W, W = V5.setCell ⟨w.heap.size + 1, 5, none⟩ (.slice b5 n5 c5) := ⟨_, rfl⟩
  have HW6 : Hid (W6 = V5.setCell ⟨w.heap.size + 1, 5, none⟩ (.slice b5 n5 c5)) := hW
  have B6 : Hid (RdBox w W6 p base cap bs a6 r6 58 #[.string ⟨#[]⟩, .int .i64 0, .int .i64 0, .int .i64 0, .bool false, .slice none 0 0, .slice none 0 0] #[.string (strB x0), .int .i64 x1, .int .i64 x2, .int .i64 x3, .bool x4, .slice b5 n5 c5, .slice none 0 0]) := by rw [hW]; exact A5.out.store 5 _
  obtain ⟨-, -, -, -, -, q5, -⟩ := cells7 A5.out.X
  have fz := cfrozen A5.out.X 5
  clear hr1 hg1 hW 
  have c := cReadAllVar_any p base cap bs (rVar bs) W6 a6 r6 B6.out.rd (Nat.lt_of_lt_of_le B6.out.plt B6.out.G.size) (fun x e => Nat.lt_of_lt_of_le (B6.out.blt x e) B6.out.G.size) (fun W a hs hW => (cReadVar_any p base cap bs W a 0 hW (Nat.lt_of_lt_of_le B6.out.plt (Nat.le_trans B6.out.G.size hs)) (fun x e => Nat.lt_of_lt_of_le (B6.out.blt x e) (Nat.le_trans B6.out.G.size hs))))
  rw [HX6.out] at c
  simp only at c
  go_wp2_with fail
  rw [← HW6.out]
  refine c.mono ?_
  clear c
  rintro e V6 ⟨v6, rfl, css, hJ⟩
  obtain ⟨b6, n6, c6, rfl⟩ : ∃ b n c, v6 = .slice b n c := by
    rcases hJ.row.2 with ⟨h, _⟩ | ⟨g, cp, cur, h, _⟩
    · exact ⟨_, _, _, h⟩
    · exact ⟨_, _, _, h⟩
  have hin : varsIn (fun b => W6.heap.size ≤ b ∧ b ≠ p) V6 (.slice b6 n6 c6) x6 := hJ.rowIn lawVar (fun x cs b o hco hc => by rw [show cs = [.string (strB x.name), .int .i64 x.slot, .int .i64 x.lo, .int .i64 x.hi] from hco] at hc; exact ⟨hc 0 (by simp), hc 1 (by simp), hc 2 (by simp), hc 3 (by simp)⟩)
  have HIN6 : Hid (varsIn (fun b => W6.heap.size ≤ b ∧ b ≠ p) V6 (.slice b6 n6 c6) x6) := hin
  have hr1 := hJ.rd
  have hg1 := hJ.kept
  clear hin hJ
  have A6 : Hid (RdBox w V6 p base cap bs a7 r7 58 #[.string ⟨#[]⟩, .int .i64 0, .int .i64 0, .int .i64 0, .bool false, .slice none 0 0, .slice none 0 0] #[.string (strB x0), .int .i64 x1, .int .i64 x2, .int .i64 x3, .bool x4, .slice b5 n5 c5, .slice none 0 0]) := B6.out.call hr1 hg1
  have HGV6 : Hid (W6.grownBy V6 (some p)) := hg1
  obtain ⟨W7, hW⟩ : ∃ W, W = V6.setCell ⟨w.heap.size + 1, 6, none⟩ (.slice b6 n6 c6) := ⟨_, rfl⟩
  have HW7 : Hid (W7 = V6.setCell ⟨w.heap.size + 1, 6, none⟩ (.slice b6 n6 c6)) := hW
  have B7 : Hid (RdBox w W7 p base cap bs a7 r7 58 #[.string ⟨#[]⟩, .int .i64 0, .int .i64 0, .int .i64 0, .bool false, .slice none 0 0, .slice none 0 0] #[.string (strB x0), .int .i64 x1, .int .i64 x2, .int .i64 x3, .bool x4, .slice b5 n5 c5, .slice b6 n6 c6]) := by rw [hW]; exact A6.out.store 6 _
  obtain ⟨-, -, -, -, -, -, q6⟩ := cells7 A6.out.X
  have fz := cfrozen A6.out.X 6
  clear hr1 hg1 hW 
  go_upto_region 9 with fail
  rw [← HW7.out]
  obtain ⟨d0, d1, d2, d3, d4, d5, d6⟩ := cells7 B7.out.X
  obtain ⟨y0, y1, y2, y3, y4, y5, y6⟩ := cells7 B7.out.Y
  have yf := cfrozen B7.out.Y
  have HE : Hid (RdBox w (((((((W7.setCell ⟨w.heap.size, 0, none⟩ (.string (strB x0))).setCell ⟨w.heap.size, 1, none⟩ (.int .i64 x1)).setCell ⟨w.heap.size, 2, none⟩ (.int .i64 x2)).setCell ⟨w.heap.size, 3, none⟩ (.int .i64 x3)).setCell ⟨w.heap.size, 4, none⟩ (.bool x4)).setCell ⟨w.heap.size, 5, none⟩ (.slice b5 n5 c5)).setCell ⟨w.heap.size, 6, none⟩ (.slice b6 n6 c6)) p base cap bs a7 r7 58 #[.string (strB x0), .int .i64 x1, .int .i64 x2, .int .i64 x3, .bool x4, .slice b5 n5 c5, .slice b6 n6 c6] #[.string (strB x0), .int .i64 x1, .int .i64 x2, .int .i64 x3, .bool x4, .slice b5 n5 c5, .slice b6 n6 c6]) := (((((((B7.out.storeY 0 (.string (strB x0))).storeY 1 (.int .i64 x1)).storeY 2 (.int .i64 x2)).storeY 3 (.int .i64 x3)).storeY 4 (.bool x4)).storeY 5 (.slice b5 n5 c5)).storeY 6 (.slice b6 n6 c6))
  obtain ⟨z0, z1, z2, z3, z4, z5, z6⟩ := cells7 HE.out.Y
  have hkeep : ∀ q, w.heap.size + 2 ≤ q → ((((((((W7.setCell ⟨w.heap.size, 0, none⟩ (.string (strB x0))).setCell ⟨w.heap.size, 1, none⟩ (.int .i64 x1)).setCell ⟨w.heap.size, 2, none⟩ (.int .i64 x2)).setCell ⟨w.heap.size, 3, none⟩ (.int .i64 x3)).setCell ⟨w.heap.size, 4, none⟩ (.bool x4)).setCell ⟨w.heap.size, 5, none⟩ (.slice b5 n5 c5)).setCell ⟨w.heap.size, 6, none⟩ (.slice b6 n6 c6))).heap[q]? = W7.heap[q]? := fun q hq => by
    rw [Below.heap_setCell _ _ _ _ (by simp; omega), Below.heap_setCell _ _ _ _ (by simp; omega), Below.heap_setCell _ _ _ _ (by simp; omega), Below.heap_setCell _ _ _ _ (by simp; omega), Below.heap_setCell _ _ _ _ (by simp; omega), Below.heap_setCell _ _ _ _ (by simp; omega), Below.heap_setCell _ _ _ _ (by simp; omega)]
  have hsz : ((((((((W7.setCell ⟨w.heap.size, 0, none⟩ (.string (strB x0))).setCell ⟨w.heap.size, 1, none⟩ (.int .i64 x1)).setCell ⟨w.heap.size, 2, none⟩ (.int .i64 x2)).setCell ⟨w.heap.size, 3, none⟩ (.int .i64 x3)).setCell ⟨w.heap.size, 4, none⟩ (.bool x4)).setCell ⟨w.heap.size, 5, none⟩ (.slice b5 n5 c5)).setCell ⟨w.heap.size, 6, none⟩ (.slice b6 n6 c6))).heap.size = W7.heap.size := by simp
  have HNV : Hid (varsIn (fun b => w.heap.size ≤ b) ((((((((W7.setCell ⟨w.heap.size, 0, none⟩ (.string (strB x0))).setCell ⟨w.heap.size, 1, none⟩ (.int .i64 x1)).setCell ⟨w.heap.size, 2, none⟩ (.int .i64 x2)).setCell ⟨w.heap.size, 3, none⟩ (.int .i64 x3)).setCell ⟨w.heap.size, 4, none⟩ (.bool x4)).setCell ⟨w.heap.size, 5, none⟩ (.slice b5 n5 c5)).setCell ⟨w.heap.size, 6, none⟩ (.slice b6 n6 c6))) (.slice b6 n6 c6) x6) := by
    have hWs : w.heap.size + 1 < W6.heap.size := heap_lt B6.out.X
    have h1 : varsIn (fun b => w.heap.size + 2 ≤ b ∧ b ≠ p) V6 (.slice b6 n6 c6) x6 := rowIn.wide HIN6.out (fun q _ hq => ⟨by have := hq.1; omega, hq.2⟩) fun _ _ _ h => h
    have h2 := rowIn.kept (w' := (((((((W7.setCell ⟨w.heap.size, 0, none⟩ (.string (strB x0))).setCell ⟨w.heap.size, 1, none⟩ (.int .i64 x1)).setCell ⟨w.heap.size, 2, none⟩ (.int .i64 x2)).setCell ⟨w.heap.size, 3, none⟩ (.int .i64 x3)).setCell ⟨w.heap.size, 4, none⟩ (.bool x4)).setCell ⟨w.heap.size, 5, none⟩ (.slice b5 n5 c5)).setCell ⟨w.heap.size, 6, none⟩ (.slice b6 n6 c6))) h1 (varE_keeps _) (by rw [hsz, HW7.out]; simp) fun q hq _ => by
      rw [hkeep q hq.1, HW7.out, Below.heap_setCell _ _ _ _ (by have := hq.1; simp; omega)]
    exact rowIn.wide h2 (fun q _ hq => by have := hq.1; omega) fun _ _ _ h => h
  have HNI : Hid (insIn (fun b => w.heap.size ≤ b) ((((((((W7.setCell ⟨w.heap.size, 0, none⟩ (.string (strB x0))).setCell ⟨w.heap.size, 1, none⟩ (.int .i64 x1)).setCell ⟨w.heap.size, 2, none⟩ (.int .i64 x2)).setCell ⟨w.heap.size, 3, none⟩ (.int .i64 x3)).setCell ⟨w.heap.size, 4, none⟩ (.bool x4)).setCell ⟨w.heap.size, 5, none⟩ (.slice b5 n5 c5)).setCell ⟨w.heap.size, 6, none⟩ (.slice b6 n6 c6))) (.slice b5 n5 c5) x5) := by
    have hWs : w.heap.size + 1 < W5.heap.size := heap_lt B5.out.X
    have h1 : insIn (fun b => w.heap.size + 2 ≤ b ∧ b ≠ p) V5 (.slice b5 n5 c5) x5 := rowIn.wide HIN5.out (fun q _ hq => ⟨by have := hq.1; omega, hq.2⟩) fun _ _ _ h => h
    have h2 := rowIn.kept (w' := W6) h1 (insE_keeps _) (by rw [HW6.out]; simp) fun q hq _ => by
      rw [HW6.out, Below.heap_setCell _ _ _ _ (by have := hq.1; simp; omega)]
    have h3 := rowIn.kept (w' := V6) h2 (insE_keeps _) HGV6.out.size fun q hq hlt => HGV6.out.block q hlt (by have := hq.2; simp; exact this)
    have h4 := rowIn.kept (w' := (((((((W7.setCell ⟨w.heap.size, 0, none⟩ (.string (strB x0))).setCell ⟨w.heap.size, 1, none⟩ (.int .i64 x1)).setCell ⟨w.heap.size, 2, none⟩ (.int .i64 x2)).setCell ⟨w.heap.size, 3, none⟩ (.int .i64 x3)).setCell ⟨w.heap.size, 4, none⟩ (.bool x4)).setCell ⟨w.heap.size, 5, none⟩ (.slice b5 n5 c5)).setCell ⟨w.heap.size, 6, none⟩ (.slice b6 n6 c6))) h3 (insE_keeps _) (by rw [hsz, HW7.out]; simp) fun q hq _ => by
      rw [hkeep q hq.1, HW7.out, Below.heap_setCell _ _ _ _ (by have := hq.1; simp; omega)]
    exact rowIn.wide h4 (fun q _ hq => by have := hq.1; omega) fun _ _ _ h => h
  clear hkeep hsz
  go_wp2
  refine bodyPost_ret (v := .agg #[.string (strB x0), .int .i64 x1, .int .i64 x2, .int .i64 x3, .bool x4, .slice b5 n5 c5, .slice b6 n6 c6]) (by simp [results, Tryz.results50, go_sem, z0, z1, z2, z3, z4, z5, z6]) rfl ?_
  refine ⟨(⟨x0, x1, x2, x3, x4, x5, x6⟩ : Un), by rw [HRES.out], ⟨_, _, _, _, _, _, rfl, ⟨HNI.out, HNV.out⟩⟩, ?_, HE.out.G⟩
  rw [HRES.out]
  exact HE.out.rd
end Go.Proofs.YtechkkphbajmoaaGreatDoor
/- code: how many there are, and each, read: at hindcast/api.Shape. -/
namespace Go.Proofs.YtechkkphbajmoaaGreatDoor
open Go.RowKit Go.Shelf

set_option maxRecDepth 100000 in
set_option maxHeartbeats 8000000 in
theorem cReadAllShape_any (p : Nat) (base : Option Addr) (cap : Nat) (bs : List UInt8) (one : Nat → Nat → Sh × Nat × Nat) (w : World) (a0 r0 : Nat) (hr : ReaderAt w p base cap bs a0 r0) (hp : p < w.heap.size) (hbl : ∀ x, base = some x → x.block < w.heap.size)
    (hk : ∀ W a, w.heap.size ≤ W.heap.size → ReaderAt W p base cap bs a 0 → Calls Tryz.prog 48 #[.pointer (some ⟨p, 0, none⟩)] W fun e w' => ∃ x, x = (one a 0).1 ∧ (∃ bf nf cf, e = .returned (shV x (.slice bf nf cf)) ∧ strsIn (fun b => W.heap.size ≤ b) w' (.slice bf nf cf) x.fields) ∧ ReaderAt w' p base cap bs (one a 0).2.1 (one a 0).2.2 ∧ W.grownBy w' (some p)) :
    Calls Tryz.prog 47 #[.pointer (some ⟨p, 0, none⟩), .func (.func 48) #[] #[]] w fun e w' => ∃ v, e = .returned v ∧ ∃ css, RowJ coSh 2 w.heap.size p 77 w base cap bs v w' (rAll bs one a0 r0).1 css (rAll bs one a0 r0).2.1 (rAll bs one a0 r0).2.2 := by
  have HK : Hid (∀ W a, w.heap.size ≤ W.heap.size → ReaderAt W p base cap bs a 0 → Calls Tryz.prog 48 #[.pointer (some ⟨p, 0, none⟩)] W fun e w' => ∃ x, x = (one a 0).1 ∧ (∃ bf nf cf, e = .returned (shV x (.slice bf nf cf)) ∧ strsIn (fun b => W.heap.size ≤ b) w' (.slice bf nf cf) x.fields) ∧ ReaderAt w' p base cap bs (one a 0).2.1 (one a 0).2.2 ∧ W.grownBy w' (some p)) := hk
  obtain ⟨i0, hinf, hz0, hz1, hz2⟩ := info_parts info_shT
  have HR : Hid (ReaderAt w p base cap bs a0 r0) := hr
  have HP : Hid (p < w.heap.size) := hp
  have HBL : Hid (∀ x, base = some x → x.block < w.heap.size) := hbl
  have cc := count_any 1048576 hr
  have hbd := rC_bound bs a0 r0
  obtain ⟨n, a1, r1, hrc⟩ : ∃ (n : Nat) (a1 r1 : Nat), rC bs a0 r0 = ((n : Int), a1, r1) := ⟨(rC bs a0 r0).1.toNat, (rC bs a0 r0).2.1, (rC bs a0 r0).2.2, by rw [Int.toNat_of_nonneg hbd.1]⟩
  have hrc' : stepR 0 a0 r0 (getC (bs.drop a0) 1048576) = ((n : Int), a1, r1) := hrc
  rw [hrc'] at cc
  simp only at cc
  have hn : (n : Int) ≤ 1048576 := by rw [hrc] at hbd; exact hbd.2
  have HALL : Hid (rAll bs one a0 r0 = loopR one n a1 r1) := by
    show _ = _
    unfold rAll
    rw [hrc]
    simp only [Int.toNat_natCast]
  obtain ⟨RR, hRR⟩ : ∃ RR, RR = rAll bs one a0 r0 := ⟨_, rfl⟩
  rw [← hRR] at HALL ⊢
  clear hk hr hp hbl hbd hrc hrc' hRR
  go_enter Tryz.func47, Tryz.ntmps47
  go_wp2_with fail
  refine cc.mono ?_
  clear cc
  rintro e w1 ⟨rfl, hr1, hg1⟩
  have HJ0 : Hid (RowJ coSh 2 w.heap.size p 77 w base cap bs (.slice none 0 0) w1 ([] : List Sh) [] a1 r1) := RowJ.start hr1 hg1 rfl HP.out HBL.out
  clear hr1 hg1
  go_wp2
  go_loopw [5, 6] (fun v vi wr => ∃ (m : Nat) (l : List Sh) (css : List (List Value)) (a r : Nat), vi = .int .i64 (m : Int) ∧ m ≤ n ∧ l.length + m ≤ n ∧ RowJ coSh 2 w.heap.size p 77 w base cap bs v wr l css a r ∧ RR = (l ++ (loopR one m a r).1, (loopR one m a r).2)) (fun _ vi _ => (intOf vi).toNat)
  case atStart => exact ⟨n, [], [], a1, r1, rfl, Nat.le_refl _, by simp, HJ0.out, by rw [HALL.out]; rfl⟩
  case round =>
    obtain ⟨m, l, css, a, r, rfl, hmn, hlm, hJ, hRR⟩ := hrel
    have HJ : Hid (RowJ coSh 2 w.heap.size p 77 w base cap bs u5 wr l css a r) := hJ
    have HRR : Hid (RR = (l ++ (loopR one m a r).1, (loopR one m a r).2)) := hRR
    have HLM : Hid (l.length + m ≤ n) := hlm
    by_cases hm : 0 < m
    · have hm1 : (0 : Int) < m := by omega
      have hm2 : (m : Int) ≤ 1048576 := by omega
      have ce := err_any hJ.rd
      obtain ⟨b5, n5, c5, hv5⟩ : ∃ b n c, u5 = .slice b n c := by
        rcases hJ.row.2 with ⟨h, _⟩ | ⟨g, cp, cur, h, _⟩
        · exact ⟨_, _, _, h⟩
        · exact ⟨_, _, _, h⟩
      subst hv5
      by_cases hr0 : r = 0
      · subst hr0
        have c1 := HK.out wr a hJ.low hJ.rd
        have HRS : Hid (RR = (l ++ [(one a 0).1] ++ (loopR one (m - 1) (one a 0).2.1 (one a 0).2.2).1, (loopR one (m - 1) (one a 0).2.1 (one a 0).2.2).2)) := by
          obtain ⟨m', rfl⟩ : ∃ m', m = m' + 1 := ⟨m - 1, by omega⟩
          show _ = _
          rw [hRR, loopR_succ]
          simp
        clear hJ hRR hlm
        go_wp2_with fail
        refine ce.mono ?_
        clear ce
        rintro e _ ⟨rfl, rfl⟩
        go_wp2_with fail
        refine c1.mono ?_
        clear c1
        rintro e w2 ⟨x, hx, ⟨bf, nf, cf, rfl, hnest⟩, hr2, hg2⟩
        have HX : Hid (x = (one a 0).1) := hx
        have HR2 : Hid (ReaderAt w2 p base cap bs (one a 0).2.1 (one a 0).2.2) := hr2
        have HG2 : Hid (wr.grownBy w2 (some p)) := hg2
        have HCO : Hid (coSh (fun b => wr.heap.size ≤ b) w2 x [.string (strB x.name), .slice bf nf cf]) := ⟨_, _, _, rfl, hnest⟩
        have HROW : Hid (w2.ownsRow w.heap.size 77 2 (.slice b5 n5 c5) l.length css.flatten) := HJ.out.row.kept hg2 (by
          by_cases hob : (Value.slice b5 n5 c5).ownBlock = none
          · exact .inl hob
          · refine .inr fun e => ?_
            have := (HJ.out.row.lt p e).1
            have := HP.out
            omega)
        have HW2 : Hid (w.heap.size ≤ w2.heap.size) := Nat.le_trans HJ.out.low hg2.size
        have HLN : Hid (l.length + 1 ≤ 1048576) := by have := HLM.out; show _ ≤ _; omega
        clear hx hnest hr2 hg2
        go_wp2_with (first
          | (at_builtin; refine wpList_append_own_at _ rfl _ _ 23 rfl w.heap.size 77 i0 (.agg #[.string ⟨#[]⟩, .slice none 0 0]) 2 40 Tryz.underlying23 hinf hz0 hz1 hz2 rfl (by decide) _ _ _ rfl (HROW.out.alloc _) ⟨w2.heap.size, 0, none⟩ 1 1 [.string (strB x.name), .slice bf nf cf] rfl rfl (rcells_new _ _ _) (lawSh.one _ _ _ _ HCO.out) (by have := HLN.out; unfold maxLen; omega) (by have := HLN.out; omega) (by have := HW2.out; simp; omega) ?_; intro v' w9 hown9 hgrow9 hnil9 hloc9)
          | go_in)
        go_roundw
        case rel =>
          refine ⟨m - 1, l ++ [x], css ++ [[.string (strB x.name), .slice bf nf cf]], (one a 0).2.1, (one a 0).2.2, ?_, by omega, by have := HLM.out; simp; omega, HJ.out.snoc lawSh HR2.out HG2.out HCO.out rfl hown9 hgrow9 hloc9, by rw [HX.out]; exact HRS.out⟩
          have : ((m - 1 : Nat) : Int) = (m : Int) - 1 := by omega
          rw [this]
        case measure => simp [intOf]; omega
      · have hrb : ((r : Int) == 0) = false := by rw [beq_eq_false_iff_ne]; omega
        have HE : Hid (RR = (l, a, r)) := by rw [hRR, loopR_bad one m a r hr0]; show _ = _; simp
        clear hJ hRR hlm
        go_wp2_with fail
        refine ce.mono ?_
        clear ce
        rintro e _ ⟨rfl, rfl⟩
        go_wp2
        go_ret
        refine ⟨_, rfl, css, ?_⟩
        rw [HE.out]
        exact HJ.out
    · obtain rfl : m = 0 := by omega
      have HE : Hid (RR = (l, a, r)) := by rw [hRR, loopR_zero]; show _ = _; simp
      clear hJ hRR hlm
      go_wp2
      go_ret
      refine ⟨_, rfl, css, ?_⟩
      rw [HE.out]
      exact HJ.out
end Go.Proofs.YtechkkphbajmoaaGreatDoor
/- code: how many there are, and each, read: at hindcast/api.Unit. -/
namespace Go.Proofs.YtechkkphbajmoaaGreatDoor
open Go.RowKit Go.Shelf

set_option maxRecDepth 100000 in
set_option maxHeartbeats 8000000 in
theorem cReadAllUnit_any (p : Nat) (base : Option Addr) (cap : Nat) (bs : List UInt8) (one : Nat → Nat → Un × Nat × Nat) (w : World) (a0 r0 : Nat) (hr : ReaderAt w p base cap bs a0 r0) (hp : p < w.heap.size) (hbl : ∀ x, base = some x → x.block < w.heap.size)
    (hk : ∀ W a, w.heap.size ≤ W.heap.size → ReaderAt W p base cap bs a 0 → Calls Tryz.prog 50 #[.pointer (some ⟨p, 0, none⟩)] W fun e w' => ∃ x, x = (one a 0).1 ∧ (∃ bi ni ci bv nv cv, e = .returned (unV x (.slice bi ni ci) (.slice bv nv cv)) ∧ insIn (fun b => W.heap.size ≤ b) w' (.slice bi ni ci) x.ins ∧ varsIn (fun b => W.heap.size ≤ b) w' (.slice bv nv cv) x.vars) ∧ ReaderAt w' p base cap bs (one a 0).2.1 (one a 0).2.2 ∧ W.grownBy w' (some p)) :
    Calls Tryz.prog 49 #[.pointer (some ⟨p, 0, none⟩), .func (.func 50) #[] #[]] w fun e w' => ∃ v, e = .returned v ∧ ∃ css, RowJ coUn 7 w.heap.size p 58 w base cap bs v w' (rAll bs one a0 r0).1 css (rAll bs one a0 r0).2.1 (rAll bs one a0 r0).2.2 := by
  have HK : Hid (∀ W a, w.heap.size ≤ W.heap.size → ReaderAt W p base cap bs a 0 → Calls Tryz.prog 50 #[.pointer (some ⟨p, 0, none⟩)] W fun e w' => ∃ x, x = (one a 0).1 ∧ (∃ bi ni ci bv nv cv, e = .returned (unV x (.slice bi ni ci) (.slice bv nv cv)) ∧ insIn (fun b => W.heap.size ≤ b) w' (.slice bi ni ci) x.ins ∧ varsIn (fun b => W.heap.size ≤ b) w' (.slice bv nv cv) x.vars) ∧ ReaderAt w' p base cap bs (one a 0).2.1 (one a 0).2.2 ∧ W.grownBy w' (some p)) := hk
  obtain ⟨i0, hinf, hz0, hz1, hz2⟩ := info_parts info_unT
  have HR : Hid (ReaderAt w p base cap bs a0 r0) := hr
  have HP : Hid (p < w.heap.size) := hp
  have HBL : Hid (∀ x, base = some x → x.block < w.heap.size) := hbl
  have cc := count_any 1048576 hr
  have hbd := rC_bound bs a0 r0
  obtain ⟨n, a1, r1, hrc⟩ : ∃ (n : Nat) (a1 r1 : Nat), rC bs a0 r0 = ((n : Int), a1, r1) := ⟨(rC bs a0 r0).1.toNat, (rC bs a0 r0).2.1, (rC bs a0 r0).2.2, by rw [Int.toNat_of_nonneg hbd.1]⟩
  have hrc' : stepR 0 a0 r0 (getC (bs.drop a0) 1048576) = ((n : Int), a1, r1) := hrc
  rw [hrc'] at cc
  simp only at cc
  have hn : (n : Int) ≤ 1048576 := by rw [hrc] at hbd; exact hbd.2
  have HALL : Hid (rAll bs one a0 r0 = loopR one n a1 r1) := by
    show _ = _
    unfold rAll
    rw [hrc]
    simp only [Int.toNat_natCast]
  obtain ⟨RR, hRR⟩ : ∃ RR, RR = rAll bs one a0 r0 := ⟨_, rfl⟩
  rw [← hRR] at HALL ⊢
  clear hk hr hp hbl hbd hrc hrc' hRR
  go_enter Tryz.func49, Tryz.ntmps49
  go_wp2_with fail
  refine cc.mono ?_
  clear cc
  rintro e w1 ⟨rfl, hr1, hg1⟩
  have HJ0 : Hid (RowJ coUn 7 w.heap.size p 58 w base cap bs (.slice none 0 0) w1 ([] : List Un) [] a1 r1) := RowJ.start hr1 hg1 rfl HP.out HBL.out
  clear hr1 hg1
  go_wp2
  go_loopw [5, 6] (fun v vi wr => ∃ (m : Nat) (l : List Un) (css : List (List Value)) (a r : Nat), vi = .int .i64 (m : Int) ∧ m ≤ n ∧ l.length + m ≤ n ∧ RowJ coUn 7 w.heap.size p 58 w base cap bs v wr l css a r ∧ RR = (l ++ (loopR one m a r).1, (loopR one m a r).2)) (fun _ vi _ => (intOf vi).toNat)
  case atStart => exact ⟨n, [], [], a1, r1, rfl, Nat.le_refl _, by simp, HJ0.out, by rw [HALL.out]; rfl⟩
  case round =>
    obtain ⟨m, l, css, a, r, rfl, hmn, hlm, hJ, hRR⟩ := hrel
    have HJ : Hid (RowJ coUn 7 w.heap.size p 58 w base cap bs u5 wr l css a r) := hJ
    have HRR : Hid (RR = (l ++ (loopR one m a r).1, (loopR one m a r).2)) := hRR
    have HLM : Hid (l.length + m ≤ n) := hlm
    by_cases hm : 0 < m
    · have hm1 : (0 : Int) < m := by omega
      have hm2 : (m : Int) ≤ 1048576 := by omega
      have ce := err_any hJ.rd
      obtain ⟨b5, n5, c5, hv5⟩ : ∃ b n c, u5 = .slice b n c := by
        rcases hJ.row.2 with ⟨h, _⟩ | ⟨g, cp, cur, h, _⟩
        · exact ⟨_, _, _, h⟩
        · exact ⟨_, _, _, h⟩
      subst hv5
      by_cases hr0 : r = 0
      · subst hr0
        have c1 := HK.out wr a hJ.low hJ.rd
        have HRS : Hid (RR = (l ++ [(one a 0).1] ++ (loopR one (m - 1) (one a 0).2.1 (one a 0).2.2).1, (loopR one (m - 1) (one a 0).2.1 (one a 0).2.2).2)) := by
          obtain ⟨m', rfl⟩ : ∃ m', m = m' + 1 := ⟨m - 1, by omega⟩
          show _ = _
          rw [hRR, loopR_succ]
          simp
        clear hJ hRR hlm
        go_wp2_with fail
        refine ce.mono ?_
        clear ce
        rintro e _ ⟨rfl, rfl⟩
        go_wp2_with fail
        refine c1.mono ?_
        clear c1
        rintro e w2 ⟨x, hx, ⟨bi, ni, ci, bv, nv, cv, rfl, hnest⟩, hr2, hg2⟩
        have HX : Hid (x = (one a 0).1) := hx
        have HR2 : Hid (ReaderAt w2 p base cap bs (one a 0).2.1 (one a 0).2.2) := hr2
        have HG2 : Hid (wr.grownBy w2 (some p)) := hg2
        have HCO : Hid (coUn (fun b => wr.heap.size ≤ b) w2 x [.string (strB x.name), .int .i64 x.params, .int .i64 x.slots, .int .i64 x.stack, .bool x.result, .slice bi ni ci, .slice bv nv cv]) := ⟨_, _, _, _, _, _, rfl, hnest⟩
        have HROW : Hid (w2.ownsRow w.heap.size 58 7 (.slice b5 n5 c5) l.length css.flatten) := HJ.out.row.kept hg2 (by
          by_cases hob : (Value.slice b5 n5 c5).ownBlock = none
          · exact .inl hob
          · refine .inr fun e => ?_
            have := (HJ.out.row.lt p e).1
            have := HP.out
            omega)
        have HW2 : Hid (w.heap.size ≤ w2.heap.size) := Nat.le_trans HJ.out.low hg2.size
        have HLN : Hid (l.length + 1 ≤ 1048576) := by have := HLM.out; show _ ≤ _; omega
        clear hx hnest hr2 hg2
        go_wp2_with (first
          | (at_builtin; refine wpList_append_own_at _ rfl _ _ 24 rfl w.heap.size 58 i0 (.agg #[.string ⟨#[]⟩, .int .i64 0, .int .i64 0, .int .i64 0, .bool false, .slice none 0 0, .slice none 0 0]) 7 96 Tryz.underlying24 hinf hz0 hz1 hz2 rfl (by decide) _ _ _ rfl (HROW.out.alloc _) ⟨w2.heap.size, 0, none⟩ 1 1 [.string (strB x.name), .int .i64 x.params, .int .i64 x.slots, .int .i64 x.stack, .bool x.result, .slice bi ni ci, .slice bv nv cv] rfl rfl (rcells_new _ _ _) (lawUn.one _ _ _ _ HCO.out) (by have := HLN.out; unfold maxLen; omega) (by have := HLN.out; omega) (by have := HW2.out; simp; omega) ?_; intro v' w9 hown9 hgrow9 hnil9 hloc9)
          | go_in)
        go_roundw
        case rel =>
          refine ⟨m - 1, l ++ [x], css ++ [[.string (strB x.name), .int .i64 x.params, .int .i64 x.slots, .int .i64 x.stack, .bool x.result, .slice bi ni ci, .slice bv nv cv]], (one a 0).2.1, (one a 0).2.2, ?_, by omega, by have := HLM.out; simp; omega, HJ.out.snoc lawUn HR2.out HG2.out HCO.out rfl hown9 hgrow9 hloc9, by rw [HX.out]; exact HRS.out⟩
          have : ((m - 1 : Nat) : Int) = (m : Int) - 1 := by omega
          rw [this]
        case measure => simp [intOf]; omega
      · have hrb : ((r : Int) == 0) = false := by rw [beq_eq_false_iff_ne]; omega
        have HE : Hid (RR = (l, a, r)) := by rw [hRR, loopR_bad one m a r hr0]; show _ = _; simp
        clear hJ hRR hlm
        go_wp2_with fail
        refine ce.mono ?_
        clear ce
        rintro e _ ⟨rfl, rfl⟩
        go_wp2
        go_ret
        refine ⟨_, rfl, css, ?_⟩
        rw [HE.out]
        exact HJ.out
    · obtain rfl : m = 0 := by omega
      have HE : Hid (RR = (l, a, r)) := by rw [hRR, loopR_zero]; show _ = _; simp
      clear hJ hRR hlm
      go_wp2
      go_ret
      refine ⟨_, rfl, css, ?_⟩
      rw [HE.out]
      exact HJ.out
end Go.Proofs.YtechkkphbajmoaaGreatDoor
