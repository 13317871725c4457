import Derived.Test.YtbdgniiafdjmiaaGreatDoorPRead
import Derived.Test.YtbdgniiafdjmiaaGreatDoorMW
import Derived.Test.YtbdgniiafdjmiaaGreatDoorHAddB
/- snap: the document's reader that goes on: a number, a count, a text. -/
namespace Go.Proofs.YtbdgniiafdjmiaaGreatDoor
open Go.RowKit Go.Shelf

/-- The reader at block p stands at a, with the error r. -/
structure PkAt (w : World) (p : Nat) (bs : List UInt8) (a r : Nat) : Prop where
  blk : w.heap[p]? = some (.cells #[.string (strB bs), .int .i64 (a : Int), .int .i64 (r : Int)] 73 (0, 0))
  le : a ≤ bs.length
  few : bs.length ≤ 1048576
theorem pstepR_at {α : Type} (z : α) (a r : Nat) (g : α × Nat × Nat) {n : Nat} (ha : a ≤ n) (hg : g.2.1 ≤ n - a) : (stepR z a r g).2.1 ≤ n := by
  unfold stepR
  split
  · exact ha
  · split
    · exact ha
    · simp only; omega
theorem pkg_set {w w1 : World} {p j : Nat} {v : Value} (h : w.grownBy w1 (some p)) : w.grownBy (w1.setCell ⟨p, j, none⟩ v) (some p) :=
  ⟨h.os, h.tape, h.output, by rw [show (w1.setCell ⟨p, j, none⟩ v).heap.size = w1.heap.size by simp]; exact h.size, fun k hk hne => by rw [heap_setCell_other _ _ _ _ (fun e => hne (by simpa using e))]; exact h.block k hk hne⟩
theorem pkg_alloc {w w1 : World} {p : Nat} {o : Obj} (h : w.grownBy w1 (some p)) : w.grownBy (w1.alloc o) (some p) :=
  ⟨h.os, h.tape, h.output, by have := h.size; simp; omega, fun k hk hne => by rw [Below.heap_alloc _ _ _ (by have := h.size; omega)]; exact h.block k hk hne⟩
theorem pkg_below {w w1 : World} (p : Nat) (h : Below w.heap.size w w1) : w.grownBy w1 (some p) := ⟨h.os, h.tape, h.output, h.size, fun k hk _ => h.block k hk⟩
theorem pkg_trans {w w1 w2 : World} {p : Nat} (h : w.grownBy w1 (some p)) (g : w1.grownBy w2 (some p)) : w.grownBy w2 (some p) :=
  ⟨g.os.trans h.os, g.tape.trans h.tape, g.output.trans h.output, Nat.le_trans h.size g.size, fun k hk hne => (g.block k (Nat.lt_of_lt_of_le hk h.size) hne).trans (h.block k hk hne)⟩
/-- What a reading leaves. -/
theorem pk_left {w w1 : World} {p : Nat} {bs : List UInt8} {a r a1 r1 : Nat} {o : Obj} (h : PkAt w p bs a r) (hb : Below w.heap.size w w1) (hle : a1 ≤ bs.length) :
    PkAt ((((w1.setCell ⟨p, 0, none⟩ (.string (strB bs))).setCell ⟨p, 1, none⟩ (.int .i64 (a1 : Int))).setCell ⟨p, 2, none⟩ (.int .i64 (r1 : Int))).alloc o) p bs a1 r1 ∧ w.grownBy ((((w1.setCell ⟨p, 0, none⟩ (.string (strB bs))).setCell ⟨p, 1, none⟩ (.int .i64 (a1 : Int))).setCell ⟨p, 2, none⟩ (.int .i64 (r1 : Int))).alloc o) (some p) := by
  have h1 := (hb.block p (heap_lt h.blk)).trans h.blk
  have h2 := heap_setCell_same w1 p 0 _ _ (.string (strB bs)) h1
  have h3 := heap_setCell_same _ p 1 _ _ (.int .i64 (a1 : Int)) h2
  have h4 := heap_setCell_same _ p 2 _ _ (.int .i64 (r1 : Int)) h3
  refine ⟨⟨?_, hle, h.few⟩, pkg_alloc (pkg_set (pkg_set (pkg_set (pkg_below p hb))))⟩
  rw [Below.heap_alloc _ _ _ (heap_lt h4), h4]
  rfl

set_option maxRecDepth 100000 in
set_option maxHeartbeats 4000000 in
theorem pkNum (p : Nat) (bs : List UInt8) (a r : Nat) (w : World) (h : PkAt w p bs a r) :
    Calls Tryz.prog 32 #[.pointer (some ⟨p, 0, none⟩)] w fun e w' => e = .returned (.int .i64 (rI bs a r).1) ∧ PkAt w' p bs (rI bs a r).2.1 (rI bs a r).2.2 ∧ w.grownBy w' (some p) := by
  have c : Calls Tryz.prog 65 #[.agg #[.string (strB bs), .int .i64 a, .int .i64 r]] w fun e w' => e = .returned (.tuple #[.agg #[.string (strB bs), .int .i64 ((rI bs a r).2.1 : Nat), .int .i64 ((rI bs a r).2.2 : Nat)], .int .i64 (rI bs a r).1]) ∧ Below w.heap.size w w' := refRInt_any (strB bs) a r w (by have := h.few; rw [strB_size]; omega) (by rw [strB_size]; exact h.le)
  have hle : (rI bs a r).2.1 ≤ bs.length := pstepR_at _ _ _ _ h.le (by have := getI_len (bs.drop a); rw [List.length_drop] at this; exact this)
  obtain ⟨x, a1, r1, hx⟩ : ∃ x a1 r1, rI bs a r = (x, a1, r1) := ⟨_, _, _, rfl⟩
  rw [hx] at c hle ⊢
  simp only at c hle ⊢
  obtain ⟨c0, c1, c2⟩ := cells3p h.blk
  have HH : Hid (PkAt w p bs a r) := h
  have HLE : Hid (a1 ≤ bs.length) := hle
  clear h hx hle
  go_enter Tryz.func32, Tryz.ntmps32
  go_wp2_with fail
  refine c.mono ?_
  clear c c0 c1 c2
  rintro e w1 ⟨rfl, hb1⟩
  have hblk : w1.heap[p]? = some (.cells #[.string (strB bs), .int .i64 (a : Int), .int .i64 (r : Int)] 73 (0, 0)) := (hb1.block p (heap_lt HH.out.blk)).trans HH.out.blk
  obtain ⟨c0, c1, c2⟩ := cells3p hblk
  have q0 := cfrozen hblk 0
  have q1 := cfrozen hblk 1
  have q2 := cfrozen hblk 2
  have hpl : p < w1.heap.size := heap_lt hblk
  have HB1 : Hid (Below w.heap.size w w1) := hb1
  clear hb1 hblk
  go_wp2
  go_ret
  exact ⟨rfl, pk_left HH.out HB1.out HLE.out⟩

set_option maxRecDepth 100000 in
set_option maxHeartbeats 4000000 in
theorem pkCount (p : Nat) (bs : List UInt8) (a r : Nat) (w : World) (h : PkAt w p bs a r) :
    Calls Tryz.prog 34 #[.pointer (some ⟨p, 0, none⟩)] w fun e w' => e = .returned (.int .i64 (rC bs a r).1) ∧ PkAt w' p bs (rC bs a r).2.1 (rC bs a r).2.2 ∧ w.grownBy w' (some p) := by
  have c : Calls Tryz.prog 67 #[.agg #[.string (strB bs), .int .i64 a, .int .i64 r], .int .i64 1048576] w fun e w' => e = .returned (.tuple #[.agg #[.string (strB bs), .int .i64 ((rC bs a r).2.1 : Nat), .int .i64 ((rC bs a r).2.2 : Nat)], .int .i64 (rC bs a r).1]) ∧ Below w.heap.size w w' := refRCount_any (strB bs) a r 1048576 w (by have := h.few; rw [strB_size]; omega) (by rw [strB_size]; exact h.le)
  have hle : (rC bs a r).2.1 ≤ bs.length := pstepR_at _ _ _ _ h.le (by have := getC_len (bs.drop a) 1048576; rw [List.length_drop] at this; exact this)
  obtain ⟨x, a1, r1, hx⟩ : ∃ x a1 r1, rC bs a r = (x, a1, r1) := ⟨_, _, _, rfl⟩
  rw [hx] at c hle ⊢
  simp only at c hle ⊢
  obtain ⟨c0, c1, c2⟩ := cells3p h.blk
  have HH : Hid (PkAt w p bs a r) := h
  have HLE : Hid (a1 ≤ bs.length) := hle
  clear h hx hle
  go_enter Tryz.func34, Tryz.ntmps34
  go_wp2_with fail
  refine c.mono ?_
  clear c c0 c1 c2
  rintro e w1 ⟨rfl, hb1⟩
  have hblk : w1.heap[p]? = some (.cells #[.string (strB bs), .int .i64 (a : Int), .int .i64 (r : Int)] 73 (0, 0)) := (hb1.block p (heap_lt HH.out.blk)).trans HH.out.blk
  obtain ⟨c0, c1, c2⟩ := cells3p hblk
  have q0 := cfrozen hblk 0
  have q1 := cfrozen hblk 1
  have q2 := cfrozen hblk 2
  have hpl : p < w1.heap.size := heap_lt hblk
  have HB1 : Hid (Below w.heap.size w w1) := hb1
  clear hb1 hblk
  go_wp2
  go_ret
  exact ⟨rfl, pk_left HH.out HB1.out HLE.out⟩

set_option maxRecDepth 100000 in
set_option maxHeartbeats 4000000 in
theorem pkText (m : Int) (p : Nat) (bs : List UInt8) (a r : Nat) (w : World) (h : PkAt w p bs a r) :
    Calls Tryz.prog 33 #[.pointer (some ⟨p, 0, none⟩), .int .i64 m] w fun e w' => e = .returned (.string (strB (rTx m bs a r).1)) ∧ PkAt w' p bs (rTx m bs a r).2.1 (rTx m bs a r).2.2 ∧ w.grownBy w' (some p) := by
  have c : Calls Tryz.prog 66 #[.agg #[.string (strB bs), .int .i64 a, .int .i64 r], .int .i64 m] w fun e w' => e = .returned (.tuple #[.agg #[.string (strB bs), .int .i64 ((rTx m bs a r).2.1 : Nat), .int .i64 ((rTx m bs a r).2.2 : Nat)], .string (strB (rTx m bs a r).1)]) ∧ Below w.heap.size w w' := refRText_any (strB bs) a r m w (by have := h.few; rw [strB_size]; omega) (by rw [strB_size]; exact h.le)
  have hle : (rTx m bs a r).2.1 ≤ bs.length := pstepR_at _ _ _ _ h.le (by have := getT_len (bs.drop a) m; rw [List.length_drop] at this; exact this)
  obtain ⟨x, a1, r1, hx⟩ : ∃ x a1 r1, rTx m bs a r = (x, a1, r1) := ⟨_, _, _, rfl⟩
  rw [hx] at c hle ⊢
  simp only at c hle ⊢
  obtain ⟨c0, c1, c2⟩ := cells3p h.blk
  have HH : Hid (PkAt w p bs a r) := h
  have HLE : Hid (a1 ≤ bs.length) := hle
  clear h hx hle
  go_enter Tryz.func33, Tryz.ntmps33
  go_wp2_with fail
  refine c.mono ?_
  clear c c0 c1 c2
  rintro e w1 ⟨rfl, hb1⟩
  have hblk : w1.heap[p]? = some (.cells #[.string (strB bs), .int .i64 (a : Int), .int .i64 (r : Int)] 73 (0, 0)) := (hb1.block p (heap_lt HH.out.blk)).trans HH.out.blk
  obtain ⟨c0, c1, c2⟩ := cells3p hblk
  have q0 := cfrozen hblk 0
  have q1 := cfrozen hblk 1
  have q2 := cfrozen hblk 2
  have hpl : p < w1.heap.size := heap_lt hblk
  have HB1 : Hid (Below w.heap.size w w1) := hb1
  clear hb1 hblk
  go_wp2
  go_ret
  exact ⟨rfl, pk_left HH.out HB1.out HLE.out⟩

set_option maxRecDepth 100000 in
set_option maxHeartbeats 4000000 in
theorem pkWell (p : Nat) (bs : List UInt8) (a r : Nat) (w : World) (h : PkAt w p bs a r) :
    Calls Tryz.prog 35 #[.pointer (some ⟨p, 0, none⟩)] w fun e w' => e = .returned (.bool (decide (r = 0))) ∧ w = w' := by
  obtain ⟨c0, c1, c2⟩ := cells3p h.blk
  clear h
  by_cases h0 : r = 0
  · subst h0
    go_enter Tryz.func35, Tryz.ntmps35
    go_wp2
    go_ret
    exact ⟨rfl, rfl⟩
  · have hd : decide (r = 0) = false := decide_eq_false h0
    have hb : ((r : Int) == 0) = false := by rw [beq_eq_false_iff_ne]; omega
    rw [hd]
    clear hd h0
    go_enter Tryz.func35, Tryz.ntmps35
    go_wp2
    go_ret
    exact ⟨rfl, rfl⟩
end Go.Proofs.YtbdgniiafdjmiaaGreatDoor
/- snap: rows that grow beside what lies below them. -/
namespace Go.Proofs.YtbdgniiafdjmiaaGreatDoor
open Go.RowKit Go.Shelf

/-- A row of one's own from N on, and what hangs of it. -/
structure RowP {α : Type} (CO : (Nat → Prop) → World → α → List Value → Prop) (k N : Nat) (ty : TypeId) (v : Value) (wr : World) (l : List α) (css : List (List Value)) : Prop where
  len : css.length = l.length
  co : ∀ i (h : i < l.length) (h' : i < css.length), CO (fun q => N ≤ q ∧ v.ownBlock ≠ some q) wr l[i] css[i]
  row : wr.ownsRow N ty k v l.length css.flatten
  low : N ≤ wr.heap.size
theorem RowP.start {α : Type} {CO : (Nat → Prop) → World → α → List Value → Prop} {k N : Nat} {ty : TypeId} {wr : World} (hN : N ≤ wr.heap.size) : RowP CO k N ty (.slice none 0 0) wr ([] : List α) [] :=
  ⟨rfl, fun _ h _ => absurd h (by simp), World.ownsRow_nil _ _ _ _, hN⟩
theorem pownk_to {w w' : World} {B e k n : Nat} {v : Value} {xs : List Value} (h : w.ownsRow B e k v n xs) (hb : ∀ q, v.ownBlock = some q → w'.heap[q]? = w.heap[q]?) : w'.ownsRow B e k v n xs := by
  obtain ⟨h1, h2⟩ := h
  refine ⟨h1, ?_⟩
  rcases h2 with h2 | ⟨g, cap, cur, hv, hB, hg, rest⟩
  · exact .inl h2
  · refine .inr ⟨g, cap, cur, hv, hB, ?_, rest⟩
    rw [hb g (by rw [hv]; rfl)]
    exact hg
theorem RowP.keep {α : Type} {CO : (Nat → Prop) → World → α → List Value → Prop} {k N : Nat} (law : CellLaw k CO) {ty : TypeId} {v : Value} {wr w1 : World} {l : List α} {css : List (List Value)} (h : RowP CO k N ty v wr l css) (hs : wr.heap.size ≤ w1.heap.size) (hk : ∀ q, N ≤ q → q < wr.heap.size → w1.heap[q]? = wr.heap[q]?) : RowP CO k N ty v w1 l css :=
  ⟨h.len, fun i h1 h2 => law.keep _ _ _ _ _ (h.co i h1 h2) hs fun q hq hlt => hk q hq.1 hlt, pownk_to h.row fun q hq => hk q (h.row.lt q hq).1 (h.row.lt q hq).2, Nat.le_trans h.low hs⟩
/-- One more. -/
theorem RowP.snoc {α : Type} {CO : (Nat → Prop) → World → α → List Value → Prop} {k N : Nat} (law : CellLaw k CO) {ty : TypeId} {v v' : Value} {wr w1 w2 w3 : World} {l : List α} {css : List (List Value)} (h : RowP CO k N ty v wr l css) {x : α} {cs : List Value} {o : Obj}
    (hs1 : wr.heap.size ≤ w1.heap.size) (hk1 : ∀ q, N ≤ q → q < wr.heap.size → w1.heap[q]? = wr.heap[q]?) (hco : CO (fun b => wr.heap.size ≤ b) w1 x cs) (hw2 : w2 = w1.alloc o) (hrow : w3.ownsRow N ty k v' (l.length + 1) (css.flatten ++ cs)) (hg3 : w2.grownBy w3 v.ownBlock) (hloc : v'.ownBlock = v.ownBlock ∨ v'.ownBlock = some w2.heap.size) :
    RowP CO k N ty v' w3 (l ++ [x]) (css ++ [cs]) := by
  have hs2 : w2.heap.size = w1.heap.size + 1 := by rw [hw2]; simp
  have hs3 := hg3.size
  have hvlt := h.row.lt
  have k13 : ∀ q, q < w1.heap.size → v.ownBlock ≠ some q → w3.heap[q]? = w1.heap[q]? := fun q hq hne => by
    rw [hg3.block q (by omega) (fun e => hne e.symm), hw2, Below.heap_alloc _ _ _ hq]
  have kr3 : ∀ q, N ≤ q → q < wr.heap.size → v.ownBlock ≠ some q → w3.heap[q]? = wr.heap[q]? := fun q hN hq hne =>
    (k13 q (by omega) hne).trans (hk1 q hN hq)
  have hlow := h.low
  refine ⟨by simp [h.len], fun i hi hi' => ?_, ?_, by omega⟩
  · by_cases e : i < l.length
    · rw [List.getElem_append_left e, List.getElem_append_left (by rw [h.len]; exact e)]
      have h1 := h.co i e (by rw [h.len]; exact e)
      have h2 := law.wide _ (fun q => (N ≤ q ∧ v.ownBlock ≠ some q) ∧ q < wr.heap.size) _ _ _ h1 (fun q hq hS => ⟨hS, hq⟩)
      have h3 := law.keep _ _ w3 _ _ h2 (by omega) (fun q hS hq => kr3 q hS.1.1 hq hS.1.2)
      refine law.wide _ _ _ _ _ h3 fun q _ hS => ⟨hS.1.1, ?_⟩
      rcases hloc with e1 | e1
      · rw [e1]; exact hS.1.2
      · rw [e1]
        intro e2
        have e3 : w2.heap.size = q := Option.some.inj e2
        have := hS.2
        omega
    · have hie : i = l.length := by
        rw [List.length_append] at hi
        simp at hi
        omega
      subst hie
      rw [List.getElem_append_right (Nat.le_refl _)]
      have hc' : (css ++ [cs])[l.length]'hi' = cs := by
        rw [List.getElem_append_right (by rw [h.len]; exact Nat.le_refl _)]
        simp [h.len]
      rw [hc']
      simp only [Nat.sub_self, List.getElem_cons_zero]
      have h2 := law.wide _ (fun q => wr.heap.size ≤ q ∧ q < w1.heap.size) _ _ _ hco (fun q hq hS => ⟨hS, hq⟩)
      have h3 := law.keep _ _ w3 _ _ h2 (by omega) (fun q hS hq => k13 q hq (fun e => by have := (hvlt q e).2; have := hS.1; omega))
      refine law.wide _ _ _ _ _ h3 fun q _ hS => ⟨by have := hS.1; omega, ?_⟩
      rcases hloc with e1 | e1
      · rw [e1]; exact fun e2 => by have := (hvlt q e2).2; have := hS.1; omega
      · rw [e1]
        intro e2
        have e3 : w2.heap.size = q := Option.some.inj e2
        have := hS.2
        omega
  · have : (l ++ [x]).length = l.length + 1 := by simp
    rw [this, List.flatten_append]
    simpa using hrow
/-- A row that was read lies in memory. -/
theorem RowP.rowIn {α : Type} {CO : (Nat → Prop) → World → α → List Value → Prop} {k N : Nat} (law : CellLaw k CO) {ty : TypeId} {v : Value} {wr : World} {l : List α} {css : List (List Value)} (h : RowP CO k N ty v wr l css) {E : World → Nat → Nat → α → Prop}
    (hE : ∀ x cs b o, CO (fun b => N ≤ b) wr x cs → (∀ j (hj : j < cs.length), wr.cell? ⟨b, o + j, none⟩ = some cs[j]) → E wr b o x) : rowIn (fun b => N ≤ b) wr v k E l := by
  rcases h.row.2 with ⟨hv, h0⟩ | ⟨g, cp, cur, hv, hg, hh, hnc, hcm, hcs, htake⟩
  · refine ⟨none, 0, by rw [hv, h0], by omega, by decide, .inl (List.length_eq_zero_iff.1 h0)⟩
  · refine ⟨some ⟨g, 0, none⟩, cp, hv, hnc, hcm, .inr ⟨g, 0, rfl, hg, heap_lt hh, fun i hi => ?_⟩⟩
    have hi' : i < css.length := by rw [h.len]; exact hi
    have hco := h.co i hi hi'
    refine hE l[i] css[i] g _ (law.wide _ _ _ _ _ hco fun q _ hS => hS.1) fun j hj => ?_
    have hlens : ∀ cs ∈ css, cs.length = k := fun cs hcs' => by
      obtain ⟨q, hq, rfl⟩ := List.getElem_of_mem hcs'
      exact law.len _ _ _ _ (h.co q (by rw [← h.len]; exact hq) hq)
    have hjk : j < k := by rw [← hlens css[i] (List.getElem_mem hi')]; exact hj
    have hpos : css.flatten[i * k + j]? = some css[i][j] := by
      have hd : css = css.take i ++ css[i] :: css.drop (i + 1) := by rw [List.getElem_cons_drop, List.take_append_drop]
      have hl1 : (css.take i).flatten.length = i * k := by
        rw [flatten_len fun cs hcs' => hlens cs (List.mem_of_mem_take hcs'), List.length_take, Nat.min_eq_left (Nat.le_of_lt hi')]
      conv => lhs; rw [hd]
      rw [List.flatten_append, List.flatten_cons, List.getElem?_append_right (by omega), hl1, Nat.add_sub_cancel_left, List.getElem?_append_left hj, List.getElem?_eq_getElem hj]
    have hcell := h.row.cells (g := g) (by rw [hv]; rfl) (i * k + j) css[i][j] hpos
    rw [show (⟨g, 0 + i * k + j, none⟩ : Addr) = (⟨g, 0, none⟩ : Addr).add (i * k + j) by rw [add_zero']; simp]
    exact hcell
/-- What lies below N is kept by an append to a row from N on. -/
theorem RowP.lowkept {α : Type} {CO : (Nat → Prop) → World → α → List Value → Prop} {k N : Nat} {ty : TypeId} {v : Value} {wr w1 w2 w3 : World} {l : List α} {css : List (List Value)} (h : RowP CO k N ty v wr l css) {o : Obj} (hw2 : w2 = w1.alloc o) (hs1 : wr.heap.size ≤ w1.heap.size) (hg3 : w2.grownBy w3 v.ownBlock) : ∀ q, q < N → w3.heap[q]? = w1.heap[q]? := fun q hq => by
  have hlow := h.low
  have hs2 : w2.heap.size = w1.heap.size + 1 := by rw [hw2]; simp
  rw [hg3.block q (by omega) (fun e => by have := (h.row.lt q e.symm).1; omega), hw2, Below.heap_alloc _ _ _ (by omega)]
theorem PkAt.kept {w w' : World} {p : Nat} {bs : List UInt8} {a r : Nat} (h : PkAt w p bs a r) (hb : w'.heap[p]? = w.heap[p]?) : PkAt w' p bs a r := ⟨hb.trans h.blk, h.le, h.few⟩
/-- So many are read, i of them so far. -/
structure LoopP {α : Type} (one : Nat → Nat → α × Nat × Nat) (n a0 r0 : Nat) (i : Nat) (l : List α) (a r : Nat) : Prop where
  le : i ≤ n
  eq : loopR one n a0 r0 = (l ++ (loopR one (n - i) a r).1, (loopR one (n - i) a r).2)
theorem LoopP.start {α : Type} (one : Nat → Nat → α × Nat × Nat) (n a0 r0 : Nat) : LoopP one n a0 r0 0 [] a0 r0 := ⟨Nat.zero_le _, by simp⟩
theorem LoopP.next {α : Type} {one : Nat → Nat → α × Nat × Nat} {n a0 r0 i : Nat} {l : List α} {a : Nat} (h : LoopP one n a0 r0 i l a 0) (hi : i < n) : LoopP one n a0 r0 (i + 1) (l ++ [(one a 0).1]) (one a 0).2.1 (one a 0).2.2 := by
  refine ⟨hi, ?_⟩
  rw [h.eq, show n - i = (n - (i + 1)) + 1 by omega, loopR_succ]
  simp
theorem LoopP.last {α : Type} {one : Nat → Nat → α × Nat × Nat} {n a0 r0 : Nat} {l : List α} {a r : Nat} (h : LoopP one n a0 r0 n l a r) : loopR one n a0 r0 = (l, a, r) := by
  rw [h.eq, Nat.sub_self, loopR_zero]; simp
theorem LoopP.bad {α : Type} {one : Nat → Nat → α × Nat × Nat} {n a0 r0 i : Nat} {l : List α} {a r : Nat} (h : LoopP one n a0 r0 i l a r) (hr : r ≠ 0) : loopR one n a0 r0 = (l, a, r) := by
  rw [h.eq, loopR_bad _ _ _ _ hr]; simp
theorem LoopP.few {α : Type} {one : Nat → Nat → α × Nat × Nat} {n a0 r0 i : Nat} {l : List α} {a r : Nat} (h : LoopP one n a0 r0 i l a r) : l.length ≤ n := by
  have h1 := loopR_len one n a0 r0
  rw [h.eq, List.length_append] at h1
  omega
end Go.Proofs.YtbdgniiafdjmiaaGreatDoor
/- snap: the document's own reading of a value. -/
namespace Go.Proofs.YtbdgniiafdjmiaaGreatDoor
open Go.RowKit Go.Shelf

/-- What is made lies at U, what is answered in the first block. -/
structure PBx (w W : World) (p : Nat) (bs : List UInt8) (a r U : Nat) (ty : TypeId) (zero cur : Array Value) : Prop where
  rd : PkAt W p bs a r
  X : W.heap[U]? = some (.cells cur ty (0, 0))
  Y : W.heap[w.heap.size]? = some (.cells zero ty (0, 0))
  G : w.grownBy W (some p)
  pR : p ≠ w.heap.size
  pU : p < U
  ult : w.heap.size < U
theorem PBx.call {w W W1 : World} {p : Nat} {bs : List UInt8} {a r a1 r1 U : Nat} {ty : TypeId} {zero cur : Array Value} (h : PBx w W p bs a r U ty zero cur) (hr : PkAt W1 p bs a1 r1) (hg : W.grownBy W1 (some p)) : PBx w W1 p bs a1 r1 U ty zero cur :=
  ⟨hr, (hg.block U (heap_lt h.X) (by have := h.pU; simp; omega)).trans h.X, (hg.block _ (heap_lt h.Y) (by have := h.pR; simp; omega)).trans h.Y, pkg_trans h.G hg, h.pR, h.pU, h.ult⟩
theorem PBx.store {w W : World} {p : Nat} {bs : List UInt8} {a r U : Nat} {ty : TypeId} {zero cur : Array Value} (h : PBx w W p bs a r U ty zero cur) (j : Nat) (v : Value) : PBx w (W.setCell ⟨U, j, none⟩ v) p bs a r U ty zero (cur.setIfInBounds j v) := by
  have hp := h.pU
  have hu := h.ult
  exact ⟨h.rd.kept (heap_setCell_other _ _ _ _ (by simp; omega)), heap_setCell_same _ _ _ _ _ _ h.X, (heap_setCell_other _ _ _ _ (by simp; omega)).trans h.Y, ⟨h.G.os, h.G.tape, h.G.output, by rw [show (W.setCell ⟨U, j, none⟩ v).heap.size = W.heap.size by simp]; exact h.G.size, fun q hq hne => (heap_setCell_other _ _ _ _ (by simp; omega)).trans (h.G.block q hq hne)⟩, h.pR, hp, hu⟩
theorem PBx.storeY {w W : World} {p : Nat} {bs : List UInt8} {a r U : Nat} {ty : TypeId} {zero cur : Array Value} (h : PBx w W p bs a r U ty zero cur) (j : Nat) (v : Value) : PBx w (W.setCell ⟨w.heap.size, j, none⟩ v) p bs a r U ty (zero.setIfInBounds j v) cur := by
  have hp := h.pR
  have hu := h.ult
  exact ⟨h.rd.kept (heap_setCell_other _ _ _ _ (by simp; omega)), (heap_setCell_other _ _ _ _ (by simp; omega)).trans h.X, heap_setCell_same _ _ _ _ _ _ h.Y, ⟨h.G.os, h.G.tape, h.G.output, by rw [show (W.setCell ⟨w.heap.size, j, none⟩ v).heap.size = W.heap.size by simp]; exact h.G.size, fun q hq hne => (heap_setCell_other _ _ _ _ (by simp; omega)).trans (h.G.block q hq hne)⟩, hp, h.pU, hu⟩
theorem PBx.low {w W W1 : World} {p : Nat} {bs : List UInt8} {a r U N : Nat} {ty : TypeId} {zero cur : Array Value} (h : PBx w W p bs a r U ty zero cur) (hN : U < N) (hk : ∀ q, q < N → W1.heap[q]? = W.heap[q]?) (ho : W1.os = W.os) (ht : W1.tape = W.tape) (hp : W1.output = W.output) (hs : W.heap.size ≤ W1.heap.size) : PBx w W1 p bs a r U ty zero cur := by
  have h1 := h.pU
  have h2 := h.ult
  exact ⟨h.rd.kept (hk p (by omega)), (hk U hN).trans h.X, (hk _ (by omega)).trans h.Y, ⟨ho.trans h.G.os, ht.trans h.G.tape, hp.trans h.G.output, Nat.le_trans h.G.size hs, fun q hq hne => (hk q (by omega)).trans (h.G.block q hq hne)⟩, h.pR, h1, h2⟩
theorem PBx.below {w W W1 : World} {p : Nat} {bs : List UInt8} {a r U : Nat} {ty : TypeId} {zero cur : Array Value} (h : PBx w W p bs a r U ty zero cur) (hb : Below W.heap.size W W1) : PBx w W1 p bs a r U ty zero cur :=
  h.low (heap_lt h.X) (fun q hq => hb.block q hq) hb.os hb.tape hb.output hb.size

set_option maxRecDepth 100000 in
set_option maxHeartbeats 8000000 in
theorem pkVal (p : Nat) (bs : List UInt8) (a0 r0 : Nat) (w : World) (h : PkAt w p bs a0 r0) :
    Calls Tryz.prog 68 #[.pointer (some ⟨p, 0, none⟩)] w fun e w' => e = .returned (vlV (rVl bs a0 r0).1) ∧ PkAt w' p bs (rVl bs a0 r0).2.1 (rVl bs a0 r0).2.2 ∧ w.grownBy w' (some p) := by
  have hpl : p < w.heap.size := heap_lt h.blk
  have HPL : Hid (p < w.heap.size) := hpl
  obtain ⟨wR, hwR, hbR, HZR, hRb⟩ := box1 w (.cells #[.int .i64 0, .int .i64 0, .string ⟨#[]⟩] 54)
  have HWR : Hid (wR = w.alloc (.cells #[.int .i64 0, .int .i64 0, .string ⟨#[]⟩] 54)) := hwR
  have HRB : Hid (wR.heap[w.heap.size]? = some (.cells #[.int .i64 0, .int .i64 0, .string ⟨#[]⟩] 54 (0, 0))) := hRb
  have hTR : PkAt wR p bs a0 r0 := h.kept (hbR.block p hpl)
  have HGR : Hid (w.grownBy wR (some p)) := pkg_below p hbR
  have c := pkNum p bs a0 r0 wR hTR
  obtain ⟨k, a1, r1, hx0⟩ : ∃ x ya yr, rI bs a0 r0 = (x, ya, yr) := ⟨_, _, _, rfl⟩
  have HX0 : Hid (rI bs a0 r0 = (k, a1, r1)) := hx0
  rw [hx0] at c
  simp only at c
  clear h hpl hwR hbR HZR hRb hTR hx0
  go_enter Tryz.func68, Tryz.ntmps68
  go_wp2_with fail
  rw [← HWR.out]
  refine c.mono ?_
  clear c
  rintro e V0 ⟨rfl, hT0, hG0⟩
  obtain ⟨W1, hW1, hb1, HZ1, hU1⟩ := box1 V0 (.cells #[.int .i64 k, .int .i64 0, .string ⟨#[]⟩] 54)
  have HW1 : Hid (W1 = V0.alloc (.cells #[.int .i64 k, .int .i64 0, .string ⟨#[]⟩] 54)) := hW1
  have HRV : Hid (w.heap.size < V0.heap.size) := Nat.lt_of_lt_of_le (heap_lt HRB.out) hG0.size
  have B1 : Hid (PBx w W1 p bs a1 r1 V0.heap.size 54 #[.int .i64 0, .int .i64 0, .string ⟨#[]⟩] #[.int .i64 k, .int .i64 0, .string ⟨#[]⟩]) := by
    have hp := HPL.out
    refine ⟨hT0.kept (hb1.block p (heap_lt hT0.blk)), hU1, ?_, pkg_trans HGR.out (pkg_trans hG0 (pkg_below p hb1)), by omega, heap_lt hT0.blk, HRV.out⟩
    rw [hb1.block _ HRV.out, hG0.block _ (heap_lt HRB.out) (by simp; omega)]
    exact HRB.out
  clear hT0 hG0 hW1 hb1 HZ1 hU1
  by_cases h1 : k = 1
  · subst h1
    have c := pkNum p bs a1 r1 W1 B1.out.rd
    obtain ⟨x1, a2, r2, hx1⟩ : ∃ x ya yr, rI bs a1 r1 = (x, ya, yr) := ⟨_, _, _, rfl⟩
    rw [hx1] at c
    simp only at c
    have HRES : Hid (rVl bs a0 r0 = ((⟨1, x1, []⟩ : Vl), a2, r2)) := by
      show _ = _
      simp [rVl, HX0.out, hx1]
    obtain ⟨m0, m1, m2⟩ := cells3p B1.out.X
    have hul : V0.heap.size < W1.heap.size := heap_lt B1.out.X
    clear hx1
    go_upto_region 3 with fail
    rw [← HW1.out]
    go_wp2_with fail
    refine c.mono ?_
    clear c m0 m1 m2 hul
    rintro e V1 ⟨rfl, hr1, hg1⟩
    have A1 := B1.out.call hr1 hg1
    obtain ⟨W2, hW2⟩ : ∃ W, W = V1.setCell ⟨V0.heap.size, 1, none⟩ (.int .i64 x1) := ⟨_, rfl⟩
    have HW2 : Hid (W2 = V1.setCell ⟨V0.heap.size, 1, none⟩ (.int .i64 x1)) := hW2
    have B2 : Hid (PBx w W2 p bs a2 r2 V0.heap.size 54 #[.int .i64 0, .int .i64 0, .string ⟨#[]⟩] #[.int .i64 1, .int .i64 x1, .string ⟨#[]⟩]) := by rw [hW2]; exact A1.store 1 _
    obtain ⟨m0, m1, m2⟩ := cells3p A1.X
    have fz := cfrozen A1.X
    have hul : V0.heap.size < V1.heap.size := heap_lt A1.X
    clear hr1 hg1 hW2 A1
    go_upto_region 9 with fail
    rw [← HW2.out]
    clear m0 m1 m2 fz hul
    have HE : Hid (PBx w (((W2.setCell ⟨w.heap.size, 0, none⟩ (.int .i64 1)).setCell ⟨w.heap.size, 1, none⟩ (.int .i64 x1)).setCell ⟨w.heap.size, 2, none⟩ (.string ⟨#[]⟩)) p bs a2 r2 V0.heap.size 54 #[.int .i64 1, .int .i64 x1, .string ⟨#[]⟩] #[.int .i64 1, .int .i64 x1, .string ⟨#[]⟩]) := ((B2.out.storeY 0 _).storeY 1 _).storeY 2 _
    obtain ⟨m0, m1, m2⟩ := cells3p B2.out.X
    obtain ⟨y0, y1, y2⟩ := cells3p B2.out.Y
    have yf := cfrozen B2.out.Y
    obtain ⟨z0, z1, z2⟩ := cells3p HE.out.Y
    have hul : V0.heap.size < W2.heap.size := heap_lt B2.out.X
    have hrl : w.heap.size < W2.heap.size := heap_lt B2.out.Y
    have hne9 : V0.heap.size ≠ w.heap.size := by have := B2.out.ult; omega
    go_wp2
    refine bodyPost_ret (v := .agg #[.int .i64 1, .int .i64 x1, .string ⟨#[]⟩]) (by simp [results, Tryz.results68, go_sem, z0, z1, z2]) rfl ?_
    exact ⟨by rw [HRES.out], by rw [HRES.out]; exact HE.out.rd, HE.out.G⟩
  by_cases h2 : k = 2
  · subst h2
    clear h1
    have c := pkNum p bs a1 r1 W1 B1.out.rd
    obtain ⟨x1, a2, r2, hx1⟩ : ∃ x ya yr, rI bs a1 r1 = (x, ya, yr) := ⟨_, _, _, rfl⟩
    rw [hx1] at c
    simp only at c
    have HRES : Hid (rVl bs a0 r0 = ((⟨2, x1, []⟩ : Vl), a2, r2)) := by
      show _ = _
      simp [rVl, HX0.out, hx1]
    obtain ⟨m0, m1, m2⟩ := cells3p B1.out.X
    have hul : V0.heap.size < W1.heap.size := heap_lt B1.out.X
    clear hx1
    go_upto_region 3 with fail
    rw [← HW1.out]
    go_wp2_with fail
    refine c.mono ?_
    clear c m0 m1 m2 hul
    rintro e V1 ⟨rfl, hr1, hg1⟩
    have A1 := B1.out.call hr1 hg1
    obtain ⟨W2, hW2⟩ : ∃ W, W = V1.setCell ⟨V0.heap.size, 1, none⟩ (.int .i64 x1) := ⟨_, rfl⟩
    have HW2 : Hid (W2 = V1.setCell ⟨V0.heap.size, 1, none⟩ (.int .i64 x1)) := hW2
    have B2 : Hid (PBx w W2 p bs a2 r2 V0.heap.size 54 #[.int .i64 0, .int .i64 0, .string ⟨#[]⟩] #[.int .i64 2, .int .i64 x1, .string ⟨#[]⟩]) := by rw [hW2]; exact A1.store 1 _
    obtain ⟨m0, m1, m2⟩ := cells3p A1.X
    have fz := cfrozen A1.X
    have hul : V0.heap.size < V1.heap.size := heap_lt A1.X
    clear hr1 hg1 hW2 A1
    go_upto_region 9 with fail
    rw [← HW2.out]
    clear m0 m1 m2 fz hul
    have HE : Hid (PBx w (((W2.setCell ⟨w.heap.size, 0, none⟩ (.int .i64 2)).setCell ⟨w.heap.size, 1, none⟩ (.int .i64 x1)).setCell ⟨w.heap.size, 2, none⟩ (.string ⟨#[]⟩)) p bs a2 r2 V0.heap.size 54 #[.int .i64 2, .int .i64 x1, .string ⟨#[]⟩] #[.int .i64 2, .int .i64 x1, .string ⟨#[]⟩]) := ((B2.out.storeY 0 _).storeY 1 _).storeY 2 _
    obtain ⟨m0, m1, m2⟩ := cells3p B2.out.X
    obtain ⟨y0, y1, y2⟩ := cells3p B2.out.Y
    have yf := cfrozen B2.out.Y
    obtain ⟨z0, z1, z2⟩ := cells3p HE.out.Y
    have hul : V0.heap.size < W2.heap.size := heap_lt B2.out.X
    have hrl : w.heap.size < W2.heap.size := heap_lt B2.out.Y
    have hne9 : V0.heap.size ≠ w.heap.size := by have := B2.out.ult; omega
    go_wp2
    refine bodyPost_ret (v := .agg #[.int .i64 2, .int .i64 x1, .string ⟨#[]⟩]) (by simp [results, Tryz.results68, go_sem, z0, z1, z2]) rfl ?_
    exact ⟨by rw [HRES.out], by rw [HRES.out]; exact HE.out.rd, HE.out.G⟩
  by_cases h4 : k = 4
  · subst h4
    clear h1 h2
    have c := pkNum p bs a1 r1 W1 B1.out.rd
    obtain ⟨x1, a2, r2, hx1⟩ : ∃ x ya yr, rI bs a1 r1 = (x, ya, yr) := ⟨_, _, _, rfl⟩
    rw [hx1] at c
    simp only at c
    have HRES : Hid (rVl bs a0 r0 = ((⟨4, x1, []⟩ : Vl), a2, r2)) := by
      show _ = _
      simp [rVl, HX0.out, hx1]
    obtain ⟨m0, m1, m2⟩ := cells3p B1.out.X
    have hul : V0.heap.size < W1.heap.size := heap_lt B1.out.X
    clear hx1
    go_upto_region 3 with fail
    rw [← HW1.out]
    go_wp2_with fail
    refine c.mono ?_
    clear c m0 m1 m2 hul
    rintro e V1 ⟨rfl, hr1, hg1⟩
    have A1 := B1.out.call hr1 hg1
    obtain ⟨W2, hW2⟩ : ∃ W, W = V1.setCell ⟨V0.heap.size, 1, none⟩ (.int .i64 x1) := ⟨_, rfl⟩
    have HW2 : Hid (W2 = V1.setCell ⟨V0.heap.size, 1, none⟩ (.int .i64 x1)) := hW2
    have B2 : Hid (PBx w W2 p bs a2 r2 V0.heap.size 54 #[.int .i64 0, .int .i64 0, .string ⟨#[]⟩] #[.int .i64 4, .int .i64 x1, .string ⟨#[]⟩]) := by rw [hW2]; exact A1.store 1 _
    obtain ⟨m0, m1, m2⟩ := cells3p A1.X
    have fz := cfrozen A1.X
    have hul : V0.heap.size < V1.heap.size := heap_lt A1.X
    clear hr1 hg1 hW2 A1
    go_upto_region 9 with fail
    rw [← HW2.out]
    clear m0 m1 m2 fz hul
    have HE : Hid (PBx w (((W2.setCell ⟨w.heap.size, 0, none⟩ (.int .i64 4)).setCell ⟨w.heap.size, 1, none⟩ (.int .i64 x1)).setCell ⟨w.heap.size, 2, none⟩ (.string ⟨#[]⟩)) p bs a2 r2 V0.heap.size 54 #[.int .i64 4, .int .i64 x1, .string ⟨#[]⟩] #[.int .i64 4, .int .i64 x1, .string ⟨#[]⟩]) := ((B2.out.storeY 0 _).storeY 1 _).storeY 2 _
    obtain ⟨m0, m1, m2⟩ := cells3p B2.out.X
    obtain ⟨y0, y1, y2⟩ := cells3p B2.out.Y
    have yf := cfrozen B2.out.Y
    obtain ⟨z0, z1, z2⟩ := cells3p HE.out.Y
    have hul : V0.heap.size < W2.heap.size := heap_lt B2.out.X
    have hrl : w.heap.size < W2.heap.size := heap_lt B2.out.Y
    have hne9 : V0.heap.size ≠ w.heap.size := by have := B2.out.ult; omega
    go_wp2
    refine bodyPost_ret (v := .agg #[.int .i64 4, .int .i64 x1, .string ⟨#[]⟩]) (by simp [results, Tryz.results68, go_sem, z0, z1, z2]) rfl ?_
    exact ⟨by rw [HRES.out], by rw [HRES.out]; exact HE.out.rd, HE.out.G⟩
  by_cases h3 : k = 3
  · subst h3
    clear h1 h2 h4
    have c := pkText 255 p bs a1 r1 W1 B1.out.rd
    obtain ⟨x1, a2, r2, hx1⟩ : ∃ x ya yr, rTx 255 bs a1 r1 = (x, ya, yr) := ⟨_, _, _, rfl⟩
    rw [hx1] at c
    simp only at c
    have HRES : Hid (rVl bs a0 r0 = ((⟨3, 0, x1⟩ : Vl), a2, r2)) := by
      show _ = _
      simp [rVl, HX0.out, hx1]
    obtain ⟨m0, m1, m2⟩ := cells3p B1.out.X
    have hul : V0.heap.size < W1.heap.size := heap_lt B1.out.X
    clear hx1
    go_upto_region 3 with fail
    rw [← HW1.out]
    go_wp2_with fail
    refine c.mono ?_
    clear c m0 m1 m2 hul
    rintro e V1 ⟨rfl, hr1, hg1⟩
    have A1 := B1.out.call hr1 hg1
    obtain ⟨W2, hW2⟩ : ∃ W, W = V1.setCell ⟨V0.heap.size, 2, none⟩ (.string (strB x1)) := ⟨_, rfl⟩
    have HW2 : Hid (W2 = V1.setCell ⟨V0.heap.size, 2, none⟩ (.string (strB x1))) := hW2
    have B2 : Hid (PBx w W2 p bs a2 r2 V0.heap.size 54 #[.int .i64 0, .int .i64 0, .string ⟨#[]⟩] #[.int .i64 3, .int .i64 0, .string (strB x1)]) := by rw [hW2]; exact A1.store 2 _
    obtain ⟨m0, m1, m2⟩ := cells3p A1.X
    have fz := cfrozen A1.X
    have hul : V0.heap.size < V1.heap.size := heap_lt A1.X
    clear hr1 hg1 hW2 A1
    go_upto_region 9 with fail
    rw [← HW2.out]
    clear m0 m1 m2 fz hul
    have HE : Hid (PBx w (((W2.setCell ⟨w.heap.size, 0, none⟩ (.int .i64 3)).setCell ⟨w.heap.size, 1, none⟩ (.int .i64 0)).setCell ⟨w.heap.size, 2, none⟩ (.string (strB x1))) p bs a2 r2 V0.heap.size 54 #[.int .i64 3, .int .i64 0, .string (strB x1)] #[.int .i64 3, .int .i64 0, .string (strB x1)]) := ((B2.out.storeY 0 _).storeY 1 _).storeY 2 _
    obtain ⟨m0, m1, m2⟩ := cells3p B2.out.X
    obtain ⟨y0, y1, y2⟩ := cells3p B2.out.Y
    have yf := cfrozen B2.out.Y
    obtain ⟨z0, z1, z2⟩ := cells3p HE.out.Y
    have hul : V0.heap.size < W2.heap.size := heap_lt B2.out.X
    have hrl : w.heap.size < W2.heap.size := heap_lt B2.out.Y
    have hne9 : V0.heap.size ≠ w.heap.size := by have := B2.out.ult; omega
    go_wp2
    refine bodyPost_ret (v := .agg #[.int .i64 3, .int .i64 0, .string (strB x1)]) (by simp [results, Tryz.results68, go_sem, z0, z1, z2]) rfl ?_
    exact ⟨by rw [HRES.out], by rw [HRES.out]; exact HE.out.rd, HE.out.G⟩
  have HRES : Hid (rVl bs a0 r0 = ((⟨k, 0, []⟩ : Vl), a1, r1)) := by
    show _ = _
    simp [rVl, HX0.out, h1, h2, h3, h4]
  have e1 : (k == 1) = false := by rw [beq_eq_false_iff_ne]; exact h1
  have e2 : (k == 2) = false := by rw [beq_eq_false_iff_ne]; exact h2
  have e3 : (k == 3) = false := by rw [beq_eq_false_iff_ne]; exact h3
  have e4 : (k == 4) = false := by rw [beq_eq_false_iff_ne]; exact h4
  obtain ⟨m0, m1, m2⟩ := cells3p B1.out.X
  have hul : V0.heap.size < W1.heap.size := heap_lt B1.out.X
  go_upto_region 3 with fail
  rw [← HW1.out]
  go_upto_region 9 with fail
  clear m0 m1 m2 hul
  have HE : Hid (PBx w (((W1.setCell ⟨w.heap.size, 0, none⟩ (.int .i64 k)).setCell ⟨w.heap.size, 1, none⟩ (.int .i64 0)).setCell ⟨w.heap.size, 2, none⟩ (.string ⟨#[]⟩)) p bs a1 r1 V0.heap.size 54 #[.int .i64 k, .int .i64 0, .string ⟨#[]⟩] #[.int .i64 k, .int .i64 0, .string ⟨#[]⟩]) := ((B1.out.storeY 0 _).storeY 1 _).storeY 2 _
  obtain ⟨m0, m1, m2⟩ := cells3p B1.out.X
  obtain ⟨y0, y1, y2⟩ := cells3p B1.out.Y
  have yf := cfrozen B1.out.Y
  obtain ⟨z0, z1, z2⟩ := cells3p HE.out.Y
  have hul : V0.heap.size < W1.heap.size := heap_lt B1.out.X
  have hrl : w.heap.size < W1.heap.size := heap_lt B1.out.Y
  have hne9 : V0.heap.size ≠ w.heap.size := by have := B1.out.ult; omega
  go_wp2
  refine bodyPost_ret (v := .agg #[.int .i64 k, .int .i64 0, .string ⟨#[]⟩]) (by simp [results, Tryz.results68, go_sem, z0, z1, z2]) rfl ?_
  exact ⟨by rw [HRES.out], by rw [HRES.out]; exact HE.out.rd, HE.out.G⟩
end Go.Proofs.YtbdgniiafdjmiaaGreatDoor
/- snap: the document's own reading of values. -/
namespace Go.Proofs.YtbdgniiafdjmiaaGreatDoor
open Go.RowKit Go.Shelf

/-- A row that is nil, or has a block. -/
def Fm (u : Value) : Prop := u = .slice none 0 0 ∨ ∃ ad n c, u = .slice (some ad) n c
/-- What reading values answers. -/
def VsRet (p : Nat) (bs : List UInt8) (a r : Nat) (w : World) (e : Ending) (w' : World) : Prop :=
  ∃ b n c, e = .returned (.slice b n c) ∧ Fm (.slice b n c) ∧ valsR (fun q => w.heap.size ≤ q) w' (.slice b n c) (rAll bs (rVl bs) a r).1 ∧ PkAt w' p bs (rAll bs (rVl bs) a r).2.1 (rAll bs (rVl bs) a r).2.2 ∧ w.grownBy w' (some p)

set_option maxRecDepth 100000 in
set_option maxHeartbeats 4000000 in
theorem pkAll (p : Nat) (bs : List UInt8) (a r : Nat) (w : World) (h : PkAt w p bs a r) :
    Calls Tryz.prog 36 #[.pointer (some ⟨p, 0, none⟩)] w fun e w' => VsRet p bs a r w e w' := by
  have c1 := pkCount p bs a r w h
  have hcb := rC_bound bs a r
  obtain ⟨n0, a1, r1, hc⟩ : ∃ x ya yr, rC bs a r = (x, ya, yr) := ⟨_, _, _, rfl⟩
  have HALL : Hid (rAll bs (rVl bs) a r = loopR (rVl bs) n0.toNat a1 r1) := by show _ = _; unfold rAll; rw [hc]
  rw [hc] at c1 hcb
  simp only at c1 hcb
  obtain ⟨n, rfl⟩ : ∃ n : Nat, n0 = n := ⟨n0.toNat, by omega⟩
  rw [Int.toNat_natCast] at HALL
  have hpl : p < w.heap.size := heap_lt h.blk
  have HRET : Hid (∀ l a' r' v css W, loopR (rVl bs) n a1 r1 = (l, a', r') → PkAt W p bs a' r' → w.grownBy W (some p) → RowP coVal 3 w.heap.size 54 v W l css → VsRet p bs a r w (.returned v) W) := fun l a' r' v css W hl hT hG hX => by
    have hrow := hX.rowIn lawVal (E := valE) fun x cs b o hco hcs => by
      have e : cs = [.int .i64 x.k, .int .i64 x.n, .string (strB x.s)] := hco
      subst e
      exact ⟨hcs 0 (by simp), hcs 1 (by simp), hcs 2 (by simp)⟩
    have hfm : Fm v := by
      rcases hX.row.2 with ⟨e, -⟩ | ⟨g, cp, cur, e, -⟩
      · exact .inl e
      · exact .inr ⟨_, _, _, e⟩
    obtain ⟨b, c, rfl, -⟩ := hrow.at
    refine ⟨b, _, c, rfl, hfm, ?_, ?_, hG⟩
    · rw [HALL.out, hl]; exact hrow
    · rw [HALL.out, hl]; exact hT
  obtain ⟨i0, hinf, hz0, hz1, hz2⟩ := info_parts pinfo_val
  have hnI : (n : Int) ≤ 1048576 := hcb.2
  have HN : Hid (n ≤ 1048576) := by show _ ≤ _; omega
  have HPL : Hid (p < w.heap.size) := hpl
  clear h hc hcb hpl
  go_enter Tryz.func36, Tryz.ntmps36
  go_wp2_with fail
  refine c1.mono ?_
  clear c1
  rintro e w1 ⟨rfl, hT1, hG1⟩
  have HT1 : Hid (PkAt w1 p bs a1 r1) := hT1
  have HG1 : Hid (w.grownBy w1 (some p)) := hG1
  clear hT1 hG1
  go_wp2
  go_loopw [3, 5] (fun v vi wr => ∃ (i : Nat) (l : List Vl) (css : List (List Value)) (a' r' : Nat), vi = .int .i64 (i : Int) ∧ LoopP (rVl bs) n a1 r1 i l a' r' ∧ PkAt wr p bs a' r' ∧ w.grownBy wr (some p) ∧ RowP coVal 3 w.heap.size 54 v wr l css) (fun _ vi _ => n - (intOf vi).toNat)
  case atStart => exact ⟨0, [], [], a1, r1, rfl, LoopP.start _ _ _ _, HT1.out, HG1.out, RowP.start HG1.out.size⟩
  case round =>
    obtain ⟨i, l, css, a', r', rfl, hL, hT, hG, hX⟩ := hrel
    have HL : Hid (LoopP (rVl bs) n a1 r1 i l a' r') := hL
    have HT : Hid (PkAt wr p bs a' r') := hT
    have HG : Hid (w.grownBy wr (some p)) := hG
    have HX : Hid (RowP coVal 3 w.heap.size 54 u3 wr l css) := hX
    obtain ⟨n3, b3, c3, rfl⟩ : ∃ n b c, u3 = .slice b n c := by
      rcases hX.row.2 with ⟨e, -⟩ | ⟨g, cp, cur, e, -⟩
      · exact ⟨_, _, _, e⟩
      · exact ⟨_, _, _, e⟩
    have hle := hL.le
    have hfew := hL.few
    by_cases hi : i < n
    · have hi2 : (i : Int) < n := by omega
      have cw := pkWell p bs a' r' wr hT
      by_cases hr : r' = 0
      · subst hr
        rw [decide_eq_true rfl] at cw
        have ct := pkVal p bs a' 0 wr hT
        have HNX := hL.next hi
        obtain ⟨⟨xk, xn, xs⟩, a2, r2, hx⟩ : ∃ x ya yr, rVl bs a' 0 = (x, ya, yr) := ⟨_, _, _, rfl⟩
        rw [hx] at ct HNX
        simp only at ct HNX
        have HNXT : Hid (LoopP (rVl bs) n a1 r1 (i + 1) (l ++ [⟨xk, xn, xs⟩]) a2 r2) := HNX
        have HFW : Hid (l.length ≤ 1048576) := by have := HN.out; show _ ≤ _; omega
        clear hL hT hG hX hx HNX hfew hle
        go_wp2_with fail
        refine cw.mono ?_
        clear cw
        rintro e w2 ⟨rfl, rfl⟩
        go_wp2_with fail
        refine ct.mono ?_
        clear ct
        rintro e w3 ⟨rfl, hT3, hG3⟩
        have HT3 : Hid (PkAt w3 p bs a2 r2) := hT3
        have HG3 : Hid (wr.grownBy w3 (some p)) := hG3
        have HX3 : Hid (RowP coVal 3 w.heap.size 54 (.slice b3 n3 c3) w3 l css) := HX.out.keep lawVal hG3.size fun q hq hlt => hG3.block q hlt (by have := HPL.out; simp; omega)
        clear hT3 hG3
        go_wp2_with (first
          | (at_builtin; refine wpList_append_own_at _ rfl _ _ 47 rfl w.heap.size 54 i0 (.agg #[.int .i64 0, .int .i64 0, .string ⟨#[]⟩]) 3 32 Tryz.underlying47 hinf hz0 hz1 hz2 rfl (by decide) _ _ _ rfl (HX3.out.row.alloc _) ⟨w3.heap.size, 0, none⟩ 1 1 [.int .i64 xk, .int .i64 xn, .string (strB xs)] rfl rfl (rcells_new _ _ _) (by simp [Value.oneCell']) (by have := HFW.out; unfold maxLen; omega) (by have := HFW.out; omega) (by have := HX3.out.low; simp; omega) ?_; intro v' w9 hown9 hgrow9 hnil9 hloc9; have hlk := HX3.out.lowkept (w1 := w3) rfl (Nat.le_refl _) hgrow9; have HX9 : Hid (RowP coVal 3 w.heap.size 54 v' w9 (l ++ [⟨xk, xn, xs⟩]) (css ++ [[.int .i64 xk, .int .i64 xn, .string (strB xs)]])) := HX3.out.snoc lawVal (w1 := w3) (Nat.le_refl _) (fun q _ _ => rfl) rfl rfl hown9 hgrow9 hloc9; have HT9 : Hid (PkAt w9 p bs a2 r2) := HT3.out.kept (hlk p HPL.out); have HG9 : Hid (w.grownBy w9 (some p)) := ⟨hgrow9.os.trans (HG3.out.os.trans HG.out.os), hgrow9.tape.trans (HG3.out.tape.trans HG.out.tape), hgrow9.output.trans (HG3.out.output.trans HG.out.output), HX9.out.low, fun q hq hne => (hlk q hq).trans ((HG3.out.block q (Nat.lt_of_lt_of_le hq HG.out.size) hne).trans (HG.out.block q hq hne))⟩; clear hown9 hgrow9 hnil9 hloc9 hlk)
          | go_in)
        exact ⟨⟨i + 1, _, _, a2, r2, by go_num, HNXT.out, HT9.out, HG9.out, HX9.out⟩, by simp [intOf]; omega⟩
      · rw [decide_eq_false hr] at cw
        have HRT : Hid (VsRet p bs a r w (.returned (.slice b3 n3 c3)) wr) := HRET.out l a' r' _ css wr (hL.bad hr) hT hG hX
        clear hL hT hG hX hr hfew hle
        go_wp2_with fail
        refine cw.mono ?_
        clear cw
        rintro e w2 ⟨rfl, rfl⟩
        go_wp2
        go_ret
        exact HRT.out
    · obtain rfl : i = n := by omega
      have hi2 : ¬ (i : Int) < i := by omega
      have HRT : Hid (VsRet p bs a r w (.returned (.slice b3 n3 c3)) wr) := HRET.out l a' r' _ css wr hL.last hT hG hX
      clear hL hT hG hX hfew hle
      go_wp2
      go_ret
      exact HRT.out
end Go.Proofs.YtbdgniiafdjmiaaGreatDoor
