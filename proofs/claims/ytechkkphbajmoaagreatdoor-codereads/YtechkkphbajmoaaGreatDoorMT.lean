import Derived.Test.YtechkkphbajmoaaGreatDoorCLoad
import Derived.Test.YtechkkphbajmoaaGreatDoorMW
import Derived.Test.YtechkkphbajmoaaGreatDoorWMix
import Derived.Test.YtechkkphbajmoaaGreatDoorCList
/- code: the document's reader that goes on: a number, a count, a text, a truth. -/
namespace Go.Proofs.YtechkkphbajmoaaGreatDoor
open Go.RowKit Go.Shelf

/-- The reader at block p stands at a, with the error r. -/
structure TkAt (w : World) (p : Nat) (bs : List UInt8) (a r : Nat) : Prop where
  blk : w.heap[p]? = some (.cells #[.string (strB bs), .int .i64 (a : Int), .int .i64 (r : Int)] 101 (0, 0))
  le : a ≤ bs.length
  few : bs.length ≤ 1048576
theorem tcells3 {w : World} {N : Nat} {x0 x1 x2 : Value} {ty : TypeId} (h : w.heap[N]? = some (.cells #[x0, x1, x2] ty (0, 0))) : w.cell? ⟨N, 0, none⟩ = some x0 ∧ w.cell? ⟨N, 1, none⟩ = some x1 ∧ w.cell? ⟨N, 2, none⟩ = some x2 := by
  refine ⟨?_, ?_, ?_⟩ <;> (simp only [World.cell?, h]; rfl)
theorem stepR_at {α : Type} (z : α) (a r : Nat) (g : α × Nat × Nat) {n : Nat} (ha : a ≤ n) (hg : g.2.1 ≤ n - a) : (stepR z a r g).2.1 ≤ n := by
  unfold stepR
  split
  · exact ha
  · split
    · exact ha
    · simp only; omega
theorem tkg_set {w w1 : World} {p j : Nat} {v : Value} (h : w.grownBy w1 (some p)) : w.grownBy (w1.setCell ⟨p, j, none⟩ v) (some p) :=
  ⟨h.os, h.tape, h.output, by rw [show (w1.setCell ⟨p, j, none⟩ v).heap.size = w1.heap.size by simp]; exact h.size, fun k hk hne => by rw [heap_setCell_other _ _ _ _ (fun e => hne (by simpa using e))]; exact h.block k hk hne⟩
theorem tkg_alloc {w w1 : World} {p : Nat} {o : Obj} (h : w.grownBy w1 (some p)) : w.grownBy (w1.alloc o) (some p) :=
  ⟨h.os, h.tape, h.output, by have := h.size; simp; omega, fun k hk hne => by rw [Below.heap_alloc _ _ _ (by have := h.size; omega)]; exact h.block k hk hne⟩
theorem tkg_below {w w1 : World} (p : Nat) (h : Below w.heap.size w w1) : w.grownBy w1 (some p) := ⟨h.os, h.tape, h.output, h.size, fun k hk _ => h.block k hk⟩
theorem tkg_trans {w w1 w2 : World} {p : Nat} (h : w.grownBy w1 (some p)) (g : w1.grownBy w2 (some p)) : w.grownBy w2 (some p) :=
  ⟨g.os.trans h.os, g.tape.trans h.tape, g.output.trans h.output, Nat.le_trans h.size g.size, fun k hk hne => (g.block k (Nat.lt_of_lt_of_le hk h.size) hne).trans (h.block k hk hne)⟩
/-- What a reading leaves. -/
theorem tk_left {w w1 : World} {p : Nat} {bs : List UInt8} {a r a1 r1 : Nat} {o : Obj} (h : TkAt w p bs a r) (hb : Below w.heap.size w w1) (hle : a1 ≤ bs.length) :
    TkAt ((((w1.setCell ⟨p, 0, none⟩ (.string (strB bs))).setCell ⟨p, 1, none⟩ (.int .i64 (a1 : Int))).setCell ⟨p, 2, none⟩ (.int .i64 (r1 : Int))).alloc o) p bs a1 r1 ∧ w.grownBy ((((w1.setCell ⟨p, 0, none⟩ (.string (strB bs))).setCell ⟨p, 1, none⟩ (.int .i64 (a1 : Int))).setCell ⟨p, 2, none⟩ (.int .i64 (r1 : Int))).alloc o) (some p) := by
  have h1 := (hb.block p (heap_lt h.blk)).trans h.blk
  have h2 := heap_setCell_same w1 p 0 _ _ (.string (strB bs)) h1
  have h3 := heap_setCell_same _ p 1 _ _ (.int .i64 (a1 : Int)) h2
  have h4 := heap_setCell_same _ p 2 _ _ (.int .i64 (r1 : Int)) h3
  refine ⟨⟨?_, hle, h.few⟩, tkg_alloc (tkg_set (tkg_set (tkg_set (tkg_below p hb))))⟩
  rw [Below.heap_alloc _ _ _ (heap_lt h4), h4]
  rfl

set_option maxRecDepth 100000 in
set_option maxHeartbeats 4000000 in
theorem tkNum (p : Nat) (bs : List UInt8) (a r : Nat) (w : World) (h : TkAt w p bs a r) :
    Calls Tryz.prog 58 #[.pointer (some ⟨p, 0, none⟩)] w fun e w' => e = .returned (.int .i64 (rI bs a r).1) ∧ TkAt w' p bs (rI bs a r).2.1 (rI bs a r).2.2 ∧ w.grownBy w' (some p) := by
  have c : Calls Tryz.prog 100 #[.agg #[.string (strB bs), .int .i64 a, .int .i64 r]] w fun e w' => e = .returned (.tuple #[.agg #[.string (strB bs), .int .i64 ((rI bs a r).2.1 : Nat), .int .i64 ((rI bs a r).2.2 : Nat)], .int .i64 (rI bs a r).1]) ∧ Below w.heap.size w w' := refRInt_any (strB bs) a r w (by have := h.few; rw [strB_size]; omega) (by rw [strB_size]; exact h.le)
  have hle : (rI bs a r).2.1 ≤ bs.length := stepR_at _ _ _ _ h.le (by have := getI_len (bs.drop a); rw [List.length_drop] at this; exact this)
  obtain ⟨x, a1, r1, hx⟩ : ∃ x a1 r1, rI bs a r = (x, a1, r1) := ⟨_, _, _, rfl⟩
  rw [hx] at c hle ⊢
  simp only at c hle ⊢
  obtain ⟨c0, c1, c2⟩ := tcells3 h.blk
  have HH : Hid (TkAt w p bs a r) := h
  have HLE : Hid (a1 ≤ bs.length) := hle
  clear h hx hle
  go_enter Tryz.func58, Tryz.ntmps58
  go_wp2_with fail
  refine c.mono ?_
  clear c c0 c1 c2
  rintro e w1 ⟨rfl, hb1⟩
  have hblk : w1.heap[p]? = some (.cells #[.string (strB bs), .int .i64 (a : Int), .int .i64 (r : Int)] 101 (0, 0)) := (hb1.block p (heap_lt HH.out.blk)).trans HH.out.blk
  obtain ⟨c0, c1, c2⟩ := tcells3 hblk
  have q0 := cfrozen hblk 0
  have q1 := cfrozen hblk 1
  have q2 := cfrozen hblk 2
  have hpl : p < w1.heap.size := heap_lt hblk
  have HB1 : Hid (Below w.heap.size w w1) := hb1
  clear hb1 hblk
  go_wp2
  go_ret
  exact ⟨rfl, tk_left HH.out HB1.out HLE.out⟩

set_option maxRecDepth 100000 in
set_option maxHeartbeats 4000000 in
theorem tkCount (p : Nat) (bs : List UInt8) (a r : Nat) (w : World) (h : TkAt w p bs a r) :
    Calls Tryz.prog 54 #[.pointer (some ⟨p, 0, none⟩)] w fun e w' => e = .returned (.int .i64 (rC bs a r).1) ∧ TkAt w' p bs (rC bs a r).2.1 (rC bs a r).2.2 ∧ w.grownBy w' (some p) := by
  have c : Calls Tryz.prog 97 #[.agg #[.string (strB bs), .int .i64 a, .int .i64 r], .int .i64 1048576] w fun e w' => e = .returned (.tuple #[.agg #[.string (strB bs), .int .i64 ((rC bs a r).2.1 : Nat), .int .i64 ((rC bs a r).2.2 : Nat)], .int .i64 (rC bs a r).1]) ∧ Below w.heap.size w w' := refRCount_any (strB bs) a r 1048576 w (by have := h.few; rw [strB_size]; omega) (by rw [strB_size]; exact h.le)
  have hle : (rC bs a r).2.1 ≤ bs.length := stepR_at _ _ _ _ h.le (by have := getC_len (bs.drop a) 1048576; rw [List.length_drop] at this; exact this)
  obtain ⟨x, a1, r1, hx⟩ : ∃ x a1 r1, rC bs a r = (x, a1, r1) := ⟨_, _, _, rfl⟩
  rw [hx] at c hle ⊢
  simp only at c hle ⊢
  obtain ⟨c0, c1, c2⟩ := tcells3 h.blk
  have HH : Hid (TkAt w p bs a r) := h
  have HLE : Hid (a1 ≤ bs.length) := hle
  clear h hx hle
  go_enter Tryz.func54, Tryz.ntmps54
  go_wp2_with fail
  refine c.mono ?_
  clear c c0 c1 c2
  rintro e w1 ⟨rfl, hb1⟩
  have hblk : w1.heap[p]? = some (.cells #[.string (strB bs), .int .i64 (a : Int), .int .i64 (r : Int)] 101 (0, 0)) := (hb1.block p (heap_lt HH.out.blk)).trans HH.out.blk
  obtain ⟨c0, c1, c2⟩ := tcells3 hblk
  have q0 := cfrozen hblk 0
  have q1 := cfrozen hblk 1
  have q2 := cfrozen hblk 2
  have hpl : p < w1.heap.size := heap_lt hblk
  have HB1 : Hid (Below w.heap.size w w1) := hb1
  clear hb1 hblk
  go_wp2
  go_ret
  exact ⟨rfl, tk_left HH.out HB1.out HLE.out⟩

set_option maxRecDepth 100000 in
set_option maxHeartbeats 4000000 in
theorem tkText (p : Nat) (bs : List UInt8) (a r : Nat) (w : World) (h : TkAt w p bs a r) :
    Calls Tryz.prog 56 #[.pointer (some ⟨p, 0, none⟩)] w fun e w' => e = .returned (.string (strB (rT bs a r).1)) ∧ TkAt w' p bs (rT bs a r).2.1 (rT bs a r).2.2 ∧ w.grownBy w' (some p) := by
  have c : Calls Tryz.prog 98 #[.agg #[.string (strB bs), .int .i64 a, .int .i64 r], .int .i64 255] w fun e w' => e = .returned (.tuple #[.agg #[.string (strB bs), .int .i64 ((rT bs a r).2.1 : Nat), .int .i64 ((rT bs a r).2.2 : Nat)], .string (strB (rT bs a r).1)]) ∧ Below w.heap.size w w' := refRText_any (strB bs) a r 255 w (by have := h.few; rw [strB_size]; omega) (by rw [strB_size]; exact h.le)
  have hle : (rT bs a r).2.1 ≤ bs.length := stepR_at _ _ _ _ h.le (by have := getT_len (bs.drop a) 255; rw [List.length_drop] at this; exact this)
  obtain ⟨x, a1, r1, hx⟩ : ∃ x a1 r1, rT bs a r = (x, a1, r1) := ⟨_, _, _, rfl⟩
  rw [hx] at c hle ⊢
  simp only at c hle ⊢
  obtain ⟨c0, c1, c2⟩ := tcells3 h.blk
  have HH : Hid (TkAt w p bs a r) := h
  have HLE : Hid (a1 ≤ bs.length) := hle
  clear h hx hle
  go_enter Tryz.func56, Tryz.ntmps56
  go_wp2_with fail
  refine c.mono ?_
  clear c c0 c1 c2
  rintro e w1 ⟨rfl, hb1⟩
  have hblk : w1.heap[p]? = some (.cells #[.string (strB bs), .int .i64 (a : Int), .int .i64 (r : Int)] 101 (0, 0)) := (hb1.block p (heap_lt HH.out.blk)).trans HH.out.blk
  obtain ⟨c0, c1, c2⟩ := tcells3 hblk
  have q0 := cfrozen hblk 0
  have q1 := cfrozen hblk 1
  have q2 := cfrozen hblk 2
  have hpl : p < w1.heap.size := heap_lt hblk
  have HB1 : Hid (Below w.heap.size w w1) := hb1
  clear hb1 hblk
  go_wp2
  go_ret
  exact ⟨rfl, tk_left HH.out HB1.out HLE.out⟩

set_option maxRecDepth 100000 in
set_option maxHeartbeats 4000000 in
theorem tkTruth (p : Nat) (bs : List UInt8) (a r : Nat) (w : World) (h : TkAt w p bs a r) :
    Calls Tryz.prog 99 #[.pointer (some ⟨p, 0, none⟩)] w fun e w' => e = .returned (.bool (rB bs a r).1) ∧ TkAt w' p bs (rB bs a r).2.1 (rB bs a r).2.2 ∧ w.grownBy w' (some p) := by
  have c : Calls Tryz.prog 134 #[.agg #[.string (strB bs), .int .i64 a, .int .i64 r]] w fun e w' => e = .returned (.tuple #[.agg #[.string (strB bs), .int .i64 ((rB bs a r).2.1 : Nat), .int .i64 ((rB bs a r).2.2 : Nat)], .bool (rB bs a r).1]) ∧ Below w.heap.size w w' := refRBool_any (strB bs) a r w (by have := h.few; rw [strB_size]; omega)
  have hle : (rB bs a r).2.1 ≤ bs.length := stepR_at _ _ _ _ h.le (by have := getB_len (bs.drop a); rw [List.length_drop] at this; exact this)
  obtain ⟨x, a1, r1, hx⟩ : ∃ x a1 r1, rB bs a r = (x, a1, r1) := ⟨_, _, _, rfl⟩
  rw [hx] at c hle ⊢
  simp only at c hle ⊢
  obtain ⟨c0, c1, c2⟩ := tcells3 h.blk
  have HH : Hid (TkAt w p bs a r) := h
  have HLE : Hid (a1 ≤ bs.length) := hle
  clear h hx hle
  go_enter Tryz.func99, Tryz.ntmps99
  go_wp2_with fail
  refine c.mono ?_
  clear c c0 c1 c2
  rintro e w1 ⟨rfl, hb1⟩
  have hblk : w1.heap[p]? = some (.cells #[.string (strB bs), .int .i64 (a : Int), .int .i64 (r : Int)] 101 (0, 0)) := (hb1.block p (heap_lt HH.out.blk)).trans HH.out.blk
  obtain ⟨c0, c1, c2⟩ := tcells3 hblk
  have q0 := cfrozen hblk 0
  have q1 := cfrozen hblk 1
  have q2 := cfrozen hblk 2
  have hpl : p < w1.heap.size := heap_lt hblk
  have HB1 : Hid (Below w.heap.size w w1) := hb1
  clear hb1 hblk
  go_wp2
  go_ret
  exact ⟨rfl, tk_left HH.out HB1.out HLE.out⟩

set_option maxRecDepth 100000 in
set_option maxHeartbeats 4000000 in
theorem tkWell (p : Nat) (bs : List UInt8) (a r : Nat) (w : World) (h : TkAt w p bs a r) :
    Calls Tryz.prog 55 #[.pointer (some ⟨p, 0, none⟩)] w fun e w' => e = .returned (.bool (decide (r = 0))) ∧ w = w' := by
  obtain ⟨c0, c1, c2⟩ := tcells3 h.blk
  clear h
  by_cases h0 : r = 0
  · subst h0
    go_enter Tryz.func55, Tryz.ntmps55
    go_wp2
    go_ret
    exact ⟨rfl, rfl⟩
  · have hd : decide (r = 0) = false := decide_eq_false h0
    have hb : ((r : Int) == 0) = false := by rw [beq_eq_false_iff_ne]; omega
    rw [hd]
    clear hd h0
    go_enter Tryz.func55, Tryz.ntmps55
    go_wp2
    go_ret
    exact ⟨rfl, rfl⟩
end Go.Proofs.YtechkkphbajmoaaGreatDoor
/- code: rows that grow beside what lies below them. -/
namespace Go.Proofs.YtechkkphbajmoaaGreatDoor
open Go.RowKit Go.Shelf

/-- A row of one's own from N on, and what hangs of it. -/
structure RowX {α : Type} (CO : (Nat → Prop) → World → α → List Value → Prop) (k N : Nat) (ty : TypeId) (v : Value) (wr : World) (l : List α) (css : List (List Value)) : Prop where
  len : css.length = l.length
  co : ∀ i (h : i < l.length) (h' : i < css.length), CO (fun q => N ≤ q ∧ v.ownBlock ≠ some q) wr l[i] css[i]
  row : wr.ownsRow N ty k v l.length css.flatten
  low : N ≤ wr.heap.size
theorem RowX.start {α : Type} {CO : (Nat → Prop) → World → α → List Value → Prop} {k N : Nat} {ty : TypeId} {wr : World} (hN : N ≤ wr.heap.size) : RowX CO k N ty (.slice none 0 0) wr ([] : List α) [] :=
  ⟨rfl, fun _ h _ => absurd h (by simp), World.ownsRow_nil _ _ _ _, hN⟩
theorem ownk_to {w w' : World} {B e k n : Nat} {v : Value} {xs : List Value} (h : w.ownsRow B e k v n xs) (hb : ∀ q, v.ownBlock = some q → w'.heap[q]? = w.heap[q]?) : w'.ownsRow B e k v n xs := by
  obtain ⟨h1, h2⟩ := h
  refine ⟨h1, ?_⟩
  rcases h2 with h2 | ⟨g, cap, cur, hv, hB, hg, rest⟩
  · exact .inl h2
  · refine .inr ⟨g, cap, cur, hv, hB, ?_, rest⟩
    rw [hb g (by rw [hv]; rfl)]
    exact hg
theorem RowX.keep {α : Type} {CO : (Nat → Prop) → World → α → List Value → Prop} {k N : Nat} (law : CellLaw k CO) {ty : TypeId} {v : Value} {wr w1 : World} {l : List α} {css : List (List Value)} (h : RowX CO k N ty v wr l css) (hs : wr.heap.size ≤ w1.heap.size) (hk : ∀ q, N ≤ q → q < wr.heap.size → w1.heap[q]? = wr.heap[q]?) : RowX CO k N ty v w1 l css :=
  ⟨h.len, fun i h1 h2 => law.keep _ _ _ _ _ (h.co i h1 h2) hs fun q hq hlt => hk q hq.1 hlt, ownk_to h.row fun q hq => hk q (h.row.lt q hq).1 (h.row.lt q hq).2, Nat.le_trans h.low hs⟩
/-- One more. -/
theorem RowX.snoc {α : Type} {CO : (Nat → Prop) → World → α → List Value → Prop} {k N : Nat} (law : CellLaw k CO) {ty : TypeId} {v v' : Value} {wr w1 w2 w3 : World} {l : List α} {css : List (List Value)} (h : RowX CO k N ty v wr l css) {x : α} {cs : List Value} {o : Obj}
    (hs1 : wr.heap.size ≤ w1.heap.size) (hk1 : ∀ q, N ≤ q → q < wr.heap.size → w1.heap[q]? = wr.heap[q]?) (hco : CO (fun b => wr.heap.size ≤ b) w1 x cs) (hw2 : w2 = w1.alloc o) (hrow : w3.ownsRow N ty k v' (l.length + 1) (css.flatten ++ cs)) (hg3 : w2.grownBy w3 v.ownBlock) (hloc : v'.ownBlock = v.ownBlock ∨ v'.ownBlock = some w2.heap.size) :
    RowX CO k N ty v' w3 (l ++ [x]) (css ++ [cs]) := by
  have hs2 : w2.heap.size = w1.heap.size + 1 := by rw [hw2]; simp
  have hs3 := hg3.size
  have hvlt := h.row.lt
  have k13 : ∀ q, q < w1.heap.size → v.ownBlock ≠ some q → w3.heap[q]? = w1.heap[q]? := fun q hq hne => by
    rw [hg3.block q (by omega) (fun e => hne e.symm), hw2, Below.heap_alloc _ _ _ hq]
  have kr3 : ∀ q, N ≤ q → q < wr.heap.size → v.ownBlock ≠ some q → w3.heap[q]? = wr.heap[q]? := fun q hN hq hne =>
    (k13 q (by omega) hne).trans (hk1 q hN hq)
  have hlow := h.low
  refine ⟨by simp [h.len], fun i hi hi' => ?_, ?_, by omega⟩
  · by_cases e : i < l.length
    · rw [List.getElem_append_left e, List.getElem_append_left (by rw [h.len]; exact e)]
      have h1 := h.co i e (by rw [h.len]; exact e)
      have h2 := law.wide _ (fun q => (N ≤ q ∧ v.ownBlock ≠ some q) ∧ q < wr.heap.size) _ _ _ h1 (fun q hq hS => ⟨hS, hq⟩)
      have h3 := law.keep _ _ w3 _ _ h2 (by omega) (fun q hS hq => kr3 q hS.1.1 hq hS.1.2)
      refine law.wide _ _ _ _ _ h3 fun q _ hS => ⟨hS.1.1, ?_⟩
      rcases hloc with e1 | e1
      · rw [e1]; exact hS.1.2
      · rw [e1]
        intro e2
        have e3 : w2.heap.size = q := Option.some.inj e2
        have := hS.2
        omega
    · have hie : i = l.length := by
        rw [List.length_append] at hi
        simp at hi
        omega
      subst hie
      rw [List.getElem_append_right (Nat.le_refl _)]
      have hc' : (css ++ [cs])[l.length]'hi' = cs := by
        rw [List.getElem_append_right (by rw [h.len]; exact Nat.le_refl _)]
        simp [h.len]
      rw [hc']
      simp only [Nat.sub_self, List.getElem_cons_zero]
      have h2 := law.wide _ (fun q => wr.heap.size ≤ q ∧ q < w1.heap.size) _ _ _ hco (fun q hq hS => ⟨hS, hq⟩)
      have h3 := law.keep _ _ w3 _ _ h2 (by omega) (fun q hS hq => k13 q hq (fun e => by have := (hvlt q e).2; have := hS.1; omega))
      refine law.wide _ _ _ _ _ h3 fun q _ hS => ⟨by have := hS.1; omega, ?_⟩
      rcases hloc with e1 | e1
      · rw [e1]; exact fun e2 => by have := (hvlt q e2).2; have := hS.1; omega
      · rw [e1]
        intro e2
        have e3 : w2.heap.size = q := Option.some.inj e2
        have := hS.2
        omega
  · have : (l ++ [x]).length = l.length + 1 := by simp
    rw [this, List.flatten_append]
    simpa using hrow
/-- A row that was read lies in memory. -/
theorem RowX.rowIn {α : Type} {CO : (Nat → Prop) → World → α → List Value → Prop} {k N : Nat} (law : CellLaw k CO) {ty : TypeId} {v : Value} {wr : World} {l : List α} {css : List (List Value)} (h : RowX CO k N ty v wr l css) {E : World → Nat → Nat → α → Prop}
    (hE : ∀ x cs b o, CO (fun b => N ≤ b) wr x cs → (∀ j (hj : j < cs.length), wr.cell? ⟨b, o + j, none⟩ = some cs[j]) → E wr b o x) : rowIn (fun b => N ≤ b) wr v k E l := by
  rcases h.row.2 with ⟨hv, h0⟩ | ⟨g, cp, cur, hv, hg, hh, hnc, hcm, hcs, htake⟩
  · refine ⟨none, 0, by rw [hv, h0], by omega, by decide, .inl (List.length_eq_zero_iff.1 h0)⟩
  · refine ⟨some ⟨g, 0, none⟩, cp, hv, hnc, hcm, .inr ⟨g, 0, rfl, hg, heap_lt hh, fun i hi => ?_⟩⟩
    have hi' : i < css.length := by rw [h.len]; exact hi
    have hco := h.co i hi hi'
    refine hE l[i] css[i] g _ (law.wide _ _ _ _ _ hco fun q _ hS => hS.1) fun j hj => ?_
    have hlens : ∀ cs ∈ css, cs.length = k := fun cs hcs' => by
      obtain ⟨q, hq, rfl⟩ := List.getElem_of_mem hcs'
      exact law.len _ _ _ _ (h.co q (by rw [← h.len]; exact hq) hq)
    have hjk : j < k := by rw [← hlens css[i] (List.getElem_mem hi')]; exact hj
    have hpos : css.flatten[i * k + j]? = some css[i][j] := by
      have hd : css = css.take i ++ css[i] :: css.drop (i + 1) := by rw [List.getElem_cons_drop, List.take_append_drop]
      have hl1 : (css.take i).flatten.length = i * k := by
        rw [flatten_len fun cs hcs' => hlens cs (List.mem_of_mem_take hcs'), List.length_take, Nat.min_eq_left (Nat.le_of_lt hi')]
      conv => lhs; rw [hd]
      rw [List.flatten_append, List.flatten_cons, List.getElem?_append_right (by omega), hl1, Nat.add_sub_cancel_left, List.getElem?_append_left hj, List.getElem?_eq_getElem hj]
    have hcell := h.row.cells (g := g) (by rw [hv]; rfl) (i * k + j) css[i][j] hpos
    rw [show (⟨g, 0 + i * k + j, none⟩ : Addr) = (⟨g, 0, none⟩ : Addr).add (i * k + j) by rw [add_zero']; simp]
    exact hcell
/-- What lies below N is kept by an append to a row from N on. -/
theorem RowX.lowkept {α : Type} {CO : (Nat → Prop) → World → α → List Value → Prop} {k N : Nat} {ty : TypeId} {v : Value} {wr w1 w2 w3 : World} {l : List α} {css : List (List Value)} (h : RowX CO k N ty v wr l css) {o : Obj} (hw2 : w2 = w1.alloc o) (hs1 : wr.heap.size ≤ w1.heap.size) (hg3 : w2.grownBy w3 v.ownBlock) : ∀ q, q < N → w3.heap[q]? = w1.heap[q]? := fun q hq => by
  have hlow := h.low
  have hs2 : w2.heap.size = w1.heap.size + 1 := by rw [hw2]; simp
  rw [hg3.block q (by omega) (fun e => by have := (h.row.lt q e.symm).1; omega), hw2, Below.heap_alloc _ _ _ (by omega)]
theorem TkAt.kept {w w' : World} {p : Nat} {bs : List UInt8} {a r : Nat} (h : TkAt w p bs a r) (hb : w'.heap[p]? = w.heap[p]?) : TkAt w' p bs a r := ⟨hb.trans h.blk, h.le, h.few⟩
/-- So many are read, i of them so far. -/
structure LoopX {α : Type} (one : Nat → Nat → α × Nat × Nat) (n a0 r0 : Nat) (i : Nat) (l : List α) (a r : Nat) : Prop where
  le : i ≤ n
  eq : loopR one n a0 r0 = (l ++ (loopR one (n - i) a r).1, (loopR one (n - i) a r).2)
theorem LoopX.start {α : Type} (one : Nat → Nat → α × Nat × Nat) (n a0 r0 : Nat) : LoopX one n a0 r0 0 [] a0 r0 := ⟨Nat.zero_le _, by simp⟩
theorem LoopX.next {α : Type} {one : Nat → Nat → α × Nat × Nat} {n a0 r0 i : Nat} {l : List α} {a : Nat} (h : LoopX one n a0 r0 i l a 0) (hi : i < n) : LoopX one n a0 r0 (i + 1) (l ++ [(one a 0).1]) (one a 0).2.1 (one a 0).2.2 := by
  refine ⟨hi, ?_⟩
  rw [h.eq, show n - i = (n - (i + 1)) + 1 by omega, loopR_succ]
  simp
theorem LoopX.last {α : Type} {one : Nat → Nat → α × Nat × Nat} {n a0 r0 : Nat} {l : List α} {a r : Nat} (h : LoopX one n a0 r0 n l a r) : loopR one n a0 r0 = (l, a, r) := by
  rw [h.eq, Nat.sub_self, loopR_zero]; simp
theorem LoopX.bad {α : Type} {one : Nat → Nat → α × Nat × Nat} {n a0 r0 i : Nat} {l : List α} {a r : Nat} (h : LoopX one n a0 r0 i l a r) (hr : r ≠ 0) : loopR one n a0 r0 = (l, a, r) := by
  rw [h.eq, loopR_bad _ _ _ _ hr]; simp
theorem LoopX.few {α : Type} {one : Nat → Nat → α × Nat × Nat} {n a0 r0 i : Nat} {l : List α} {a r : Nat} (h : LoopX one n a0 r0 i l a r) : l.length ≤ n := by
  have h1 := loopR_len one n a0 r0
  rw [h.eq, List.length_append] at h1
  omega
end Go.Proofs.YtechkkphbajmoaaGreatDoor
/- code: the document's reading of texts. -/
namespace Go.Proofs.YtechkkphbajmoaaGreatDoor
open Go.RowKit Go.Shelf

/-- What reading texts answers. -/
def TxRet (p : Nat) (bs : List UInt8) (a r : Nat) (w : World) (e : Ending) (w' : World) : Prop :=
  ∃ b n c, e = .returned (.slice b n c) ∧ strsIn (fun q => w.heap.size ≤ q) w' (.slice b n c) (rAll bs (rT bs) a r).1 ∧ TkAt w' p bs (rAll bs (rT bs) a r).2.1 (rAll bs (rT bs) a r).2.2 ∧ w.grownBy w' (some p)

set_option maxRecDepth 100000 in
set_option maxHeartbeats 4000000 in
theorem tkTexts (p : Nat) (bs : List UInt8) (a r : Nat) (w : World) (h : TkAt w p bs a r) :
    Calls Tryz.prog 53 #[.pointer (some ⟨p, 0, none⟩)] w fun e w' => TxRet p bs a r w e w' := by
  have c1 := tkCount p bs a r w h
  have hcb := rC_bound bs a r
  obtain ⟨n0, a1, r1, hc⟩ : ∃ x ya yr, rC bs a r = (x, ya, yr) := ⟨_, _, _, rfl⟩
  have HALL : Hid (rAll bs (rT bs) a r = loopR (rT bs) n0.toNat a1 r1) := by show _ = _; unfold rAll; rw [hc]
  rw [hc] at c1 hcb
  simp only at c1 hcb
  obtain ⟨n, rfl⟩ : ∃ n : Nat, n0 = n := ⟨n0.toNat, by omega⟩
  rw [Int.toNat_natCast] at HALL
  have hpl : p < w.heap.size := heap_lt h.blk
  have HRET : Hid (∀ l a' r' v css W, loopR (rT bs) n a1 r1 = (l, a', r') → TkAt W p bs a' r' → w.grownBy W (some p) → RowX coStr 1 w.heap.size 9 v W l css → TxRet p bs a r w (.returned v) W) := fun l a' r' v css W hl hT hG hX => by
    have hrow := hX.rowIn lawStr (E := strE) fun x cs b o hco hcs => by
      have e : cs = [.string (strB x)] := hco
      subst e
      exact hcs 0 (by simp)
    obtain ⟨b, c, rfl, -⟩ := hrow.at
    refine ⟨b, _, c, rfl, ?_, ?_, hG⟩
    · rw [HALL.out, hl]; exact hrow
    · rw [HALL.out, hl]; exact hT
  obtain ⟨i0, hinf, hz0, hz1, hz2⟩ := info_parts info_str
  have hnI : (n : Int) ≤ 1048576 := hcb.2
  have HN : Hid (n ≤ 1048576) := by show _ ≤ _; omega
  have HPL : Hid (p < w.heap.size) := hpl
  clear h hc hcb hpl
  go_enter Tryz.func53, Tryz.ntmps53
  go_wp2_with fail
  refine c1.mono ?_
  clear c1
  rintro e w1 ⟨rfl, hT1, hG1⟩
  have HT1 : Hid (TkAt w1 p bs a1 r1) := hT1
  have HG1 : Hid (w.grownBy w1 (some p)) := hG1
  clear hT1 hG1
  go_wp2
  go_loopw [3, 5] (fun v vi wr => ∃ (i : Nat) (l : List (List UInt8)) (css : List (List Value)) (a' r' : Nat), vi = .int .i64 (i : Int) ∧ LoopX (rT bs) n a1 r1 i l a' r' ∧ TkAt wr p bs a' r' ∧ w.grownBy wr (some p) ∧ RowX coStr 1 w.heap.size 9 v wr l css) (fun _ vi _ => n - (intOf vi).toNat)
  case atStart => exact ⟨0, [], [], a1, r1, rfl, LoopX.start _ _ _ _, HT1.out, HG1.out, RowX.start HG1.out.size⟩
  case round =>
    obtain ⟨i, l, css, a', r', rfl, hL, hT, hG, hX⟩ := hrel
    have HL : Hid (LoopX (rT bs) n a1 r1 i l a' r') := hL
    have HT : Hid (TkAt wr p bs a' r') := hT
    have HG : Hid (w.grownBy wr (some p)) := hG
    have HX : Hid (RowX coStr 1 w.heap.size 9 u3 wr l css) := hX
    obtain ⟨n3, b3, c3, rfl⟩ : ∃ n b c, u3 = .slice b n c := by
      rcases hX.row.2 with ⟨e, -⟩ | ⟨g, cp, cur, e, -⟩
      · exact ⟨_, _, _, e⟩
      · exact ⟨_, _, _, e⟩
    have hle := hL.le
    have hfew := hL.few
    by_cases hi : i < n
    · have hi2 : (i : Int) < n := by omega
      have cw := tkWell p bs a' r' wr hT
      by_cases hr : r' = 0
      · subst hr
        rw [decide_eq_true rfl] at cw
        have ct := tkText p bs a' 0 wr hT
        have HNX := hL.next hi
        obtain ⟨x, a2, r2, hx⟩ : ∃ x ya yr, rT bs a' 0 = (x, ya, yr) := ⟨_, _, _, rfl⟩
        rw [hx] at ct HNX
        simp only at ct HNX
        have HNXT : Hid (LoopX (rT bs) n a1 r1 (i + 1) (l ++ [x]) a2 r2) := HNX
        have HFW : Hid (l.length ≤ 1048576) := by have := HN.out; show _ ≤ _; omega
        clear hL hT hG hX hx HNX hfew hle
        go_wp2_with fail
        refine cw.mono ?_
        clear cw
        rintro e w2 ⟨rfl, rfl⟩
        go_wp2_with fail
        refine ct.mono ?_
        clear ct
        rintro e w3 ⟨rfl, hT3, hG3⟩
        have HT3 : Hid (TkAt w3 p bs a2 r2) := hT3
        have HG3 : Hid (wr.grownBy w3 (some p)) := hG3
        have HX3 : Hid (RowX coStr 1 w.heap.size 9 (.slice b3 n3 c3) w3 l css) := HX.out.keep lawStr hG3.size fun q hq hlt => hG3.block q hlt (by have := HPL.out; simp; omega)
        clear hT3 hG3
        go_wp2_with (first
          | (at_builtin; refine wpList_append_own_at _ rfl _ _ 22 rfl w.heap.size 9 i0 (.string ⟨#[]⟩) 1 16 Tryz.underlying22 hinf hz0 hz1 hz2 rfl (by decide) _ _ _ rfl (HX3.out.row.alloc _) ⟨w3.heap.size, 0, none⟩ 1 1 [.string (strB x)] rfl rfl (rcells_new _ _ _) (by simp [Value.oneCell']) (by have := HFW.out; unfold maxLen; omega) (by have := HFW.out; omega) (by have := HX3.out.low; simp; omega) ?_; intro v' w9 hown9 hgrow9 hnil9 hloc9; have hlk := HX3.out.lowkept (w1 := w3) rfl (Nat.le_refl _) hgrow9; have HX9 : Hid (RowX coStr 1 w.heap.size 9 v' w9 (l ++ [x]) (css ++ [[.string (strB x)]])) := HX3.out.snoc lawStr (w1 := w3) (Nat.le_refl _) (fun q _ _ => rfl) rfl rfl hown9 hgrow9 hloc9; have HT9 : Hid (TkAt w9 p bs a2 r2) := HT3.out.kept (hlk p HPL.out); have HG9 : Hid (w.grownBy w9 (some p)) := ⟨hgrow9.os.trans (HG3.out.os.trans HG.out.os), hgrow9.tape.trans (HG3.out.tape.trans HG.out.tape), hgrow9.output.trans (HG3.out.output.trans HG.out.output), HX9.out.low, fun q hq hne => (hlk q hq).trans ((HG3.out.block q (Nat.lt_of_lt_of_le hq HG.out.size) hne).trans (HG.out.block q hq hne))⟩; clear hown9 hgrow9 hnil9 hloc9 hlk)
          | go_in)
        exact ⟨⟨i + 1, _, _, a2, r2, by go_num, HNXT.out, HT9.out, HG9.out, HX9.out⟩, by simp [intOf]; omega⟩
      · rw [decide_eq_false hr] at cw
        have HRT : Hid (TxRet p bs a r w (.returned (.slice b3 n3 c3)) wr) := HRET.out l a' r' _ css wr (hL.bad hr) hT hG hX
        clear hL hT hG hX hr hfew hle
        go_wp2_with fail
        refine cw.mono ?_
        clear cw
        rintro e w2 ⟨rfl, rfl⟩
        go_wp2
        go_ret
        exact HRT.out
    · obtain rfl : i = n := by omega
      have hi2 : ¬ (i : Int) < i := by omega
      have HRT : Hid (TxRet p bs a r w (.returned (.slice b3 n3 c3)) wr) := HRET.out l a' r' _ css wr hL.last hT hG hX
      clear hL hT hG hX hfew hle
      go_wp2
      go_ret
      exact HRT.out
end Go.Proofs.YtechkkphbajmoaaGreatDoor
/- A region that draws its order: where two may come up. -/
namespace Go.Proofs.YtechkkphbajmoaaGreatDoor
open Go Go.RowKit

theorem cmix_two {P : Program} {Q : Exit → Act → World → Prop} {md : Region.Mode} {S : World → Prop} {l : List Oper} {fuel fuel' : Nat} {w : World} {i k : Nat} {o o' : Oper} {rest rest' : List Oper} {listed li lk : Array Bool} {a : Act} (hd : l.drop i = o :: rest) (hd' : l.drop k = o' :: rest') (hr : Region.ready md l.toArray listed = [i, k]) (hf : fuel + 1 = fuel') (hL : li = listed.setIfInBounds i true) (hL' : lk = listed.setIfInBounds k true)
    (hw : Region.wanted o (yielded l.toArray a.tmps) = true) (hw' : Region.wanted o' (yielded l.toArray a.tmps) = true)
    (h : ∀ K : Act → World → Prop, Hid (∀ a' w', S w' → wpAnyH P md l.toArray Q S fuel li a' w' → K a' w') → o.wp P a w K Q)
    (h' : ∀ K : Act → World → Prop, Hid (∀ a' w', S w' → wpAnyH P md l.toArray Q S fuel lk a' w' → K a' w') → o'.wp P a w K Q) : wpAnyH P md l.toArray Q S fuel' listed a w := by
  subst hf hL hL'
  refine wpAnyH_all hr (by simp) fun j hj => ?_
  have hj' : j = i ∨ j = k := by simpa using hj
  rcases hj' with rfl | rfl
  · have h1 := h (fun a' w' => S w' ∧ wpAnyH P md l.toArray Q S fuel (listed.setIfInBounds j true) a' w') fun a' w' h1 h2 => ⟨h1, h2⟩
    unfold wpOp
    rw [drop_get hd]
    simp only [hw, if_true]
    exact .inl h1
  · have h1 := h' (fun a' w' => S w' ∧ wpAnyH P md l.toArray Q S fuel (listed.setIfInBounds j true) a' w') fun a' w' h1 h2 => ⟨h1, h2⟩
    unfold wpOp
    rw [drop_get hd']
    simp only [hw', if_true]
    exact .inl h1
end Go.Proofs.YtechkkphbajmoaaGreatDoor
/- code: the document's reading of a unit. -/
namespace Go.Proofs.YtechkkphbajmoaaGreatDoor
open Go.RowKit Go.Shelf

/-- A reader at p, a result at the world's end, and a box at U. -/
structure UBx (w W : World) (p : Nat) (bs : List UInt8) (a r U : Nat) (ty : TypeId) (zero cur : Array Value) : Prop where
  rd : TkAt W p bs a r
  X : W.heap[U]? = some (.cells cur ty (0, 0))
  Y : W.heap[w.heap.size]? = some (.cells zero ty (0, 0))
  G : w.grownBy W (some p)
  pR : p ≠ w.heap.size
  pU : p < U
  ult : w.heap.size < U
theorem UBx.call {w W W1 : World} {p : Nat} {bs : List UInt8} {a r a1 r1 U : Nat} {ty : TypeId} {zero cur : Array Value} (h : UBx w W p bs a r U ty zero cur) (hr : TkAt W1 p bs a1 r1) (hg : W.grownBy W1 (some p)) : UBx w W1 p bs a1 r1 U ty zero cur :=
  ⟨hr, (hg.block U (heap_lt h.X) (by have := h.pU; simp; omega)).trans h.X, (hg.block _ (heap_lt h.Y) (by have := h.pR; simp; omega)).trans h.Y, tkg_trans h.G hg, h.pR, h.pU, h.ult⟩
theorem UBx.store {w W : World} {p : Nat} {bs : List UInt8} {a r U : Nat} {ty : TypeId} {zero cur : Array Value} (h : UBx w W p bs a r U ty zero cur) (j : Nat) (v : Value) : UBx w (W.setCell ⟨U, j, none⟩ v) p bs a r U ty zero (cur.setIfInBounds j v) := by
  have hp := h.pU
  have hu := h.ult
  exact ⟨h.rd.kept (heap_setCell_other _ _ _ _ (by simp; omega)), heap_setCell_same _ _ _ _ _ _ h.X, (heap_setCell_other _ _ _ _ (by simp; omega)).trans h.Y, ⟨h.G.os, h.G.tape, h.G.output, by rw [show (W.setCell ⟨U, j, none⟩ v).heap.size = W.heap.size by simp]; exact h.G.size, fun q hq hne => (heap_setCell_other _ _ _ _ (by simp; omega)).trans (h.G.block q hq hne)⟩, h.pR, hp, hu⟩
theorem UBx.storeY {w W : World} {p : Nat} {bs : List UInt8} {a r U : Nat} {ty : TypeId} {zero cur : Array Value} (h : UBx w W p bs a r U ty zero cur) (j : Nat) (v : Value) : UBx w (W.setCell ⟨w.heap.size, j, none⟩ v) p bs a r U ty (zero.setIfInBounds j v) cur := by
  have hp := h.pR
  have hu := h.ult
  exact ⟨h.rd.kept (heap_setCell_other _ _ _ _ (by simp; omega)), (heap_setCell_other _ _ _ _ (by simp; omega)).trans h.X, heap_setCell_same _ _ _ _ _ _ h.Y, ⟨h.G.os, h.G.tape, h.G.output, by rw [show (W.setCell ⟨w.heap.size, j, none⟩ v).heap.size = W.heap.size by simp]; exact h.G.size, fun q hq hne => (heap_setCell_other _ _ _ _ (by simp; omega)).trans (h.G.block q hq hne)⟩, hp, h.pU, hu⟩
theorem UBx.low {w W W1 : World} {p : Nat} {bs : List UInt8} {a r U N : Nat} {ty : TypeId} {zero cur : Array Value} (h : UBx w W p bs a r U ty zero cur) (hN : U < N) (hk : ∀ q, q < N → W1.heap[q]? = W.heap[q]?) (ho : W1.os = W.os) (ht : W1.tape = W.tape) (hp : W1.output = W.output) (hs : W.heap.size ≤ W1.heap.size) : UBx w W1 p bs a r U ty zero cur := by
  have h1 := h.pU
  have h2 := h.ult
  exact ⟨h.rd.kept (hk p (by omega)), (hk U hN).trans h.X, (hk _ (by omega)).trans h.Y, ⟨ho.trans h.G.os, ht.trans h.G.tape, hp.trans h.G.output, Nat.le_trans h.G.size hs, fun q hq hne => (hk q (by omega)).trans (h.G.block q hq hne)⟩, h.pR, h1, h2⟩
theorem UBx.below {w W W1 : World} {p : Nat} {bs : List UInt8} {a r U : Nat} {ty : TypeId} {zero cur : Array Value} (h : UBx w W p bs a r U ty zero cur) (hb : Below W.heap.size W W1) : UBx w W1 p bs a r U ty zero cur :=
  h.low (heap_lt h.X) (fun q hq => hb.block q hq) hb.os hb.tape hb.output hb.size
/-- Within a round: a variable's box at VB, beside the rest. -/
structure VJx (w W : World) (p : Nat) (bs : List UInt8) (a r U : Nat) (ty : TypeId) (zero cur : Array Value) (N : Nat) (wr : World) (VB : Nat) (cv : Array Value) : Prop where
  B : UBx w W p bs a r U ty zero cur
  VX : W.heap[VB]? = some (.cells cv 121 (0, 0))
  K : ∀ q, N ≤ q → q < wr.heap.size → W.heap[q]? = wr.heap[q]?
  hs : wr.heap.size ≤ VB
  hU : U < N
theorem VJx.call {w W W1 : World} {p : Nat} {bs : List UInt8} {a r a1 r1 U : Nat} {ty : TypeId} {zero cur : Array Value} {N : Nat} {wr : World} {VB : Nat} {cv : Array Value} (h : VJx w W p bs a r U ty zero cur N wr VB cv) (hr : TkAt W1 p bs a1 r1) (hg : W.grownBy W1 (some p)) (hN : N ≤ wr.heap.size := by omega) : VJx w W1 p bs a1 r1 U ty zero cur N wr VB cv := by
  have h1 := h.B.pU
  have h2 := h.hU
  have h3 := h.hs
  have h4 := heap_lt h.VX
  exact ⟨h.B.call hr hg, (hg.block VB h4 (by simp; omega)).trans h.VX, fun q hq hlt => (hg.block q (by omega) (by simp; omega)).trans (h.K q hq hlt), h3, h2⟩
theorem VJx.store {w W : World} {p : Nat} {bs : List UInt8} {a r U : Nat} {ty : TypeId} {zero cur : Array Value} {N : Nat} {wr : World} {VB : Nat} {cv : Array Value} (h : VJx w W p bs a r U ty zero cur N wr VB cv) (j : Nat) (v : Value) (hN : N ≤ wr.heap.size := by omega) : VJx w (W.setCell ⟨VB, j, none⟩ v) p bs a r U ty zero cur N wr VB (cv.setIfInBounds j v) := by
  have h2 := h.hU
  have h3 := h.hs
  exact ⟨h.B.low (N := VB) (by omega) (fun q hq => heap_setCell_other _ _ _ _ (by simp; omega)) rfl rfl rfl (by simp), heap_setCell_same _ _ _ _ _ _ h.VX, fun q hq hlt => (heap_setCell_other _ _ _ _ (by simp; omega)).trans (h.K q hq hlt), h3, h2⟩
def UnRet (p : Nat) (bs : List UInt8) (a r : Nat) (w : World) (e : Ending) (w' : World) : Prop :=
  (∃ bi ni ci bv nv cv, e = .returned (unV (rUn bs a r).1 (.slice bi ni ci) (.slice bv nv cv)) ∧ insIn (fun b => w.heap.size ≤ b) w' (.slice bi ni ci) (rUn bs a r).1.ins ∧ varsIn (fun b => w.heap.size ≤ b) w' (.slice bv nv cv) (rUn bs a r).1.vars) ∧ TkAt w' p bs (rUn bs a r).2.1 (rUn bs a r).2.2 ∧ w.grownBy w' (some p)

set_option maxRecDepth 100000 in
set_option maxHeartbeats 16000000 in
theorem tkUnit (p : Nat) (bs : List UInt8) (a0 r0 : Nat) (w : World) (h : TkAt w p bs a0 r0) :
    Calls Tryz.prog 57 #[.pointer (some ⟨p, 0, none⟩)] w fun e w' => UnRet p bs a0 r0 w e w' := by
  have hpl : p < w.heap.size := heap_lt h.blk
  have HPL : Hid (p < w.heap.size) := hpl
  obtain ⟨wR, hwR, hbR, HZR, hRb⟩ := box1 w (.cells #[.string ⟨#[]⟩, .int .i64 0, .int .i64 0, .int .i64 0, .bool false, .slice none 0 0, .slice none 0 0] 58)
  have HWR : Hid (wR = w.alloc (.cells #[.string ⟨#[]⟩, .int .i64 0, .int .i64 0, .int .i64 0, .bool false, .slice none 0 0, .slice none 0 0] 58)) := hwR
  have HRB : Hid (wR.heap[w.heap.size]? = some (.cells #[.string ⟨#[]⟩, .int .i64 0, .int .i64 0, .int .i64 0, .bool false, .slice none 0 0, .slice none 0 0] 58 (0, 0))) := hRb
  have hTR : TkAt wR p bs a0 r0 := h.kept (hbR.block p hpl)
  have HGR : Hid (w.grownBy wR (some p)) := tkg_below p hbR
  obtain ⟨x0, a1, r1, hx0⟩ : ∃ x ya yr, rT bs a0 r0 = (x, ya, yr) := ⟨_, _, _, rfl⟩
  obtain ⟨x1, a2, r2, hx1⟩ : ∃ x ya yr, rI bs a1 r1 = (x, ya, yr) := ⟨_, _, _, rfl⟩
  obtain ⟨x2, a3, r3, hx2⟩ : ∃ x ya yr, rI bs a2 r2 = (x, ya, yr) := ⟨_, _, _, rfl⟩
  obtain ⟨x3, a4, r4, hx3⟩ : ∃ x ya yr, rI bs a3 r3 = (x, ya, yr) := ⟨_, _, _, rfl⟩
  obtain ⟨x4, a5, r5, hx4⟩ : ∃ x ya yr, rB bs a4 r4 = (x, ya, yr) := ⟨_, _, _, rfl⟩
  obtain ⟨x5, a6, r6, hx5⟩ : ∃ x ya yr, rAll bs (rIns bs) a5 r5 = (x, ya, yr) := ⟨_, _, _, rfl⟩
  obtain ⟨x6, a7, r7, hx6⟩ : ∃ x ya yr, rAll bs (rVar bs) a6 r6 = (x, ya, yr) := ⟨_, _, _, rfl⟩
  have HRES : Hid (rUn bs a0 r0 = ((⟨x0, x1, x2, x3, x4, x5, x6⟩ : Un), a7, r7)) := by
    show _ = _
    simp only [rUn, hx0, hx1, hx2, hx3, hx4, hx5, hx6]
  obtain ⟨nI, aI, rI', hcI⟩ : ∃ x ya yr, rC bs a5 r5 = (x, ya, yr) := ⟨_, _, _, rfl⟩
  obtain ⟨nV, aV, rV', hcV⟩ : ∃ x ya yr, rC bs a6 r6 = (x, ya, yr) := ⟨_, _, _, rfl⟩
  have hbI := rC_bound bs a5 r5
  have hbV := rC_bound bs a6 r6
  rw [hcI] at hbI
  rw [hcV] at hbV
  simp only at hbI hbV
  obtain ⟨nI, rfl⟩ : ∃ n : Nat, nI = n := ⟨nI.toNat, by omega⟩
  obtain ⟨nV, rfl⟩ : ∃ n : Nat, nV = n := ⟨nV.toNat, by omega⟩
  have HX5 : Hid (loopR (rIns bs) nI aI rI' = (x5, a6, r6)) := by
    have h9 := hx5
    unfold rAll at h9
    rw [hcI] at h9
    show _ = _
    simpa using h9
  have HX6 : Hid (loopR (rVar bs) nV aV rV' = (x6, a7, r7)) := by
    have h9 := hx6
    unfold rAll at h9
    rw [hcV] at h9
    show _ = _
    simpa using h9
  have HX1 : Hid (rI bs a1 r1 = (x1, a2, r2)) := hx1
  have HX2 : Hid (rI bs a2 r2 = (x2, a3, r3)) := hx2
  have HX3 : Hid (rI bs a3 r3 = (x3, a4, r4)) := hx3
  have HX4 : Hid (rB bs a4 r4 = (x4, a5, r5)) := hx4
  have HCI : Hid (rC bs a5 r5 = ((nI : Int), aI, rI')) := hcI
  have HCV : Hid (rC bs a6 r6 = ((nV : Int), aV, rV')) := hcV
  have hnI : (nI : Int) ≤ 1048576 := hbI.2
  have hnV : (nV : Int) ≤ 1048576 := hbV.2
  have HNI : Hid (nI ≤ 1048576 ∧ nV ≤ 1048576) := ⟨by omega, by omega⟩
  obtain ⟨iI, hinfI, hzI0, hzI1, hzI2⟩ := info_parts info_insT
  obtain ⟨iV, hinfV, hzV0, hzV1, hzV2⟩ := info_parts info_varT
  have c := tkText p bs a0 r0 wR hTR
  rw [hx0] at c
  simp only at c
  clear h hpl hwR hbR HZR hRb hTR hx0 hx1 hx2 hx3 hx4 hx5 hx6 hcI hcV hbI hbV
  go_enter Tryz.func57, Tryz.ntmps57
  go_wp2_with fail
  rw [← HWR.out]
  refine c.mono ?_
  clear c
  rintro e V0 ⟨rfl, hT0, hG0⟩
  obtain ⟨W1, hW1, hb1, HZ1, hU1⟩ := box1 V0 (.cells #[.string (strB x0), .int .i64 0, .int .i64 0, .int .i64 0, .bool false, .slice none 0 0, .slice none 0 0] 58)
  have HW1 : Hid (W1 = V0.alloc (.cells #[.string (strB x0), .int .i64 0, .int .i64 0, .int .i64 0, .bool false, .slice none 0 0, .slice none 0 0] 58)) := hW1
  have HRV : Hid (w.heap.size < V0.heap.size) := Nat.lt_of_lt_of_le (heap_lt HRB.out) hG0.size
  have B1 : Hid (UBx w W1 p bs a1 r1 V0.heap.size 58 #[.string ⟨#[]⟩, .int .i64 0, .int .i64 0, .int .i64 0, .bool false, .slice none 0 0, .slice none 0 0] #[.string (strB x0), .int .i64 0, .int .i64 0, .int .i64 0, .bool false, .slice none 0 0, .slice none 0 0]) := by
    have hp := HPL.out
    refine ⟨hT0.kept (hb1.block p (heap_lt hT0.blk)), hU1, ?_, tkg_trans HGR.out (tkg_trans hG0 (tkg_below p hb1)), by omega, heap_lt hT0.blk, HRV.out⟩
    rw [hb1.block _ HRV.out, hG0.block _ (heap_lt HRB.out) (by simp; omega)]
    exact HRB.out
  clear hT0 hG0 hW1 hb1 HZ1 hU1
  have c := tkNum p bs a1 r1 W1 B1.out.rd
  rw [HX1.out] at c
  simp only at c
  go_wp2_with fail
  rw [← HW1.out]
  refine c.mono ?_
  clear c
  rintro e V1 ⟨rfl, hr1, hg1⟩
  have A1 : Hid (UBx w V1 p bs a2 r2 V0.heap.size 58 #[.string ⟨#[]⟩, .int .i64 0, .int .i64 0, .int .i64 0, .bool false, .slice none 0 0, .slice none 0 0] #[.string (strB x0), .int .i64 0, .int .i64 0, .int .i64 0, .bool false, .slice none 0 0, .slice none 0 0]) := B1.out.call hr1 hg1
  obtain ⟨W2, hW⟩ : ∃ W, W = V1.setCell ⟨V0.heap.size, 1, none⟩ (.int .i64 x1) := ⟨_, rfl⟩
  have HW2 : Hid (W2 = V1.setCell ⟨V0.heap.size, 1, none⟩ (.int .i64 x1)) := hW
  have B2 : Hid (UBx w W2 p bs a2 r2 V0.heap.size 58 #[.string ⟨#[]⟩, .int .i64 0, .int .i64 0, .int .i64 0, .bool false, .slice none 0 0, .slice none 0 0] #[.string (strB x0), .int .i64 x1, .int .i64 0, .int .i64 0, .bool false, .slice none 0 0, .slice none 0 0]) := by rw [hW]; exact A1.out.store 1 _
  obtain ⟨q0, q1, q2, q3, q4, q5, q6⟩ := cells7 A1.out.X
  have fz := cfrozen A1.out.X 1
  have hul : V0.heap.size < V1.heap.size := heap_lt A1.out.X
  clear hr1 hg1 hW
  have c := tkNum p bs a2 r2 W2 B2.out.rd
  rw [HX2.out] at c
  simp only at c
  go_wp2_with fail
  rw [← HW2.out]
  refine c.mono ?_
  clear c
  rintro e V2 ⟨rfl, hr1, hg1⟩
  have A2 : Hid (UBx w V2 p bs a3 r3 V0.heap.size 58 #[.string ⟨#[]⟩, .int .i64 0, .int .i64 0, .int .i64 0, .bool false, .slice none 0 0, .slice none 0 0] #[.string (strB x0), .int .i64 x1, .int .i64 0, .int .i64 0, .bool false, .slice none 0 0, .slice none 0 0]) := B2.out.call hr1 hg1
  obtain ⟨W3, hW⟩ : ∃ W, W = V2.setCell ⟨V0.heap.size, 2, none⟩ (.int .i64 x2) := ⟨_, rfl⟩
  have HW3 : Hid (W3 = V2.setCell ⟨V0.heap.size, 2, none⟩ (.int .i64 x2)) := hW
  have B3 : Hid (UBx w W3 p bs a3 r3 V0.heap.size 58 #[.string ⟨#[]⟩, .int .i64 0, .int .i64 0, .int .i64 0, .bool false, .slice none 0 0, .slice none 0 0] #[.string (strB x0), .int .i64 x1, .int .i64 x2, .int .i64 0, .bool false, .slice none 0 0, .slice none 0 0]) := by rw [hW]; exact A2.out.store 2 _
  obtain ⟨q0, q1, q2, q3, q4, q5, q6⟩ := cells7 A2.out.X
  have fz := cfrozen A2.out.X 2
  have hul : V0.heap.size < V2.heap.size := heap_lt A2.out.X
  clear hr1 hg1 hW
  have c := tkNum p bs a3 r3 W3 B3.out.rd
  rw [HX3.out] at c
  simp only at c
  go_wp2_with fail
  rw [← HW3.out]
  refine c.mono ?_
  clear c
  rintro e V3 ⟨rfl, hr1, hg1⟩
  have A3 : Hid (UBx w V3 p bs a4 r4 V0.heap.size 58 #[.string ⟨#[]⟩, .int .i64 0, .int .i64 0, .int .i64 0, .bool false, .slice none 0 0, .slice none 0 0] #[.string (strB x0), .int .i64 x1, .int .i64 x2, .int .i64 0, .bool false, .slice none 0 0, .slice none 0 0]) := B3.out.call hr1 hg1
  obtain ⟨W4, hW⟩ : ∃ W, W = V3.setCell ⟨V0.heap.size, 3, none⟩ (.int .i64 x3) := ⟨_, rfl⟩
  have HW4 : Hid (W4 = V3.setCell ⟨V0.heap.size, 3, none⟩ (.int .i64 x3)) := hW
  have B4 : Hid (UBx w W4 p bs a4 r4 V0.heap.size 58 #[.string ⟨#[]⟩, .int .i64 0, .int .i64 0, .int .i64 0, .bool false, .slice none 0 0, .slice none 0 0] #[.string (strB x0), .int .i64 x1, .int .i64 x2, .int .i64 x3, .bool false, .slice none 0 0, .slice none 0 0]) := by rw [hW]; exact A3.out.store 3 _
  obtain ⟨q0, q1, q2, q3, q4, q5, q6⟩ := cells7 A3.out.X
  have fz := cfrozen A3.out.X 3
  have hul : V0.heap.size < V3.heap.size := heap_lt A3.out.X
  clear hr1 hg1 hW
  have c := tkTruth p bs a4 r4 W4 B4.out.rd
  rw [HX4.out] at c
  simp only at c
  go_wp2_with fail
  rw [← HW4.out]
  refine c.mono ?_
  clear c
  rintro e V4 ⟨rfl, hr1, hg1⟩
  have A4 : Hid (UBx w V4 p bs a5 r5 V0.heap.size 58 #[.string ⟨#[]⟩, .int .i64 0, .int .i64 0, .int .i64 0, .bool false, .slice none 0 0, .slice none 0 0] #[.string (strB x0), .int .i64 x1, .int .i64 x2, .int .i64 x3, .bool false, .slice none 0 0, .slice none 0 0]) := B4.out.call hr1 hg1
  obtain ⟨W5, hW⟩ : ∃ W, W = V4.setCell ⟨V0.heap.size, 4, none⟩ (.bool x4) := ⟨_, rfl⟩
  have HW5 : Hid (W5 = V4.setCell ⟨V0.heap.size, 4, none⟩ (.bool x4)) := hW
  have B5 : Hid (UBx w W5 p bs a5 r5 V0.heap.size 58 #[.string ⟨#[]⟩, .int .i64 0, .int .i64 0, .int .i64 0, .bool false, .slice none 0 0, .slice none 0 0] #[.string (strB x0), .int .i64 x1, .int .i64 x2, .int .i64 x3, .bool x4, .slice none 0 0, .slice none 0 0]) := by rw [hW]; exact A4.out.store 4 _
  obtain ⟨q0, q1, q2, q3, q4, q5, q6⟩ := cells7 A4.out.X
  have fz := cfrozen A4.out.X 4
  have hul : V0.heap.size < V4.heap.size := heap_lt A4.out.X
  clear hr1 hg1 hW
  have c := tkCount p bs a5 r5 W5 B5.out.rd
  rw [HCI.out] at c
  simp only at c
  go_wp2_with fail
  rw [← HW5.out]
  refine c.mono ?_
  clear c q0 q1 q2 q3 q4 q5 q6 fz hul
  rintro e V5 ⟨rfl, hr1, hg1⟩
  have B6 : Hid (UBx w V5 p bs aI rI' V0.heap.size 58 #[.string ⟨#[]⟩, .int .i64 0, .int .i64 0, .int .i64 0, .bool false, .slice none 0 0, .slice none 0 0] #[.string (strB x0), .int .i64 x1, .int .i64 x2, .int .i64 x3, .bool x4, .slice none 0 0, .slice none 0 0]) := B5.out.call hr1 hg1
  have HUN : Hid (V0.heap.size < V5.heap.size) := heap_lt B6.out.X
  clear hr1 hg1
  go_wp2
  go_loopw [5] (fun vi wr => ∃ (i : Nat) (l : List In7) (css : List (List Value)) (a' r' : Nat) (b n c : _), vi = .int .i64 (i : Int) ∧ LoopX (rIns bs) nI aI rI' i l a' r' ∧ UBx w wr p bs a' r' V0.heap.size 58 #[.string ⟨#[]⟩, .int .i64 0, .int .i64 0, .int .i64 0, .bool false, .slice none 0 0, .slice none 0 0] #[.string (strB x0), .int .i64 x1, .int .i64 x2, .int .i64 x3, .bool x4, .slice b n c, .slice none 0 0] ∧ RowX coIns 2 V5.heap.size 62 (.slice b n c) wr l css) (fun vi _ => nI - (intOf vi).toNat)
  case atStart => exact ⟨0, [], [], aI, rI', none, 0, 0, rfl, LoopX.start _ _ _ _, B6.out, RowX.start (Nat.le_refl _)⟩
  case round =>
    obtain ⟨i, l, css, a', r', b5, n5, c5, rfl, hL, hB, hX⟩ := hrel
    have HL : Hid (LoopX (rIns bs) nI aI rI' i l a' r') := hL
    have HB : Hid (UBx w wr p bs a' r' V0.heap.size 58 #[.string ⟨#[]⟩, .int .i64 0, .int .i64 0, .int .i64 0, .bool false, .slice none 0 0, .slice none 0 0] #[.string (strB x0), .int .i64 x1, .int .i64 x2, .int .i64 x3, .bool x4, .slice b5 n5 c5, .slice none 0 0]) := hB
    have HX : Hid (RowX coIns 2 V5.heap.size 62 (.slice b5 n5 c5) wr l css) := hX
    have hle := hL.le
    have hfew := hL.few
    by_cases hgo : i < nI ∧ r' = 0
    · obtain ⟨hi, rfl⟩ := hgo
      have hi2 : (i : Int) < nI := by omega
      have cw := tkWell p bs a' 0 wr hB.rd
      rw [decide_eq_true rfl] at cw
      have c1 := tkNum p bs a' 0 wr hB.rd
      have HNX := hL.next hi
      obtain ⟨y0, e1, s1, hy0⟩ : ∃ x ya yr, rI bs a' 0 = (x, ya, yr) := ⟨_, _, _, rfl⟩
      obtain ⟨y1, e2, s2, hy1⟩ : ∃ x ya yr, rI bs e1 s1 = (x, ya, yr) := ⟨_, _, _, rfl⟩
      have HY1 : Hid (rI bs e1 s1 = (y1, e2, s2)) := hy1
      have hri : rIns bs a' 0 = (⟨y0, y1⟩, e2, s2) := by simp only [rIns, hy0, hy1]
      rw [hri] at HNX
      rw [hy0] at c1
      simp only at c1 HNX
      have HNXT : Hid (LoopX (rIns bs) nI aI rI' (i + 1) (l ++ [⟨y0, y1⟩]) e2 s2) := HNX
      have HFW : Hid (l.length ≤ 1048576) := by have := HNI.out; show _ ≤ _; omega
      clear hL hB hX hle hfew HNX hy0 hy1 hri
      go_wp2_with fail
      refine cw.mono ?_
      clear cw
      rintro e w2 ⟨rfl, rfl⟩
      go_wp2_with fail
      refine c1.mono ?_
      clear c1
      rintro e w3 ⟨rfl, hT3, hG3⟩
      have HB3 : Hid (UBx w w3 p bs e1 s1 V0.heap.size 58 #[.string ⟨#[]⟩, .int .i64 0, .int .i64 0, .int .i64 0, .bool false, .slice none 0 0, .slice none 0 0] #[.string (strB x0), .int .i64 x1, .int .i64 x2, .int .i64 x3, .bool x4, .slice b5 n5 c5, .slice none 0 0]) := HB.out.call hT3 hG3
      have HX3 : Hid (RowX coIns 2 V5.heap.size 62 (.slice b5 n5 c5) w3 l css) := HX.out.keep lawIns hG3.size fun q hq hlt => hG3.block q hlt (by have := HPL.out; have := HUN.out; have := HRV.out; simp; omega)
      clear hT3 hG3
      haveI hne : Nonempty (ClsP (fun _ => True)) := ⟨⟨w3, trivial⟩⟩
      have HTd : Hid (TkAt w3.drew p bs e1 s1) := HB3.out.rd.kept rfl
      have q5 : w3.drew.cell? ⟨V0.heap.size, 5, none⟩ = some (.slice b5 n5 c5) := (cells7 HB3.out.X).2.2.2.2.2.1
      have HC2 : Hid (Calls Tryz.prog 58 #[.pointer (some ⟨p, 0, none⟩)] w3.drew fun e w' => e = .returned (.int .i64 y1) ∧ TkAt w' p bs e2 s2 ∧ w3.drew.grownBy w' (some p)) := by
        have c2 := tkNum p bs e1 s1 w3.drew HTd.out
        rw [HY1.out] at c2
        exact c2
      go_upto_region 11 with fail
      refine mix_begin (n := 10) (S := fun w' => ∃ c' : ClsP (fun _ => True), w' = c'.1) (by kernel_rfl) rfl rfl ?_
      refine mix_seg (fuel := 7) (fuel' := 10) (idx := [0, 2, 3]) (by decide +kernel) rfl rfl rfl (fun _ _ _ _ _ h => h) ⟨⟨w3.drew, trivial⟩, rfl⟩ ?_
      show wpQuiet _ _ _ _ [_, _, _] _
      iterate 3 (go_big_quiet_step (fail))
      refine wpQuiet_nil ?_
      refine cmix_two (fuel := 6) (fuel' := 7) (i := 1) (k := 4) rfl rfl (by decide +kernel) rfl rfl rfl (by rfl) (by rfl) ?_ ?_
      · intro K hK
        go_simp
        refine hK.out _ _ ⟨⟨w3.drew, trivial⟩, rfl⟩ ?_
        clear hK K
        refine mix_loud (fuel := 5) (fuel' := 6) (i := 4) rfl (by decide +kernel) rfl rfl (by rfl) ?_
        intro K hK
        go_simp
        refine HC2.out.mono ?_
        rintro e z1 ⟨rfl, hT4, hG4⟩
        have hG4' : w3.grownBy z1 (some p) := ⟨hG4.os, hG4.tape, hG4.output, hG4.size, hG4.block⟩
        have HBz : Hid (UBx w z1 p bs e2 s2 V0.heap.size 58 #[.string ⟨#[]⟩, .int .i64 0, .int .i64 0, .int .i64 0, .bool false, .slice none 0 0, .slice none 0 0] #[.string (strB x0), .int .i64 x1, .int .i64 x2, .int .i64 x3, .bool x4, .slice b5 n5 c5, .slice none 0 0]) := HB3.out.call hT4 hG4'
        have HXz : Hid (RowX coIns 2 V5.heap.size 62 (.slice b5 n5 c5) z1 l css) := HX3.out.keep lawIns hG4'.size fun q hq hlt => hG4'.block q hlt (by have := HPL.out; have := HUN.out; have := HRV.out; simp; omega)
        clear hT4 hG4 hG4'
        (try go_simp)
        refine hK.out _ _ ⟨⟨z1, trivial⟩, rfl⟩ ?_
        clear hK K
        refine mix_seg (fuel := 4) (fuel' := 5) (idx := [5]) (by decide +kernel) rfl rfl rfl (fun _ _ _ _ _ h => h) ⟨⟨z1, trivial⟩, rfl⟩ ?_
        show wpQuiet _ _ _ _ [_] _
        iterate 1 (go_big_quiet_step (fail))
        refine wpQuiet_nil ?_
        refine mix_loud (fuel := 3) (fuel' := 4) (i := 6) rfl (by decide +kernel) rfl rfl (by rfl) ?_
        intro K hK
        go_simp
        refine hK.out _ _ ⟨⟨_, trivial⟩, rfl⟩ ?_
        clear hK K
        refine mix_law (fuel := 2) (fuel' := 3) (i := 7) rfl (by decide +kernel) rfl rfl (by rfl) ?_
        intro K hK
        refine cstep_append_at (.tmp 38) (.tmp 43) 55 rfl (by rfl) V5.heap.size 62 iI (.agg #[.int .i64 0, .int .i64 0]) 2 16 Tryz.underlying55 hinfI hzI0 hzI1 hzI2 rfl (by decide) _ _ _ rfl (HXz.out.row.alloc _) ⟨z1.heap.size, 0, none⟩ 1 1 [.int .i64 y0, .int .i64 y1] rfl rfl (rcells_new _ _ _) (by simp [Value.oneCell']) (by have := HFW.out; unfold maxLen; omega) (by have := HFW.out; omega) (by have := HXz.out.low; simp; omega) ?_
        intro v' z3 hown9 hgrow9 hloc9
        have hlk := HXz.out.lowkept (w1 := z1) rfl (Nat.le_refl _) hgrow9
        have HX9 : Hid (RowX coIns 2 V5.heap.size 62 v' z3 (l ++ [⟨y0, y1⟩]) (css ++ [[.int .i64 y0, .int .i64 y1]])) := HXz.out.snoc lawIns (w1 := z1) (Nat.le_refl _) (fun q _ _ => rfl) rfl rfl hown9 hgrow9 hloc9
        have HB9 : Hid (UBx w z3 p bs e2 s2 V0.heap.size 58 #[.string ⟨#[]⟩, .int .i64 0, .int .i64 0, .int .i64 0, .bool false, .slice none 0 0, .slice none 0 0] #[.string (strB x0), .int .i64 x1, .int .i64 x2, .int .i64 x3, .bool x4, .slice b5 n5 c5, .slice none 0 0]) := HBz.out.low HUN.out hlk hgrow9.os hgrow9.tape hgrow9.output (by have := hgrow9.size; simp at this; omega)
        obtain ⟨b9, n9, c9, rfl⟩ : ∃ b n c, v' = .slice b n c := by
          rcases HX9.out.row.2 with ⟨e, -⟩ | ⟨g, cp, cur, e, -⟩
          · exact ⟨_, _, _, e⟩
          · exact ⟨_, _, _, e⟩
        clear hown9 hgrow9 hloc9 hlk
        refine hK.out _ _ ⟨⟨z3, trivial⟩, rfl⟩ ?_
        clear hK K
        simp only [Act.put, List.setIfInBounds_toArray, List.set_cons_zero, List.set_cons_succ]
        refine mix_seg (fuel := 1) (fuel' := 2) (idx := [8]) (by decide +kernel) rfl rfl rfl (fun _ _ _ _ _ h => h) ⟨⟨z3, trivial⟩, rfl⟩ ?_
        show wpQuiet _ _ _ _ [_] _
        iterate 1 (go_big_quiet_step (fail))
        refine wpQuiet_nil ?_
        have q7 : z3.cell? ⟨V0.heap.size, 5, none⟩ = some (.slice b5 n5 c5) := (cells7 HB9.out.X).2.2.2.2.2.1
        have fz7 := cfrozen HB9.out.X 5
        refine mix_loud (fuel := 0) (fuel' := 1) (i := 9) rfl (by decide +kernel) rfl rfl (by rfl) ?_
        intro K hK
        go_simp
        refine hK.out _ _ ⟨⟨_, trivial⟩, rfl⟩ ?_
        clear hK K q7 fz7
        refine mix_done (by kernel_rfl) ?_
        have HB10 : Hid (UBx w (z3.setCell ⟨V0.heap.size, 5, none⟩ (.slice b9 n9 c9)) p bs e2 s2 V0.heap.size 58 #[.string ⟨#[]⟩, .int .i64 0, .int .i64 0, .int .i64 0, .bool false, .slice none 0 0, .slice none 0 0] #[.string (strB x0), .int .i64 x1, .int .i64 x2, .int .i64 x3, .bool x4, .slice b9 n9 c9, .slice none 0 0]) := HB9.out.store 5 _
        have HX10 : Hid (RowX coIns 2 V5.heap.size 62 (.slice b9 n9 c9) (z3.setCell ⟨V0.heap.size, 5, none⟩ (.slice b9 n9 c9)) (l ++ [⟨y0, y1⟩]) (css ++ [[.int .i64 y0, .int .i64 y1]])) := HX9.out.keep lawIns (by simp) fun q hq _ => heap_setCell_other _ _ _ _ (by have := HUN.out; simp; omega)
        go_wp2
        exact ⟨⟨i + 1, _, _, e2, s2, b9, n9, c9, by go_num, HNXT.out, HB10.out, HX10.out⟩, by simp [intOf]; omega⟩
      · intro K hK
        go_simp
        refine HC2.out.mono ?_
        rintro e z1 ⟨rfl, hT4, hG4⟩
        have hG4' : w3.grownBy z1 (some p) := ⟨hG4.os, hG4.tape, hG4.output, hG4.size, hG4.block⟩
        have HBz : Hid (UBx w z1 p bs e2 s2 V0.heap.size 58 #[.string ⟨#[]⟩, .int .i64 0, .int .i64 0, .int .i64 0, .bool false, .slice none 0 0, .slice none 0 0] #[.string (strB x0), .int .i64 x1, .int .i64 x2, .int .i64 x3, .bool x4, .slice b5 n5 c5, .slice none 0 0]) := HB3.out.call hT4 hG4'
        have HXz : Hid (RowX coIns 2 V5.heap.size 62 (.slice b5 n5 c5) z1 l css) := HX3.out.keep lawIns hG4'.size fun q hq hlt => hG4'.block q hlt (by have := HPL.out; have := HUN.out; have := HRV.out; simp; omega)
        clear hT4 hG4 hG4'
        (try go_simp)
        refine hK.out _ _ ⟨⟨z1, trivial⟩, rfl⟩ ?_
        clear hK K
        have q6 : z1.cell? ⟨V0.heap.size, 5, none⟩ = some (.slice b5 n5 c5) := (cells7 HBz.out.X).2.2.2.2.2.1
        have hul6 : V0.heap.size < z1.heap.size := heap_lt HBz.out.X
        refine mix_seg (fuel := 5) (fuel' := 6) (idx := [5]) (by decide +kernel) rfl rfl rfl (fun _ _ _ _ _ h => h) ⟨⟨z1, trivial⟩, rfl⟩ ?_
        show wpQuiet _ _ _ _ [_] _
        iterate 1 (go_big_quiet_step (fail))
        refine wpQuiet_nil ?_
        refine cmix_two (fuel := 4) (fuel' := 5) (i := 1) (k := 6) rfl rfl (by decide +kernel) rfl rfl rfl (by rfl) (by rfl) ?_ ?_
        · intro K hK
          go_simp
          refine hK.out _ _ ⟨⟨z1, trivial⟩, rfl⟩ ?_
          clear hK K q6 hul6
          refine mix_loud (fuel := 3) (fuel' := 4) (i := 6) rfl (by decide +kernel) rfl rfl (by rfl) ?_
          intro K hK
          go_simp
          refine hK.out _ _ ⟨⟨_, trivial⟩, rfl⟩ ?_
          clear hK K
          refine mix_law (fuel := 2) (fuel' := 3) (i := 7) rfl (by decide +kernel) rfl rfl (by rfl) ?_
          intro K hK
          refine cstep_append_at (.tmp 38) (.tmp 43) 55 rfl (by rfl) V5.heap.size 62 iI (.agg #[.int .i64 0, .int .i64 0]) 2 16 Tryz.underlying55 hinfI hzI0 hzI1 hzI2 rfl (by decide) _ _ _ rfl (HXz.out.row.alloc _) ⟨z1.heap.size, 0, none⟩ 1 1 [.int .i64 y0, .int .i64 y1] rfl rfl (rcells_new _ _ _) (by simp [Value.oneCell']) (by have := HFW.out; unfold maxLen; omega) (by have := HFW.out; omega) (by have := HXz.out.low; simp; omega) ?_
          intro v' z3 hown9 hgrow9 hloc9
          have hlk := HXz.out.lowkept (w1 := z1) rfl (Nat.le_refl _) hgrow9
          have HX9 : Hid (RowX coIns 2 V5.heap.size 62 v' z3 (l ++ [⟨y0, y1⟩]) (css ++ [[.int .i64 y0, .int .i64 y1]])) := HXz.out.snoc lawIns (w1 := z1) (Nat.le_refl _) (fun q _ _ => rfl) rfl rfl hown9 hgrow9 hloc9
          have HB9 : Hid (UBx w z3 p bs e2 s2 V0.heap.size 58 #[.string ⟨#[]⟩, .int .i64 0, .int .i64 0, .int .i64 0, .bool false, .slice none 0 0, .slice none 0 0] #[.string (strB x0), .int .i64 x1, .int .i64 x2, .int .i64 x3, .bool x4, .slice b5 n5 c5, .slice none 0 0]) := HBz.out.low HUN.out hlk hgrow9.os hgrow9.tape hgrow9.output (by have := hgrow9.size; simp at this; omega)
          obtain ⟨b9, n9, c9, rfl⟩ : ∃ b n c, v' = .slice b n c := by
            rcases HX9.out.row.2 with ⟨e, -⟩ | ⟨g, cp, cur, e, -⟩
            · exact ⟨_, _, _, e⟩
            · exact ⟨_, _, _, e⟩
          clear hown9 hgrow9 hloc9 hlk
          refine hK.out _ _ ⟨⟨z3, trivial⟩, rfl⟩ ?_
          clear hK K
          simp only [Act.put, List.setIfInBounds_toArray, List.set_cons_zero, List.set_cons_succ]
          refine mix_seg (fuel := 1) (fuel' := 2) (idx := [8]) (by decide +kernel) rfl rfl rfl (fun _ _ _ _ _ h => h) ⟨⟨z3, trivial⟩, rfl⟩ ?_
          show wpQuiet _ _ _ _ [_] _
          iterate 1 (go_big_quiet_step (fail))
          refine wpQuiet_nil ?_
          have q7 : z3.cell? ⟨V0.heap.size, 5, none⟩ = some (.slice b5 n5 c5) := (cells7 HB9.out.X).2.2.2.2.2.1
          have fz7 := cfrozen HB9.out.X 5
          refine mix_loud (fuel := 0) (fuel' := 1) (i := 9) rfl (by decide +kernel) rfl rfl (by rfl) ?_
          intro K hK
          go_simp
          refine hK.out _ _ ⟨⟨_, trivial⟩, rfl⟩ ?_
          clear hK K q7 fz7
          refine mix_done (by kernel_rfl) ?_
          have HB10 : Hid (UBx w (z3.setCell ⟨V0.heap.size, 5, none⟩ (.slice b9 n9 c9)) p bs e2 s2 V0.heap.size 58 #[.string ⟨#[]⟩, .int .i64 0, .int .i64 0, .int .i64 0, .bool false, .slice none 0 0, .slice none 0 0] #[.string (strB x0), .int .i64 x1, .int .i64 x2, .int .i64 x3, .bool x4, .slice b9 n9 c9, .slice none 0 0]) := HB9.out.store 5 _
          have HX10 : Hid (RowX coIns 2 V5.heap.size 62 (.slice b9 n9 c9) (z3.setCell ⟨V0.heap.size, 5, none⟩ (.slice b9 n9 c9)) (l ++ [⟨y0, y1⟩]) (css ++ [[.int .i64 y0, .int .i64 y1]])) := HX9.out.keep lawIns (by simp) fun q hq _ => heap_setCell_other _ _ _ _ (by have := HUN.out; simp; omega)
          go_wp2
          exact ⟨⟨i + 1, _, _, e2, s2, b9, n9, c9, by go_num, HNXT.out, HB10.out, HX10.out⟩, by simp [intOf]; omega⟩
        · intro K hK
          go_simp
          refine hK.out _ _ ⟨⟨_, trivial⟩, rfl⟩ ?_
          clear hK K
          refine mix_loud (fuel := 3) (fuel' := 4) (i := 1) rfl (by decide +kernel) rfl rfl (by rfl) ?_
          intro K hK
          go_simp
          refine hK.out _ _ ⟨⟨_, trivial⟩, rfl⟩ ?_
          clear hK K q6 hul6
          refine mix_law (fuel := 2) (fuel' := 3) (i := 7) rfl (by decide +kernel) rfl rfl (by rfl) ?_
          intro K hK
          refine cstep_append_at (.tmp 38) (.tmp 43) 55 rfl (by rfl) V5.heap.size 62 iI (.agg #[.int .i64 0, .int .i64 0]) 2 16 Tryz.underlying55 hinfI hzI0 hzI1 hzI2 rfl (by decide) _ _ _ rfl (HXz.out.row.alloc _) ⟨z1.heap.size, 0, none⟩ 1 1 [.int .i64 y0, .int .i64 y1] rfl rfl (rcells_new _ _ _) (by simp [Value.oneCell']) (by have := HFW.out; unfold maxLen; omega) (by have := HFW.out; omega) (by have := HXz.out.low; simp; omega) ?_
          intro v' z3 hown9 hgrow9 hloc9
          have hlk := HXz.out.lowkept (w1 := z1) rfl (Nat.le_refl _) hgrow9
          have HX9 : Hid (RowX coIns 2 V5.heap.size 62 v' z3 (l ++ [⟨y0, y1⟩]) (css ++ [[.int .i64 y0, .int .i64 y1]])) := HXz.out.snoc lawIns (w1 := z1) (Nat.le_refl _) (fun q _ _ => rfl) rfl rfl hown9 hgrow9 hloc9
          have HB9 : Hid (UBx w z3 p bs e2 s2 V0.heap.size 58 #[.string ⟨#[]⟩, .int .i64 0, .int .i64 0, .int .i64 0, .bool false, .slice none 0 0, .slice none 0 0] #[.string (strB x0), .int .i64 x1, .int .i64 x2, .int .i64 x3, .bool x4, .slice b5 n5 c5, .slice none 0 0]) := HBz.out.low HUN.out hlk hgrow9.os hgrow9.tape hgrow9.output (by have := hgrow9.size; simp at this; omega)
          obtain ⟨b9, n9, c9, rfl⟩ : ∃ b n c, v' = .slice b n c := by
            rcases HX9.out.row.2 with ⟨e, -⟩ | ⟨g, cp, cur, e, -⟩
            · exact ⟨_, _, _, e⟩
            · exact ⟨_, _, _, e⟩
          clear hown9 hgrow9 hloc9 hlk
          refine hK.out _ _ ⟨⟨z3, trivial⟩, rfl⟩ ?_
          clear hK K
          simp only [Act.put, List.setIfInBounds_toArray, List.set_cons_zero, List.set_cons_succ]
          refine mix_seg (fuel := 1) (fuel' := 2) (idx := [8]) (by decide +kernel) rfl rfl rfl (fun _ _ _ _ _ h => h) ⟨⟨z3, trivial⟩, rfl⟩ ?_
          show wpQuiet _ _ _ _ [_] _
          iterate 1 (go_big_quiet_step (fail))
          refine wpQuiet_nil ?_
          have q7 : z3.cell? ⟨V0.heap.size, 5, none⟩ = some (.slice b5 n5 c5) := (cells7 HB9.out.X).2.2.2.2.2.1
          have fz7 := cfrozen HB9.out.X 5
          refine mix_loud (fuel := 0) (fuel' := 1) (i := 9) rfl (by decide +kernel) rfl rfl (by rfl) ?_
          intro K hK
          go_simp
          refine hK.out _ _ ⟨⟨_, trivial⟩, rfl⟩ ?_
          clear hK K q7 fz7
          refine mix_done (by kernel_rfl) ?_
          have HB10 : Hid (UBx w (z3.setCell ⟨V0.heap.size, 5, none⟩ (.slice b9 n9 c9)) p bs e2 s2 V0.heap.size 58 #[.string ⟨#[]⟩, .int .i64 0, .int .i64 0, .int .i64 0, .bool false, .slice none 0 0, .slice none 0 0] #[.string (strB x0), .int .i64 x1, .int .i64 x2, .int .i64 x3, .bool x4, .slice b9 n9 c9, .slice none 0 0]) := HB9.out.store 5 _
          have HX10 : Hid (RowX coIns 2 V5.heap.size 62 (.slice b9 n9 c9) (z3.setCell ⟨V0.heap.size, 5, none⟩ (.slice b9 n9 c9)) (l ++ [⟨y0, y1⟩]) (css ++ [[.int .i64 y0, .int .i64 y1]])) := HX9.out.keep lawIns (by simp) fun q hq _ => heap_setCell_other _ _ _ _ (by have := HUN.out; simp; omega)
          go_wp2
          exact ⟨⟨i + 1, _, _, e2, s2, b9, n9, c9, by go_num, HNXT.out, HB10.out, HX10.out⟩, by simp [intOf]; omega⟩
    · have hend : loopR (rIns bs) nI aI rI' = (l, a', r') := by
        by_cases hi : i < nI
        · exact hL.bad fun e => hgo ⟨hi, e⟩
        · obtain rfl : i = nI := by omega
          exact hL.last
      have h9 := HX5.out
      rw [hend] at h9
      obtain ⟨rfl, h10⟩ := Prod.mk.inj h9
      obtain ⟨rfl, rfl⟩ := Prod.mk.inj h10
      have HIN : Hid (insIn (fun b => V5.heap.size ≤ b) wr (.slice b5 n5 c5) l) := hX.rowIn lawIns (E := insE) fun x cs b o hco hcs => by
        have e : cs = [.int .i64 x.op, .int .i64 x.a] := hco
        subst e
        exact ⟨hcs 0 (by simp), hcs 1 (by simp)⟩
      have HN5 : Hid (V5.heap.size ≤ wr.heap.size) := hX.low
      have cc := tkCount p bs a' r' wr hB.rd
      rw [HCV.out] at cc
      simp only at cc
      have hexit : ∃ WE, WE = wr := ⟨_, rfl⟩
      clear hL hB hX hend h9 h10 hexit HX5 hfew
      by_cases hi : i < nI
      · have hi2 : (i : Int) < nI := by omega
        have cw := tkWell p bs a' r' wr HB.out.rd
        have hr : r' ≠ 0 := fun e => hgo ⟨hi, e⟩
        rw [decide_eq_false hr] at cw
        clear hgo hr
        go_wp2_with fail
        refine cw.mono ?_
        clear cw
        rintro e w2 ⟨rfl, rfl⟩
        go_wp2_with fail
        refine cc.mono ?_
        clear cc
        rintro e V6 ⟨rfl, hr1, hg1⟩
        have C6 : Hid (UBx w V6 p bs aV rV' V0.heap.size 58 #[.string ⟨#[]⟩, .int .i64 0, .int .i64 0, .int .i64 0, .bool false, .slice none 0 0, .slice none 0 0] #[.string (strB x0), .int .i64 x1, .int .i64 x2, .int .i64 x3, .bool x4, .slice b5 n5 c5, .slice none 0 0]) := HB.out.call hr1 hg1
        have HIN6 : Hid (insIn (fun b => V5.heap.size ≤ b) V6 (.slice b5 n5 c5) l) := rowIn.kept HIN.out (insE_keeps _) hg1.size fun q hq hlt => hg1.block q hlt (by have := HPL.out; have := HUN.out; have := HRV.out; simp; omega)
        have HU6 : Hid (V5.heap.size ≤ V6.heap.size) := Nat.le_trans HN5.out hg1.size
        clear hr1 hg1 HB HX HL
        go_wp2
        go_loopw [7] (fun vi wr => ∃ (i : Nat) (m : List Vr) (css : List (List Value)) (a' r' : Nat) (b n c : _), vi = .int .i64 (i : Int) ∧ LoopX (rVar bs) nV aV rV' i m a' r' ∧ UBx w wr p bs a' r' V0.heap.size 58 #[.string ⟨#[]⟩, .int .i64 0, .int .i64 0, .int .i64 0, .bool false, .slice none 0 0, .slice none 0 0] #[.string (strB x0), .int .i64 x1, .int .i64 x2, .int .i64 x3, .bool x4, .slice b5 n5 c5, .slice b n c] ∧ RowX coVar 4 V6.heap.size 121 (.slice b n c) wr m css ∧ Hid (∀ q, V5.heap.size ≤ q → q < V6.heap.size → wr.heap[q]? = V6.heap[q]?)) (fun vi _ => nV - (intOf vi).toNat)
        case atStart => exact ⟨0, [], [], aV, rV', none, 0, 0, rfl, LoopX.start _ _ _ _, C6.out, RowX.start (Nat.le_refl _), fun q _ _ => rfl⟩
        case round =>
          obtain ⟨i2, m, css2, f', t', b6, n6, c6, rfl, hL, hB, hX, HMID⟩ := hrel
          have HL : Hid (LoopX (rVar bs) nV aV rV' i2 m f' t') := hL
          have HB : Hid (UBx w wr p bs f' t' V0.heap.size 58 #[.string ⟨#[]⟩, .int .i64 0, .int .i64 0, .int .i64 0, .bool false, .slice none 0 0, .slice none 0 0] #[.string (strB x0), .int .i64 x1, .int .i64 x2, .int .i64 x3, .bool x4, .slice b5 n5 c5, .slice b6 n6 c6]) := hB
          have HX : Hid (RowX coVar 4 V6.heap.size 121 (.slice b6 n6 c6) wr m css2) := hX
          have hle := hL.le
          have hfew := hL.few
          by_cases hgo : i2 < nV ∧ t' = 0
          · obtain ⟨hi3, rfl⟩ := hgo
            have hi4 : (i2 : Int) < nV := by omega
            have cw := tkWell p bs f' 0 wr hB.rd
            rw [decide_eq_true rfl] at cw
            have c1 := tkText p bs f' 0 wr hB.rd
            have HNX := hL.next hi3
            obtain ⟨y0, e1, s1, hy0⟩ : ∃ x ya yr, rT bs f' 0 = (x, ya, yr) := ⟨_, _, _, rfl⟩
            obtain ⟨y1, e2, s2, hy1⟩ : ∃ x ya yr, rI bs e1 s1 = (x, ya, yr) := ⟨_, _, _, rfl⟩
            obtain ⟨y2, e3, s3, hy2⟩ : ∃ x ya yr, rI bs e2 s2 = (x, ya, yr) := ⟨_, _, _, rfl⟩
            obtain ⟨y3, e4, s4, hy3⟩ : ∃ x ya yr, rI bs e3 s3 = (x, ya, yr) := ⟨_, _, _, rfl⟩
            have HY1 : Hid (rI bs e1 s1 = (y1, e2, s2)) := hy1
            have HY2 : Hid (rI bs e2 s2 = (y2, e3, s3)) := hy2
            have HY3 : Hid (rI bs e3 s3 = (y3, e4, s4)) := hy3
            have hri : rVar bs f' 0 = (⟨y0, y1, y2, y3⟩, e4, s4) := by simp only [rVar, hy0, hy1, hy2, hy3]
            rw [hri] at HNX
            rw [hy0] at c1
            simp only at c1 HNX
            have HNXT : Hid (LoopX (rVar bs) nV aV rV' (i2 + 1) (m ++ [⟨y0, y1, y2, y3⟩]) e4 s4) := HNX
            have HFW : Hid (m.length ≤ 1048576) := by have := HNI.out; show _ ≤ _; omega
            have HWL : Hid (V6.heap.size ≤ wr.heap.size) := hX.low
            clear hL hB hX hle hfew HNX hy0 hy1 hy2 hy3 hri
            go_wp2_with fail
            refine cw.mono ?_
            clear cw
            rintro e w2 ⟨rfl, rfl⟩
            go_wp2_with fail
            refine c1.mono ?_
            clear c1
            rintro e w3 ⟨rfl, hT3, hG3⟩
            obtain ⟨Y1, hY, hb4, HZ4, hV4⟩ := box1 w3 (.cells #[.string (strB y0), .int .i64 0, .int .i64 0, .int .i64 0] 121)
            have HYW1 : Hid (Y1 = w3.alloc (.cells #[.string (strB y0), .int .i64 0, .int .i64 0, .int .i64 0] 121)) := hY
            have D1 : Hid (VJx w Y1 p bs e1 s1 V0.heap.size 58 #[.string ⟨#[]⟩, .int .i64 0, .int .i64 0, .int .i64 0, .bool false, .slice none 0 0, .slice none 0 0] #[.string (strB x0), .int .i64 x1, .int .i64 x2, .int .i64 x3, .bool x4, .slice b5 n5 c5, .slice b6 n6 c6] V5.heap.size wr w3.heap.size #[.string (strB y0), .int .i64 0, .int .i64 0, .int .i64 0]) := by
              have h1 := HB.out.call hT3 hG3
              exact ⟨h1.below hb4, hV4, fun q hq hlt => (hb4.block q (Nat.lt_of_lt_of_le hlt hG3.size)).trans (hG3.block q hlt (by have := HPL.out; have := HUN.out; have := HRV.out; simp; omega)), hG3.size, HUN.out⟩
            clear hT3 hG3 hY hb4 HZ4 hV4
            have c := tkNum p bs e1 s1 Y1 D1.out.B.rd
            rw [HY1.out] at c
            simp only at c
            go_wp2_with fail
            rw [← HYW1.out]
            refine c.mono ?_
            clear c
            rintro e Z1 ⟨rfl, hr1, hg1⟩
            have F1 : Hid (VJx w Z1 p bs e2 s2 V0.heap.size 58 #[.string ⟨#[]⟩, .int .i64 0, .int .i64 0, .int .i64 0, .bool false, .slice none 0 0, .slice none 0 0] #[.string (strB x0), .int .i64 x1, .int .i64 x2, .int .i64 x3, .bool x4, .slice b5 n5 c5, .slice b6 n6 c6] V5.heap.size wr w3.heap.size #[.string (strB y0), .int .i64 0, .int .i64 0, .int .i64 0]) := D1.out.call hr1 hg1 (by have := HU6.out; have := HWL.out; omega)
            obtain ⟨Y2, hY⟩ : ∃ W, W = Z1.setCell ⟨w3.heap.size, 1, none⟩ (.int .i64 y1) := ⟨_, rfl⟩
            have HYW2 : Hid (Y2 = Z1.setCell ⟨w3.heap.size, 1, none⟩ (.int .i64 y1)) := hY
            have D2 : Hid (VJx w Y2 p bs e2 s2 V0.heap.size 58 #[.string ⟨#[]⟩, .int .i64 0, .int .i64 0, .int .i64 0, .bool false, .slice none 0 0, .slice none 0 0] #[.string (strB x0), .int .i64 x1, .int .i64 x2, .int .i64 x3, .bool x4, .slice b5 n5 c5, .slice b6 n6 c6] V5.heap.size wr w3.heap.size #[.string (strB y0), .int .i64 y1, .int .i64 0, .int .i64 0]) := by rw [hY]; exact F1.out.store 1 _ (by have := HU6.out; have := HWL.out; omega)
            obtain ⟨p0, p1, p2, p3⟩ := bcells4 F1.out.VX
            have fz := cfrozen F1.out.VX 1
            clear hr1 hg1 hY
            have c := tkNum p bs e2 s2 Y2 D2.out.B.rd
            rw [HY2.out] at c
            simp only at c
            go_wp2_with fail
            rw [← HYW2.out]
            refine c.mono ?_
            clear c
            rintro e Z2 ⟨rfl, hr1, hg1⟩
            have F2 : Hid (VJx w Z2 p bs e3 s3 V0.heap.size 58 #[.string ⟨#[]⟩, .int .i64 0, .int .i64 0, .int .i64 0, .bool false, .slice none 0 0, .slice none 0 0] #[.string (strB x0), .int .i64 x1, .int .i64 x2, .int .i64 x3, .bool x4, .slice b5 n5 c5, .slice b6 n6 c6] V5.heap.size wr w3.heap.size #[.string (strB y0), .int .i64 y1, .int .i64 0, .int .i64 0]) := D2.out.call hr1 hg1 (by have := HU6.out; have := HWL.out; omega)
            obtain ⟨Y3, hY⟩ : ∃ W, W = Z2.setCell ⟨w3.heap.size, 2, none⟩ (.int .i64 y2) := ⟨_, rfl⟩
            have HYW3 : Hid (Y3 = Z2.setCell ⟨w3.heap.size, 2, none⟩ (.int .i64 y2)) := hY
            have D3 : Hid (VJx w Y3 p bs e3 s3 V0.heap.size 58 #[.string ⟨#[]⟩, .int .i64 0, .int .i64 0, .int .i64 0, .bool false, .slice none 0 0, .slice none 0 0] #[.string (strB x0), .int .i64 x1, .int .i64 x2, .int .i64 x3, .bool x4, .slice b5 n5 c5, .slice b6 n6 c6] V5.heap.size wr w3.heap.size #[.string (strB y0), .int .i64 y1, .int .i64 y2, .int .i64 0]) := by rw [hY]; exact F2.out.store 2 _ (by have := HU6.out; have := HWL.out; omega)
            obtain ⟨p0, p1, p2, p3⟩ := bcells4 F2.out.VX
            have fz := cfrozen F2.out.VX 2
            clear hr1 hg1 hY
            have c := tkNum p bs e3 s3 Y3 D3.out.B.rd
            rw [HY3.out] at c
            simp only at c
            go_wp2_with fail
            rw [← HYW3.out]
            refine c.mono ?_
            clear c
            rintro e Z3 ⟨rfl, hr1, hg1⟩
            have F3 : Hid (VJx w Z3 p bs e4 s4 V0.heap.size 58 #[.string ⟨#[]⟩, .int .i64 0, .int .i64 0, .int .i64 0, .bool false, .slice none 0 0, .slice none 0 0] #[.string (strB x0), .int .i64 x1, .int .i64 x2, .int .i64 x3, .bool x4, .slice b5 n5 c5, .slice b6 n6 c6] V5.heap.size wr w3.heap.size #[.string (strB y0), .int .i64 y1, .int .i64 y2, .int .i64 0]) := D3.out.call hr1 hg1 (by have := HU6.out; have := HWL.out; omega)
            obtain ⟨Y4, hY⟩ : ∃ W, W = Z3.setCell ⟨w3.heap.size, 3, none⟩ (.int .i64 y3) := ⟨_, rfl⟩
            have HYW4 : Hid (Y4 = Z3.setCell ⟨w3.heap.size, 3, none⟩ (.int .i64 y3)) := hY
            have D4 : Hid (VJx w Y4 p bs e4 s4 V0.heap.size 58 #[.string ⟨#[]⟩, .int .i64 0, .int .i64 0, .int .i64 0, .bool false, .slice none 0 0, .slice none 0 0] #[.string (strB x0), .int .i64 x1, .int .i64 x2, .int .i64 x3, .bool x4, .slice b5 n5 c5, .slice b6 n6 c6] V5.heap.size wr w3.heap.size #[.string (strB y0), .int .i64 y1, .int .i64 y2, .int .i64 y3]) := by rw [hY]; exact F3.out.store 3 _ (by have := HU6.out; have := HWL.out; omega)
            obtain ⟨p0, p1, p2, p3⟩ := bcells4 F3.out.VX
            have fz := cfrozen F3.out.VX 3
            clear hr1 hg1 hY
            obtain ⟨q0, q1, q2, q3⟩ := bcells4 D4.out.VX
            have q6 : Y4.cell? ⟨V0.heap.size, 6, none⟩ = some (.slice b6 n6 c6) := (cells7 D4.out.B.X).2.2.2.2.2.2
            have hul : V0.heap.size < Y4.heap.size := heap_lt D4.out.B.X
            have hvl : w3.heap.size < Y4.heap.size := heap_lt D4.out.VX
            have HX4 : Hid (RowX coVar 4 V6.heap.size 121 (.slice b6 n6 c6) Y4 m css2) := HX.out.keep lawVar (Nat.le_trans D4.out.hs (Nat.le_of_lt hvl)) fun q hq hlt => D4.out.K q (by have := HU6.out; omega) hlt
            go_upto_region 20 with fail
            rw [← HYW4.out]
            clear fz p0 p1 p2 p3
            go_wp2_with (first
              | (at_builtin; refine wpList_append_own_at _ rfl _ _ 56 rfl V6.heap.size 121 iV (.agg #[.string ⟨#[]⟩, .int .i64 0, .int .i64 0, .int .i64 0]) 4 40 Tryz.underlying56 hinfV hzV0 hzV1 hzV2 rfl (by decide) _ _ _ rfl (HX4.out.row.alloc _) ⟨Y4.heap.size, 0, none⟩ 1 1 [.string (strB y0), .int .i64 y1, .int .i64 y2, .int .i64 y3] rfl rfl (rcells_new _ _ _) (by simp [Value.oneCell']) (by have := HFW.out; unfold maxLen; omega) (by have := HFW.out; omega) (by have := HX4.out.low; simp; omega) ?_; intro v' w9 hown9 hgrow9 hnil9 hloc9; have hlk := HX4.out.lowkept (w1 := Y4) rfl (Nat.le_refl _) hgrow9; have HX9 : Hid (RowX coVar 4 V6.heap.size 121 v' w9 (m ++ [⟨y0, y1, y2, y3⟩]) (css2 ++ [[.string (strB y0), .int .i64 y1, .int .i64 y2, .int .i64 y3]])) := HX4.out.snoc lawVar (w1 := Y4) (Nat.le_refl _) (fun q _ _ => rfl) rfl rfl hown9 hgrow9 hloc9; have HB9 : Hid (UBx w w9 p bs e4 s4 V0.heap.size 58 #[.string ⟨#[]⟩, .int .i64 0, .int .i64 0, .int .i64 0, .bool false, .slice none 0 0, .slice none 0 0] #[.string (strB x0), .int .i64 x1, .int .i64 x2, .int .i64 x3, .bool x4, .slice b5 n5 c5, .slice b6 n6 c6]) := D4.out.B.low (by have := HU6.out; have := HUN.out; omega : V0.heap.size < V6.heap.size) hlk hgrow9.os hgrow9.tape hgrow9.output (by have := hgrow9.size; simp at this; omega); have HMID9 : Hid (∀ q, V5.heap.size ≤ q → q < V6.heap.size → w9.heap[q]? = V6.heap[q]?) := (fun q h1 h2 => (hlk q h2).trans ((D4.out.K q h1 (by have := HWL.out; omega)).trans (HMID.out q h1 h2))); obtain ⟨b9, n9, c9, rfl⟩ : ∃ b n c, v' = .slice b n c := (by rcases HX9.out.row.2 with ⟨e, -⟩ | ⟨g, cp, cur, e, -⟩; exact ⟨_, _, _, e⟩; exact ⟨_, _, _, e⟩); have q7 : w9.cell? ⟨V0.heap.size, 6, none⟩ = some (.slice b6 n6 c6) := (cells7 HB9.out.X).2.2.2.2.2.2; have fz7 := cfrozen HB9.out.X 6; clear hown9 hgrow9 hnil9 hloc9 hlk q0 q1 q2 q3 q6 hul hvl)
              | go_in)
            have HB10 : Hid (UBx w (w9.setCell ⟨V0.heap.size, 6, none⟩ (.slice b9 n9 c9)) p bs e4 s4 V0.heap.size 58 #[.string ⟨#[]⟩, .int .i64 0, .int .i64 0, .int .i64 0, .bool false, .slice none 0 0, .slice none 0 0] #[.string (strB x0), .int .i64 x1, .int .i64 x2, .int .i64 x3, .bool x4, .slice b5 n5 c5, .slice b9 n9 c9]) := HB9.out.store 6 _
            have HX10 : Hid (RowX coVar 4 V6.heap.size 121 (.slice b9 n9 c9) (w9.setCell ⟨V0.heap.size, 6, none⟩ (.slice b9 n9 c9)) (m ++ [⟨y0, y1, y2, y3⟩]) (css2 ++ [[.string (strB y0), .int .i64 y1, .int .i64 y2, .int .i64 y3]])) := HX9.out.keep lawVar (by simp) fun q hq _ => heap_setCell_other _ _ _ _ (by have := HUN.out; have := HU6.out; simp; omega)
            have HMID10 : Hid (∀ q, V5.heap.size ≤ q → q < V6.heap.size → (w9.setCell ⟨V0.heap.size, 6, none⟩ (.slice b9 n9 c9)).heap[q]? = V6.heap[q]?) := fun q h1 h2 => (heap_setCell_other _ _ _ _ (by have := HUN.out; simp; omega)).trans (HMID9.out q h1 h2)
            exact ⟨⟨i2 + 1, _, _, e4, s4, b9, n9, c9, by go_num, HNXT.out, HB10.out, HX10.out, HMID10⟩, by simp [intOf]; omega⟩
          · have hend : loopR (rVar bs) nV aV rV' = (m, f', t') := by
              by_cases hi : i2 < nV
              · exact hL.bad fun e => hgo ⟨hi, e⟩
              · obtain rfl : i2 = nV := by omega
                exact hL.last
            have h9 := HX6.out
            rw [hend] at h9
            obtain ⟨rfl, h10⟩ := Prod.mk.inj h9
            obtain ⟨rfl, rfl⟩ := Prod.mk.inj h10
            have HVN : Hid (varsIn (fun b => V6.heap.size ≤ b) wr (.slice b6 n6 c6) m) := hX.rowIn lawVar (E := varE) fun x cs b o hco hcs => by
              have e : cs = [.string (strB x.name), .int .i64 x.slot, .int .i64 x.lo, .int .i64 x.hi] := hco
              subst e
              exact ⟨hcs 0 (by simp), hcs 1 (by simp), hcs 2 (by simp), hcs 3 (by simp)⟩
            have HLW : Hid (V6.heap.size ≤ wr.heap.size) := hX.low
            obtain ⟨q0, q1, q2, q3, q4, q5, q6⟩ := cells7 hB.X
            obtain ⟨o0, o1, o2, o3, o4, o5, o6⟩ := cells7 hB.Y
            have g0 := cfrozen hB.Y 0
            have g1 := cfrozen hB.Y 1
            have g2 := cfrozen hB.Y 2
            have g3 := cfrozen hB.Y 3
            have g4 := cfrozen hB.Y 4
            have g5 := cfrozen hB.Y 5
            have g6 := cfrozen hB.Y 6
            obtain ⟨WE, hWE⟩ : ∃ WE, WE = (((((((wr.setCell ⟨w.heap.size, 0, none⟩ (.string (strB x0))).setCell ⟨w.heap.size, 1, none⟩ (.int .i64 x1)).setCell ⟨w.heap.size, 2, none⟩ (.int .i64 x2)).setCell ⟨w.heap.size, 3, none⟩ (.int .i64 x3)).setCell ⟨w.heap.size, 4, none⟩ (.bool x4)).setCell ⟨w.heap.size, 5, none⟩ (.slice b5 n5 c5)).setCell ⟨w.heap.size, 6, none⟩ (.slice b6 n6 c6)) := ⟨_, rfl⟩
            have HE : Hid (UBx w WE p bs f' t' V0.heap.size 58 #[.string (strB x0), .int .i64 x1, .int .i64 x2, .int .i64 x3, .bool x4, .slice b5 n5 c5, .slice b6 n6 c6] #[.string (strB x0), .int .i64 x1, .int .i64 x2, .int .i64 x3, .bool x4, .slice b5 n5 c5, .slice b6 n6 c6]) := by rw [hWE]; exact ((((((hB.storeY 0 _).storeY 1 _).storeY 2 _).storeY 3 _).storeY 4 _).storeY 5 _).storeY 6 _
            have HKE : Hid (∀ q, V5.heap.size ≤ q → WE.heap[q]? = wr.heap[q]?) := fun q hq => by
              have hne : q ≠ w.heap.size := by have := HUN.out; have := HRV.out; omega
              rw [hWE]
              rw [heap_setCell_other _ _ _ _ hne, heap_setCell_other _ _ _ _ hne, heap_setCell_other _ _ _ _ hne, heap_setCell_other _ _ _ _ hne, heap_setCell_other _ _ _ _ hne, heap_setCell_other _ _ _ _ hne, heap_setCell_other _ _ _ _ hne]
            have HSE : Hid (WE.heap.size = wr.heap.size) := by rw [hWE]; show _ = _; simp
            have HRETE : Hid (UnRet p bs a0 r0 w (.returned (unV ⟨x0, x1, x2, x3, x4, l, m⟩ (.slice b5 n5 c5) (.slice b6 n6 c6))) WE) := by
              have hs := HSE.out
              have h5 := HUN.out
              have h6 := HRV.out
              have h7 := HU6.out
              have h8 := HLW.out
              refine ⟨⟨b5, n5, c5, b6, n6, c6, by rw [HRES.out], ?_, ?_⟩, by rw [HRES.out]; exact HE.out.rd, HE.out.G⟩
              · rw [HRES.out]
                have i1 := rowIn.wide (S' := fun b => V5.heap.size ≤ b ∧ b < V6.heap.size) HIN6.out (fun q hq hS => ⟨hS, hq⟩) fun _ _ _ h => h
                have i2 := rowIn.kept (w' := WE) i1 (insE_keeps _) (by omega) fun q hq _ => (HKE.out q hq.1).trans (HMID.out q hq.1 hq.2)
                exact rowIn.wide i2 (fun q _ hq => by have := hq.1; omega) fun _ _ _ h => h
              · rw [HRES.out]
                have i2 := rowIn.kept (w' := WE) HVN.out (varE_keeps _) (by omega) fun q hq _ => HKE.out q (by omega)
                exact rowIn.wide i2 (fun q _ hq => by omega) fun _ _ _ h => h
            obtain ⟨z0, z1, z2, z3, z4, z5, z6⟩ := cells7 HE.out.Y
            have HWE : Hid (WE = (((((((wr.setCell ⟨w.heap.size, 0, none⟩ (.string (strB x0))).setCell ⟨w.heap.size, 1, none⟩ (.int .i64 x1)).setCell ⟨w.heap.size, 2, none⟩ (.int .i64 x2)).setCell ⟨w.heap.size, 3, none⟩ (.int .i64 x3)).setCell ⟨w.heap.size, 4, none⟩ (.bool x4)).setCell ⟨w.heap.size, 5, none⟩ (.slice b5 n5 c5)).setCell ⟨w.heap.size, 6, none⟩ (.slice b6 n6 c6))) := hWE
            have hul : V0.heap.size < wr.heap.size := heap_lt hB.X
            have hrl : w.heap.size < wr.heap.size := heap_lt hB.Y
            have hne9 : V0.heap.size ≠ w.heap.size := by have := hB.ult; omega
            rw [hWE] at z0 z1 z2 z3 z4 z5 z6
            clear hL hB hX hend h9 h10 hfew hWE
            have cw := tkWell p bs f' t' wr HB.out.rd
            by_cases hi : i2 < nV
            · have hi4 : (i2 : Int) < nV := by omega
              have hr : t' ≠ 0 := fun e => hgo ⟨hi, e⟩
              rw [decide_eq_false hr] at cw
              clear hgo hr
              go_wp2_with fail
              refine cw.mono ?_
              clear cw
              rintro e w2 ⟨rfl, rfl⟩
              go_wp2
              refine bodyPost_ret (v := .agg #[.string (strB x0), .int .i64 x1, .int .i64 x2, .int .i64 x3, .bool x4, .slice b5 n5 c5, .slice b6 n6 c6]) (by simp [results, Tryz.results57, go_sem, z0, z1, z2, z3, z4, z5, z6]) rfl ?_
              rw [← HWE.out]
              exact HRETE.out
            · obtain rfl : i2 = nV := by omega
              have hi4 : ¬ (i2 : Int) < i2 := by omega
              clear hgo hi cw
              go_wp2
              refine bodyPost_ret (v := .agg #[.string (strB x0), .int .i64 x1, .int .i64 x2, .int .i64 x3, .bool x4, .slice b5 n5 c5, .slice b6 n6 c6]) (by simp [results, Tryz.results57, go_sem, z0, z1, z2, z3, z4, z5, z6]) rfl ?_
              rw [← HWE.out]
              exact HRETE.out
      · obtain rfl : i = nI := by omega
        have hi2 : ¬ (i : Int) < i := by omega
        clear hgo hi
        go_wp2_with fail
        refine cc.mono ?_
        clear cc
        rintro e V6 ⟨rfl, hr1, hg1⟩
        have C6 : Hid (UBx w V6 p bs aV rV' V0.heap.size 58 #[.string ⟨#[]⟩, .int .i64 0, .int .i64 0, .int .i64 0, .bool false, .slice none 0 0, .slice none 0 0] #[.string (strB x0), .int .i64 x1, .int .i64 x2, .int .i64 x3, .bool x4, .slice b5 n5 c5, .slice none 0 0]) := HB.out.call hr1 hg1
        have HIN6 : Hid (insIn (fun b => V5.heap.size ≤ b) V6 (.slice b5 n5 c5) l) := rowIn.kept HIN.out (insE_keeps _) hg1.size fun q hq hlt => hg1.block q hlt (by have := HPL.out; have := HUN.out; have := HRV.out; simp; omega)
        have HU6 : Hid (V5.heap.size ≤ V6.heap.size) := Nat.le_trans HN5.out hg1.size
        clear hr1 hg1 HB HX HL
        go_wp2
        go_loopw [7] (fun vi wr => ∃ (i : Nat) (m : List Vr) (css : List (List Value)) (a' r' : Nat) (b n c : _), vi = .int .i64 (i : Int) ∧ LoopX (rVar bs) nV aV rV' i m a' r' ∧ UBx w wr p bs a' r' V0.heap.size 58 #[.string ⟨#[]⟩, .int .i64 0, .int .i64 0, .int .i64 0, .bool false, .slice none 0 0, .slice none 0 0] #[.string (strB x0), .int .i64 x1, .int .i64 x2, .int .i64 x3, .bool x4, .slice b5 n5 c5, .slice b n c] ∧ RowX coVar 4 V6.heap.size 121 (.slice b n c) wr m css ∧ Hid (∀ q, V5.heap.size ≤ q → q < V6.heap.size → wr.heap[q]? = V6.heap[q]?)) (fun vi _ => nV - (intOf vi).toNat)
        case atStart => exact ⟨0, [], [], aV, rV', none, 0, 0, rfl, LoopX.start _ _ _ _, C6.out, RowX.start (Nat.le_refl _), fun q _ _ => rfl⟩
        case round =>
          obtain ⟨i2, m, css2, f', t', b6, n6, c6, rfl, hL, hB, hX, HMID⟩ := hrel
          have HL : Hid (LoopX (rVar bs) nV aV rV' i2 m f' t') := hL
          have HB : Hid (UBx w wr p bs f' t' V0.heap.size 58 #[.string ⟨#[]⟩, .int .i64 0, .int .i64 0, .int .i64 0, .bool false, .slice none 0 0, .slice none 0 0] #[.string (strB x0), .int .i64 x1, .int .i64 x2, .int .i64 x3, .bool x4, .slice b5 n5 c5, .slice b6 n6 c6]) := hB
          have HX : Hid (RowX coVar 4 V6.heap.size 121 (.slice b6 n6 c6) wr m css2) := hX
          have hle := hL.le
          have hfew := hL.few
          by_cases hgo : i2 < nV ∧ t' = 0
          · obtain ⟨hi3, rfl⟩ := hgo
            have hi4 : (i2 : Int) < nV := by omega
            have cw := tkWell p bs f' 0 wr hB.rd
            rw [decide_eq_true rfl] at cw
            have c1 := tkText p bs f' 0 wr hB.rd
            have HNX := hL.next hi3
            obtain ⟨y0, e1, s1, hy0⟩ : ∃ x ya yr, rT bs f' 0 = (x, ya, yr) := ⟨_, _, _, rfl⟩
            obtain ⟨y1, e2, s2, hy1⟩ : ∃ x ya yr, rI bs e1 s1 = (x, ya, yr) := ⟨_, _, _, rfl⟩
            obtain ⟨y2, e3, s3, hy2⟩ : ∃ x ya yr, rI bs e2 s2 = (x, ya, yr) := ⟨_, _, _, rfl⟩
            obtain ⟨y3, e4, s4, hy3⟩ : ∃ x ya yr, rI bs e3 s3 = (x, ya, yr) := ⟨_, _, _, rfl⟩
            have HY1 : Hid (rI bs e1 s1 = (y1, e2, s2)) := hy1
            have HY2 : Hid (rI bs e2 s2 = (y2, e3, s3)) := hy2
            have HY3 : Hid (rI bs e3 s3 = (y3, e4, s4)) := hy3
            have hri : rVar bs f' 0 = (⟨y0, y1, y2, y3⟩, e4, s4) := by simp only [rVar, hy0, hy1, hy2, hy3]
            rw [hri] at HNX
            rw [hy0] at c1
            simp only at c1 HNX
            have HNXT : Hid (LoopX (rVar bs) nV aV rV' (i2 + 1) (m ++ [⟨y0, y1, y2, y3⟩]) e4 s4) := HNX
            have HFW : Hid (m.length ≤ 1048576) := by have := HNI.out; show _ ≤ _; omega
            have HWL : Hid (V6.heap.size ≤ wr.heap.size) := hX.low
            clear hL hB hX hle hfew HNX hy0 hy1 hy2 hy3 hri
            go_wp2_with fail
            refine cw.mono ?_
            clear cw
            rintro e w2 ⟨rfl, rfl⟩
            go_wp2_with fail
            refine c1.mono ?_
            clear c1
            rintro e w3 ⟨rfl, hT3, hG3⟩
            obtain ⟨Y1, hY, hb4, HZ4, hV4⟩ := box1 w3 (.cells #[.string (strB y0), .int .i64 0, .int .i64 0, .int .i64 0] 121)
            have HYW1 : Hid (Y1 = w3.alloc (.cells #[.string (strB y0), .int .i64 0, .int .i64 0, .int .i64 0] 121)) := hY
            have D1 : Hid (VJx w Y1 p bs e1 s1 V0.heap.size 58 #[.string ⟨#[]⟩, .int .i64 0, .int .i64 0, .int .i64 0, .bool false, .slice none 0 0, .slice none 0 0] #[.string (strB x0), .int .i64 x1, .int .i64 x2, .int .i64 x3, .bool x4, .slice b5 n5 c5, .slice b6 n6 c6] V5.heap.size wr w3.heap.size #[.string (strB y0), .int .i64 0, .int .i64 0, .int .i64 0]) := by
              have h1 := HB.out.call hT3 hG3
              exact ⟨h1.below hb4, hV4, fun q hq hlt => (hb4.block q (Nat.lt_of_lt_of_le hlt hG3.size)).trans (hG3.block q hlt (by have := HPL.out; have := HUN.out; have := HRV.out; simp; omega)), hG3.size, HUN.out⟩
            clear hT3 hG3 hY hb4 HZ4 hV4
            have c := tkNum p bs e1 s1 Y1 D1.out.B.rd
            rw [HY1.out] at c
            simp only at c
            go_wp2_with fail
            rw [← HYW1.out]
            refine c.mono ?_
            clear c
            rintro e Z1 ⟨rfl, hr1, hg1⟩
            have F1 : Hid (VJx w Z1 p bs e2 s2 V0.heap.size 58 #[.string ⟨#[]⟩, .int .i64 0, .int .i64 0, .int .i64 0, .bool false, .slice none 0 0, .slice none 0 0] #[.string (strB x0), .int .i64 x1, .int .i64 x2, .int .i64 x3, .bool x4, .slice b5 n5 c5, .slice b6 n6 c6] V5.heap.size wr w3.heap.size #[.string (strB y0), .int .i64 0, .int .i64 0, .int .i64 0]) := D1.out.call hr1 hg1 (by have := HU6.out; have := HWL.out; omega)
            obtain ⟨Y2, hY⟩ : ∃ W, W = Z1.setCell ⟨w3.heap.size, 1, none⟩ (.int .i64 y1) := ⟨_, rfl⟩
            have HYW2 : Hid (Y2 = Z1.setCell ⟨w3.heap.size, 1, none⟩ (.int .i64 y1)) := hY
            have D2 : Hid (VJx w Y2 p bs e2 s2 V0.heap.size 58 #[.string ⟨#[]⟩, .int .i64 0, .int .i64 0, .int .i64 0, .bool false, .slice none 0 0, .slice none 0 0] #[.string (strB x0), .int .i64 x1, .int .i64 x2, .int .i64 x3, .bool x4, .slice b5 n5 c5, .slice b6 n6 c6] V5.heap.size wr w3.heap.size #[.string (strB y0), .int .i64 y1, .int .i64 0, .int .i64 0]) := by rw [hY]; exact F1.out.store 1 _ (by have := HU6.out; have := HWL.out; omega)
            obtain ⟨p0, p1, p2, p3⟩ := bcells4 F1.out.VX
            have fz := cfrozen F1.out.VX 1
            clear hr1 hg1 hY
            have c := tkNum p bs e2 s2 Y2 D2.out.B.rd
            rw [HY2.out] at c
            simp only at c
            go_wp2_with fail
            rw [← HYW2.out]
            refine c.mono ?_
            clear c
            rintro e Z2 ⟨rfl, hr1, hg1⟩
            have F2 : Hid (VJx w Z2 p bs e3 s3 V0.heap.size 58 #[.string ⟨#[]⟩, .int .i64 0, .int .i64 0, .int .i64 0, .bool false, .slice none 0 0, .slice none 0 0] #[.string (strB x0), .int .i64 x1, .int .i64 x2, .int .i64 x3, .bool x4, .slice b5 n5 c5, .slice b6 n6 c6] V5.heap.size wr w3.heap.size #[.string (strB y0), .int .i64 y1, .int .i64 0, .int .i64 0]) := D2.out.call hr1 hg1 (by have := HU6.out; have := HWL.out; omega)
            obtain ⟨Y3, hY⟩ : ∃ W, W = Z2.setCell ⟨w3.heap.size, 2, none⟩ (.int .i64 y2) := ⟨_, rfl⟩
            have HYW3 : Hid (Y3 = Z2.setCell ⟨w3.heap.size, 2, none⟩ (.int .i64 y2)) := hY
            have D3 : Hid (VJx w Y3 p bs e3 s3 V0.heap.size 58 #[.string ⟨#[]⟩, .int .i64 0, .int .i64 0, .int .i64 0, .bool false, .slice none 0 0, .slice none 0 0] #[.string (strB x0), .int .i64 x1, .int .i64 x2, .int .i64 x3, .bool x4, .slice b5 n5 c5, .slice b6 n6 c6] V5.heap.size wr w3.heap.size #[.string (strB y0), .int .i64 y1, .int .i64 y2, .int .i64 0]) := by rw [hY]; exact F2.out.store 2 _ (by have := HU6.out; have := HWL.out; omega)
            obtain ⟨p0, p1, p2, p3⟩ := bcells4 F2.out.VX
            have fz := cfrozen F2.out.VX 2
            clear hr1 hg1 hY
            have c := tkNum p bs e3 s3 Y3 D3.out.B.rd
            rw [HY3.out] at c
            simp only at c
            go_wp2_with fail
            rw [← HYW3.out]
            refine c.mono ?_
            clear c
            rintro e Z3 ⟨rfl, hr1, hg1⟩
            have F3 : Hid (VJx w Z3 p bs e4 s4 V0.heap.size 58 #[.string ⟨#[]⟩, .int .i64 0, .int .i64 0, .int .i64 0, .bool false, .slice none 0 0, .slice none 0 0] #[.string (strB x0), .int .i64 x1, .int .i64 x2, .int .i64 x3, .bool x4, .slice b5 n5 c5, .slice b6 n6 c6] V5.heap.size wr w3.heap.size #[.string (strB y0), .int .i64 y1, .int .i64 y2, .int .i64 0]) := D3.out.call hr1 hg1 (by have := HU6.out; have := HWL.out; omega)
            obtain ⟨Y4, hY⟩ : ∃ W, W = Z3.setCell ⟨w3.heap.size, 3, none⟩ (.int .i64 y3) := ⟨_, rfl⟩
            have HYW4 : Hid (Y4 = Z3.setCell ⟨w3.heap.size, 3, none⟩ (.int .i64 y3)) := hY
            have D4 : Hid (VJx w Y4 p bs e4 s4 V0.heap.size 58 #[.string ⟨#[]⟩, .int .i64 0, .int .i64 0, .int .i64 0, .bool false, .slice none 0 0, .slice none 0 0] #[.string (strB x0), .int .i64 x1, .int .i64 x2, .int .i64 x3, .bool x4, .slice b5 n5 c5, .slice b6 n6 c6] V5.heap.size wr w3.heap.size #[.string (strB y0), .int .i64 y1, .int .i64 y2, .int .i64 y3]) := by rw [hY]; exact F3.out.store 3 _ (by have := HU6.out; have := HWL.out; omega)
            obtain ⟨p0, p1, p2, p3⟩ := bcells4 F3.out.VX
            have fz := cfrozen F3.out.VX 3
            clear hr1 hg1 hY
            obtain ⟨q0, q1, q2, q3⟩ := bcells4 D4.out.VX
            have q6 : Y4.cell? ⟨V0.heap.size, 6, none⟩ = some (.slice b6 n6 c6) := (cells7 D4.out.B.X).2.2.2.2.2.2
            have hul : V0.heap.size < Y4.heap.size := heap_lt D4.out.B.X
            have hvl : w3.heap.size < Y4.heap.size := heap_lt D4.out.VX
            have HX4 : Hid (RowX coVar 4 V6.heap.size 121 (.slice b6 n6 c6) Y4 m css2) := HX.out.keep lawVar (Nat.le_trans D4.out.hs (Nat.le_of_lt hvl)) fun q hq hlt => D4.out.K q (by have := HU6.out; omega) hlt
            go_upto_region 20 with fail
            rw [← HYW4.out]
            clear fz p0 p1 p2 p3
            go_wp2_with (first
              | (at_builtin; refine wpList_append_own_at _ rfl _ _ 56 rfl V6.heap.size 121 iV (.agg #[.string ⟨#[]⟩, .int .i64 0, .int .i64 0, .int .i64 0]) 4 40 Tryz.underlying56 hinfV hzV0 hzV1 hzV2 rfl (by decide) _ _ _ rfl (HX4.out.row.alloc _) ⟨Y4.heap.size, 0, none⟩ 1 1 [.string (strB y0), .int .i64 y1, .int .i64 y2, .int .i64 y3] rfl rfl (rcells_new _ _ _) (by simp [Value.oneCell']) (by have := HFW.out; unfold maxLen; omega) (by have := HFW.out; omega) (by have := HX4.out.low; simp; omega) ?_; intro v' w9 hown9 hgrow9 hnil9 hloc9; have hlk := HX4.out.lowkept (w1 := Y4) rfl (Nat.le_refl _) hgrow9; have HX9 : Hid (RowX coVar 4 V6.heap.size 121 v' w9 (m ++ [⟨y0, y1, y2, y3⟩]) (css2 ++ [[.string (strB y0), .int .i64 y1, .int .i64 y2, .int .i64 y3]])) := HX4.out.snoc lawVar (w1 := Y4) (Nat.le_refl _) (fun q _ _ => rfl) rfl rfl hown9 hgrow9 hloc9; have HB9 : Hid (UBx w w9 p bs e4 s4 V0.heap.size 58 #[.string ⟨#[]⟩, .int .i64 0, .int .i64 0, .int .i64 0, .bool false, .slice none 0 0, .slice none 0 0] #[.string (strB x0), .int .i64 x1, .int .i64 x2, .int .i64 x3, .bool x4, .slice b5 n5 c5, .slice b6 n6 c6]) := D4.out.B.low (by have := HU6.out; have := HUN.out; omega : V0.heap.size < V6.heap.size) hlk hgrow9.os hgrow9.tape hgrow9.output (by have := hgrow9.size; simp at this; omega); have HMID9 : Hid (∀ q, V5.heap.size ≤ q → q < V6.heap.size → w9.heap[q]? = V6.heap[q]?) := (fun q h1 h2 => (hlk q h2).trans ((D4.out.K q h1 (by have := HWL.out; omega)).trans (HMID.out q h1 h2))); obtain ⟨b9, n9, c9, rfl⟩ : ∃ b n c, v' = .slice b n c := (by rcases HX9.out.row.2 with ⟨e, -⟩ | ⟨g, cp, cur, e, -⟩; exact ⟨_, _, _, e⟩; exact ⟨_, _, _, e⟩); have q7 : w9.cell? ⟨V0.heap.size, 6, none⟩ = some (.slice b6 n6 c6) := (cells7 HB9.out.X).2.2.2.2.2.2; have fz7 := cfrozen HB9.out.X 6; clear hown9 hgrow9 hnil9 hloc9 hlk q0 q1 q2 q3 q6 hul hvl)
              | go_in)
            have HB10 : Hid (UBx w (w9.setCell ⟨V0.heap.size, 6, none⟩ (.slice b9 n9 c9)) p bs e4 s4 V0.heap.size 58 #[.string ⟨#[]⟩, .int .i64 0, .int .i64 0, .int .i64 0, .bool false, .slice none 0 0, .slice none 0 0] #[.string (strB x0), .int .i64 x1, .int .i64 x2, .int .i64 x3, .bool x4, .slice b5 n5 c5, .slice b9 n9 c9]) := HB9.out.store 6 _
            have HX10 : Hid (RowX coVar 4 V6.heap.size 121 (.slice b9 n9 c9) (w9.setCell ⟨V0.heap.size, 6, none⟩ (.slice b9 n9 c9)) (m ++ [⟨y0, y1, y2, y3⟩]) (css2 ++ [[.string (strB y0), .int .i64 y1, .int .i64 y2, .int .i64 y3]])) := HX9.out.keep lawVar (by simp) fun q hq _ => heap_setCell_other _ _ _ _ (by have := HUN.out; have := HU6.out; simp; omega)
            have HMID10 : Hid (∀ q, V5.heap.size ≤ q → q < V6.heap.size → (w9.setCell ⟨V0.heap.size, 6, none⟩ (.slice b9 n9 c9)).heap[q]? = V6.heap[q]?) := fun q h1 h2 => (heap_setCell_other _ _ _ _ (by have := HUN.out; simp; omega)).trans (HMID9.out q h1 h2)
            exact ⟨⟨i2 + 1, _, _, e4, s4, b9, n9, c9, by go_num, HNXT.out, HB10.out, HX10.out, HMID10⟩, by simp [intOf]; omega⟩
          · have hend : loopR (rVar bs) nV aV rV' = (m, f', t') := by
              by_cases hi : i2 < nV
              · exact hL.bad fun e => hgo ⟨hi, e⟩
              · obtain rfl : i2 = nV := by omega
                exact hL.last
            have h9 := HX6.out
            rw [hend] at h9
            obtain ⟨rfl, h10⟩ := Prod.mk.inj h9
            obtain ⟨rfl, rfl⟩ := Prod.mk.inj h10
            have HVN : Hid (varsIn (fun b => V6.heap.size ≤ b) wr (.slice b6 n6 c6) m) := hX.rowIn lawVar (E := varE) fun x cs b o hco hcs => by
              have e : cs = [.string (strB x.name), .int .i64 x.slot, .int .i64 x.lo, .int .i64 x.hi] := hco
              subst e
              exact ⟨hcs 0 (by simp), hcs 1 (by simp), hcs 2 (by simp), hcs 3 (by simp)⟩
            have HLW : Hid (V6.heap.size ≤ wr.heap.size) := hX.low
            obtain ⟨q0, q1, q2, q3, q4, q5, q6⟩ := cells7 hB.X
            obtain ⟨o0, o1, o2, o3, o4, o5, o6⟩ := cells7 hB.Y
            have g0 := cfrozen hB.Y 0
            have g1 := cfrozen hB.Y 1
            have g2 := cfrozen hB.Y 2
            have g3 := cfrozen hB.Y 3
            have g4 := cfrozen hB.Y 4
            have g5 := cfrozen hB.Y 5
            have g6 := cfrozen hB.Y 6
            obtain ⟨WE, hWE⟩ : ∃ WE, WE = (((((((wr.setCell ⟨w.heap.size, 0, none⟩ (.string (strB x0))).setCell ⟨w.heap.size, 1, none⟩ (.int .i64 x1)).setCell ⟨w.heap.size, 2, none⟩ (.int .i64 x2)).setCell ⟨w.heap.size, 3, none⟩ (.int .i64 x3)).setCell ⟨w.heap.size, 4, none⟩ (.bool x4)).setCell ⟨w.heap.size, 5, none⟩ (.slice b5 n5 c5)).setCell ⟨w.heap.size, 6, none⟩ (.slice b6 n6 c6)) := ⟨_, rfl⟩
            have HE : Hid (UBx w WE p bs f' t' V0.heap.size 58 #[.string (strB x0), .int .i64 x1, .int .i64 x2, .int .i64 x3, .bool x4, .slice b5 n5 c5, .slice b6 n6 c6] #[.string (strB x0), .int .i64 x1, .int .i64 x2, .int .i64 x3, .bool x4, .slice b5 n5 c5, .slice b6 n6 c6]) := by rw [hWE]; exact ((((((hB.storeY 0 _).storeY 1 _).storeY 2 _).storeY 3 _).storeY 4 _).storeY 5 _).storeY 6 _
            have HKE : Hid (∀ q, V5.heap.size ≤ q → WE.heap[q]? = wr.heap[q]?) := fun q hq => by
              have hne : q ≠ w.heap.size := by have := HUN.out; have := HRV.out; omega
              rw [hWE]
              rw [heap_setCell_other _ _ _ _ hne, heap_setCell_other _ _ _ _ hne, heap_setCell_other _ _ _ _ hne, heap_setCell_other _ _ _ _ hne, heap_setCell_other _ _ _ _ hne, heap_setCell_other _ _ _ _ hne, heap_setCell_other _ _ _ _ hne]
            have HSE : Hid (WE.heap.size = wr.heap.size) := by rw [hWE]; show _ = _; simp
            have HRETE : Hid (UnRet p bs a0 r0 w (.returned (unV ⟨x0, x1, x2, x3, x4, l, m⟩ (.slice b5 n5 c5) (.slice b6 n6 c6))) WE) := by
              have hs := HSE.out
              have h5 := HUN.out
              have h6 := HRV.out
              have h7 := HU6.out
              have h8 := HLW.out
              refine ⟨⟨b5, n5, c5, b6, n6, c6, by rw [HRES.out], ?_, ?_⟩, by rw [HRES.out]; exact HE.out.rd, HE.out.G⟩
              · rw [HRES.out]
                have i1 := rowIn.wide (S' := fun b => V5.heap.size ≤ b ∧ b < V6.heap.size) HIN6.out (fun q hq hS => ⟨hS, hq⟩) fun _ _ _ h => h
                have i2 := rowIn.kept (w' := WE) i1 (insE_keeps _) (by omega) fun q hq _ => (HKE.out q hq.1).trans (HMID.out q hq.1 hq.2)
                exact rowIn.wide i2 (fun q _ hq => by have := hq.1; omega) fun _ _ _ h => h
              · rw [HRES.out]
                have i2 := rowIn.kept (w' := WE) HVN.out (varE_keeps _) (by omega) fun q hq _ => HKE.out q (by omega)
                exact rowIn.wide i2 (fun q _ hq => by omega) fun _ _ _ h => h
            obtain ⟨z0, z1, z2, z3, z4, z5, z6⟩ := cells7 HE.out.Y
            have HWE : Hid (WE = (((((((wr.setCell ⟨w.heap.size, 0, none⟩ (.string (strB x0))).setCell ⟨w.heap.size, 1, none⟩ (.int .i64 x1)).setCell ⟨w.heap.size, 2, none⟩ (.int .i64 x2)).setCell ⟨w.heap.size, 3, none⟩ (.int .i64 x3)).setCell ⟨w.heap.size, 4, none⟩ (.bool x4)).setCell ⟨w.heap.size, 5, none⟩ (.slice b5 n5 c5)).setCell ⟨w.heap.size, 6, none⟩ (.slice b6 n6 c6))) := hWE
            have hul : V0.heap.size < wr.heap.size := heap_lt hB.X
            have hrl : w.heap.size < wr.heap.size := heap_lt hB.Y
            have hne9 : V0.heap.size ≠ w.heap.size := by have := hB.ult; omega
            rw [hWE] at z0 z1 z2 z3 z4 z5 z6
            clear hL hB hX hend h9 h10 hfew hWE
            have cw := tkWell p bs f' t' wr HB.out.rd
            by_cases hi : i2 < nV
            · have hi4 : (i2 : Int) < nV := by omega
              have hr : t' ≠ 0 := fun e => hgo ⟨hi, e⟩
              rw [decide_eq_false hr] at cw
              clear hgo hr
              go_wp2_with fail
              refine cw.mono ?_
              clear cw
              rintro e w2 ⟨rfl, rfl⟩
              go_wp2
              refine bodyPost_ret (v := .agg #[.string (strB x0), .int .i64 x1, .int .i64 x2, .int .i64 x3, .bool x4, .slice b5 n5 c5, .slice b6 n6 c6]) (by simp [results, Tryz.results57, go_sem, z0, z1, z2, z3, z4, z5, z6]) rfl ?_
              rw [← HWE.out]
              exact HRETE.out
            · obtain rfl : i2 = nV := by omega
              have hi4 : ¬ (i2 : Int) < i2 := by omega
              clear hgo hi cw
              go_wp2
              refine bodyPost_ret (v := .agg #[.string (strB x0), .int .i64 x1, .int .i64 x2, .int .i64 x3, .bool x4, .slice b5 n5 c5, .slice b6 n6 c6]) (by simp [results, Tryz.results57, go_sem, z0, z1, z2, z3, z4, z5, z6]) rfl ?_
              rw [← HWE.out]
              exact HRETE.out
end Go.Proofs.YtechkkphbajmoaaGreatDoor
