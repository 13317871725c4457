/- A reader: what it stands for in memory, and what read does with it. -/
import Derived.Test.YtjhfkiighphepaaDoorWGetText
import Derived.Deep.QuietTactic
import Derived.BigQuiet
namespace Go.Proofs.YtjhfkiighphepaaDoor
open Go.RowKit

/-- In the world w a reader lies in block p: of the bytes bs, it stands at at0, and its error is er. -/
structure ReaderAt (w : World) (p : Nat) (base : Option Addr) (cap : Nat) (bs : List UInt8) (at0 er : Nat) : Prop where
  made : w.cell? ⟨p, 0, none⟩ = some (.bool true)
  b : w.cell? ⟨p, 1, none⟩ = some (.slice base bs.length cap)
  at_ : w.cell? ⟨p, 2, none⟩ = some (.int .i64 at0)
  err : w.cell? ⟨p, 3, none⟩ = some (.int .i64 er)
  f2 : w.frozen? ⟨p, 2, none⟩ = false
  f3 : w.frozen? ⟨p, 3, none⟩ = false
  row : rowAt w base bs
  len : bs.length ≤ cap
  cap : cap ≤ maxLen
  at_le : at0 ≤ bs.length
  apart : ∀ a, base = some a → a.block ≠ p
  er9 : er ≤ 9

set_option maxRecDepth 100000 in
theorem run_from (w : World) (base : Option Addr) (len cap lo : Nat) (h : lo ≤ len) :
    (Instr.slice 60 (.slice base len cap) (some (.int .i64 lo)) none none).run Tryd.prog w = .ok (.slice (subBase base cap lo) (len - lo) (cap - lo)) w := by
  have h1 := run_slice_l (P := Tryd.prog) w 60 base len cap Tryd.underlying60 .i64 (lo : Int) (by omega) (by omega)
  have hs : (sizeOf (Tryd.prog.elem 60)).run Tryd.prog w = .ok 1 w := by kernel_rfl
  rw [h1, hs]
  simp [sliced, subBase]

theorem quiet_mine {P : Program} {f : FuncId} {args : Array Value} {w : World} {n : Nat} {v : Value}
    (h : Calls P f args (w.drewN n) fun e w' => e = .returned v ∧ w.drewN n = w') : Calls P f args (w.drewN n) fun e w'' => e = .returned v ∧ ∃ m, w'' = w.drewN m :=
  h.mono fun _ _ ⟨he, hm⟩ => ⟨he, n, hm.symm⟩

theorem rowAt_drewN {w : World} {base : Option Addr} {bs : List UInt8} (n : Nat) (h : rowAt w base bs) : rowAt (w.drewN n) base bs := h

/-- The row of a slice is as it was, where the blocks are. -/
theorem rowAt_kept {w w' : World} {base : Option Addr} {bs : List UInt8} (h : rowAt w base bs) (hk : ∀ a, base = some a → a.block < w.heap.size → w'.heap[a.block]? = w.heap[a.block]?) : rowAt w' base bs := by
  rcases h with h | ⟨b, o, hb, hc⟩
  · exact .inl h
  · refine .inr ⟨b, o, hb, fun j hj => ?_⟩
    have h1 := hc j hj
    rw [World.cell?_of_block (w := w) (a := ⟨b, o + j, none⟩) (hk ⟨b, o, none⟩ hb (show b < w.heap.size from World.block_lt_of_cell? w ⟨b, o + j, none⟩ h1))]
    exact h1

/-- What was done elsewhere leaves a reader as it was. -/
theorem ReaderAt.kept {w w' : World} {p : Nat} {base : Option Addr} {cap : Nat} {bs : List UInt8} {at0 er : Nat} (h : ReaderAt w p base cap bs at0 er)
    (hk : ∀ k, k < w.heap.size → (k = p ∨ ∃ a, base = some a ∧ a.block = k) → w'.heap[k]? = w.heap[k]?) : ReaderAt w' p base cap bs at0 er := by
  have hp := hk p (World.block_lt_of_cell? w _ h.made) (.inl rfl)
  exact ⟨(World.cell?_of_block (w := w) (a := ⟨p, 0, none⟩) hp).trans h.made, (World.cell?_of_block (w := w) (a := ⟨p, 1, none⟩) hp).trans h.b,
    (World.cell?_of_block (w := w) (a := ⟨p, 2, none⟩) hp).trans h.at_, (World.cell?_of_block (w := w) (a := ⟨p, 3, none⟩) hp).trans h.err,
    (World.frozen?_of_block (w := w) (a := ⟨p, 2, none⟩) hp).trans h.f2, (World.frozen?_of_block (w := w) (a := ⟨p, 3, none⟩) hp).trans h.f3,
    rowAt_kept h.row (fun a ha hl => hk a.block hl (.inr ⟨a, ha, rfl⟩)), h.len, h.cap, h.at_le, h.apart, h.er9⟩

theorem ReaderAt.below {w w' : World} {B p : Nat} {base : Option Addr} {cap : Nat} {bs : List UInt8} {at0 er : Nat} (h : ReaderAt w p base cap bs at0 er) (hb : Below B w w') (hB : w.heap.size ≤ B) : ReaderAt w' p base cap bs at0 er :=
  h.kept fun k hk _ => hb.block k (by omega)

theorem ReaderAt.other {w w' : World} {p q : Nat} {base : Option Addr} {cap : Nat} {bs : List UInt8} {at0 er : Nat} (h : ReaderAt w p base cap bs at0 er) (hg : w.grownBy w' (some q)) (hq : p ≠ q) (ha : ∀ a, base = some a → a.block ≠ q) : ReaderAt w' p base cap bs at0 er :=
  h.kept fun k hk hor => hg.block k hk (fun e => by
    cases e
    rcases hor with h1 | ⟨a, h1, h2⟩
    · exact hq h1.symm
    · exact ha a h1 h2)

theorem setAt_grown {w : World} {p j n : Nat} {v : Value} : w.grownBy ((w.drewN n).setCell ⟨p, j, none⟩ v) (some p) :=
  ⟨rfl, rfl, rfl, by simp [World.setCell], fun k _ hk => by
    rw [Below.heap_setCell _ _ _ _ (fun e => hk (by rw [e]))]; rfl⟩

theorem ReaderAt.setErr {w : World} {p : Nat} {base : Option Addr} {cap : Nat} {bs : List UInt8} {at0 : Nat} (h : ReaderAt w p base cap bs at0 0) (n e : Nat) (he : e ≤ 9) : ReaderAt ((w.drewN n).setCell ⟨p, 3, none⟩ (.int .i64 e)) p base cap bs at0 e := by
  have ho : ∀ j, j ≠ 3 → ((w.drewN n).setCell ⟨p, 3, none⟩ (.int .i64 e)).cell? ⟨p, j, none⟩ = w.cell? ⟨p, j, none⟩ := fun j hj => by
    rw [World.cell?_setCell_other (a := ⟨p, 3, none⟩) (b := ⟨p, j, none⟩) (h := by intro h; cases h; exact hj rfl)]; rfl
  exact ⟨(ho 0 (by decide)).trans h.made, (ho 1 (by decide)).trans h.b, (ho 2 (by decide)).trans h.at_, World.cell?_setCell_same (w.drewN n) ⟨p, 3, none⟩ _ h.err,
    by rw [World.frozen?_setCell]; exact h.f2, by rw [World.frozen?_setCell]; exact h.f3,
    rowAt_kept h.row (fun a ha _ => by rw [Below.heap_setCell _ _ _ _ (h.apart a ha)]; rfl), h.len, h.cap, h.at_le, h.apart, he⟩

theorem ReaderAt.setAt {w : World} {p : Nat} {base : Option Addr} {cap : Nat} {bs : List UInt8} {at0 : Nat} (h : ReaderAt w p base cap bs at0 0) (n k : Nat) (hk : k ≤ bs.length) : ReaderAt ((w.drewN n).setCell ⟨p, 2, none⟩ (.int .i64 k)) p base cap bs k 0 := by
  have ho : ∀ j, j ≠ 2 → ((w.drewN n).setCell ⟨p, 2, none⟩ (.int .i64 k)).cell? ⟨p, j, none⟩ = w.cell? ⟨p, j, none⟩ := fun j hj => by
    rw [World.cell?_setCell_other (a := ⟨p, 2, none⟩) (b := ⟨p, j, none⟩) (h := by intro h; cases h; exact hj rfl)]; rfl
  exact ⟨(ho 0 (by decide)).trans h.made, (ho 1 (by decide)).trans h.b, World.cell?_setCell_same (w.drewN n) ⟨p, 2, none⟩ _ h.at_, (ho 3 (by decide)).trans h.err,
    by rw [World.frozen?_setCell]; exact h.f2, by rw [World.frozen?_setCell]; exact h.f3,
    rowAt_kept h.row (fun a ha _ => by rw [Below.heap_setCell _ _ _ _ (h.apart a ha)]; rfl), h.len, h.cap, hk, h.apart, Nat.zero_le _⟩

/-- What a call of a reader comes to: the answer, where it stands, what went wrong. -/
def stepR {α : Type} (zero : α) (at0 er : Nat) (g : α × Nat × Nat) : α × Nat × Nat :=
  if er ≠ 0 then (zero, at0, er) else if g.2.2 ≠ 0 then (zero, at0, g.2.2) else (g.1, at0 + g.2.1, 0)

theorem grownBy_refl (w : World) (r : Option Nat) : w.grownBy w r := ⟨rfl, rfl, rfl, Nat.le_refl _, fun _ _ _ => rfl⟩
theorem ret_of {v v' : Value} (h : v = v') : Ending.returned v = .returned v' := by rw [h]

theorem bytesAt_row {w : World} {base : Option Addr} {cap len : Nat} {bs : List UInt8} (h : bytesAt w (.slice base len cap) bs) : len = bs.length ∧ rowAt w base bs ∧ bs.length ≤ cap ∧ cap ≤ maxLen := by
  obtain ⟨base', cap', hv, hn, h1, h2, hc⟩ := h
  cases hv
  refine ⟨rfl, ?_, h1, h2⟩
  by_cases h0 : bs = []
  · exact .inl h0
  · cases base with
    | none => exact absurd (hn rfl).1 h0
    | some a =>
      have hpos : 0 < bs.length := by
        rcases Nat.eq_zero_or_pos bs.length with h | h
        · exact absurd (List.length_eq_zero_iff.1 h) h0
        · exact h
      have hat : ∀ j (hj : j < bs.length), w.cell? (a.add j) = some (.int .u8 (bs[j].toNat : Int)) := fun j hj =>
        hc a rfl j _ (by unfold Lib.byteCells; rw [List.getElem?_map, List.getElem?_eq_getElem hj]; rfl)
      obtain ⟨b, o, spot⟩ := a
      have hspot : spot = none := by simpa [Addr.add] using World.cell?_spot (hat 0 hpos)
      subst hspot
      exact .inr ⟨b, o, rfl, fun j hj => by rw [← add_plain]; exact hat j hj⟩

theorem rowAt_below {w w' : World} {base : Option Addr} {bs : List UInt8} {B : Nat} (h : rowAt w base bs) (hb : Below B w w') (hB : w.heap.size ≤ B) : rowAt w' base bs :=
  rowAt_kept h (fun a _ hl => hb.block a.block (by omega))

theorem rowAt_take {w : World} {base : Option Addr} {bs : List UInt8} (c : Nat) (h : rowAt w base bs) : rowAt w base (bs.take c) := by
  rcases h with rfl | ⟨b, o, hb, hc⟩
  · left; simp
  · exact .inr ⟨b, o, hb, fun j hj => by
      have hj2 : j < bs.length := by rw [List.length_take] at hj; omega
      rw [List.getElem_take]; exact hc j hj2⟩

end Go.Proofs.YtjhfkiighphepaaDoor
