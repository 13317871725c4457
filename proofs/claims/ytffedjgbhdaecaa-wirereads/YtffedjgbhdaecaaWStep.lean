/- One call of both readers: the program's and the document's answer alike. -/
import Derived.Test.YtffedjgbhdaecaaWRefText
import Derived.Test.YtffedjgbhdaecaaLForm
namespace Go.Proofs.Ytffedjgbhdaecaa
open Go.RowKit

theorem grownBy_trans {a b c : World} {r : Option Nat} (h : a.grownBy b r) (k : b.grownBy c r) : a.grownBy c r :=
  ⟨k.os.trans h.os, k.tape.trans h.tape, k.output.trans h.output, Nat.le_trans h.size k.size, fun i hi hne => (k.block i (Nat.lt_of_lt_of_le hi h.size) hne).trans (h.block i hi hne)⟩
theorem grownBy_below {a b : World} (r : Option Nat) (h : Below a.heap.size a b) : a.grownBy b r := ⟨h.os, h.tape, h.output, h.size, fun i hi _ => h.block i hi⟩
theorem grownBy_set {a b : World} {r : Option Nat} (h : a.grownBy b r) {p : Addr} (hp : a.heap.size ≤ p.block) (v : Value) : a.grownBy (b.setCell p v) r :=
  ⟨h.os, h.tape, h.output, by have := h.size; simp [World.setCell]; omega, fun i hi hne => by rw [Below.heap_setCell _ _ _ _ (by omega)]; exact h.block i hi hne⟩

theorem kept_box {a b : World} {p q : Nat} {x0 x1 x2 : Value} (hg : a.grownBy b (some p)) (hq : q ≠ p) (h0 : a.cell? ⟨q, 0, none⟩ = some x0) (h1 : a.cell? ⟨q, 1, none⟩ = some x1) (h2 : a.cell? ⟨q, 2, none⟩ = some x2)
    (f : ∀ j, a.frozen? ⟨q, j, none⟩ = false) : b.cell? ⟨q, 0, none⟩ = some x0 ∧ b.cell? ⟨q, 1, none⟩ = some x1 ∧ b.cell? ⟨q, 2, none⟩ = some x2 ∧ ∀ j, b.frozen? ⟨q, j, none⟩ = false := by
  have hne : some q ≠ some p := fun e => hq (Option.some.inj e)
  have hl := World.block_lt_of_cell? a _ h0
  exact ⟨hg.cell h0 hne, hg.cell h1 hne, hg.cell h2 hne, fun j => (World.frozen?_of_block (w := a) (a := ⟨q, j, none⟩) (hg.block q hl hne)).trans (f j)⟩

theorem ReaderAt.far {w : World} {p R j : Nat} {base : Option Addr} {cap : Nat} {bs : List UInt8} {at0 er : Nat} (h : ReaderAt w p base cap bs at0 er) (v : Value) (hp : p ≠ R) (hb : bs = [] ∨ ∃ b o, base = some ⟨b, o, none⟩ ∧ b ≠ R) :
    ReaderAt (w.setCell ⟨R, j, none⟩ v) p base cap bs at0 er := by
  have hk : (w.setCell ⟨R, j, none⟩ v).heap[p]? = w.heap[p]? := Below.heap_setCell _ _ _ _ hp
  refine ⟨(World.cell?_of_block (w := w) (a := ⟨p, 0, none⟩) hk).trans h.made, (World.cell?_of_block (w := w) (a := ⟨p, 1, none⟩) hk).trans h.b,
    (World.cell?_of_block (w := w) (a := ⟨p, 2, none⟩) hk).trans h.at_, (World.cell?_of_block (w := w) (a := ⟨p, 3, none⟩) hk).trans h.err,
    (World.frozen?_of_block (w := w) (a := ⟨p, 2, none⟩) hk).trans h.f2, (World.frozen?_of_block (w := w) (a := ⟨p, 3, none⟩) hk).trans h.f3, ?_, h.len, h.cap, h.at_le, h.apart, h.er9⟩
  rcases hb with hb | ⟨b, o, hb, hne⟩
  · exact .inl hb
  · refine rowAt_kept h.row (fun a ha _ => ?_)
    rw [hb] at ha
    cases ha
    exact Below.heap_setCell _ _ _ _ hne

theorem drew_belowS {B : Nat} {w : World} : Below B w w.drew := ⟨rfl, rfl, rfl, Nat.le_refl _, fun _ _ => rfl⟩

/-- Where a call of a kind leads. -/
def askR (kind most : Int) (bs : List UInt8) (at0 er : Nat) : Nat × Nat :=
  if kind = 1 then (stepR false at0 er (getB (bs.drop at0))).2
  else if kind = 2 then (stepR (0 : Int) at0 er (getC (bs.drop at0) most)).2
  else if kind = 3 then (stepR ([] : List UInt8) at0 er (getT (bs.drop at0) most)).2
  else (stepR (0 : Int) at0 er (getI (bs.drop at0))).2

attribute [local go_sem] undef

set_option maxHeartbeats 8000000 in
set_option maxRecDepth 100000 in
theorem step1_any {w : World} {p : Nat} {base : Option Addr} {cap : Nat} {at0 er : Nat} (s : ByteArray) (most : Int) (h : ReaderAt w p base cap s.data.toList at0 er) (hs : s.size ≤ 9223372036854775000) :
    Calls Try.prog 9 #[.pointer (some ⟨p, 0, none⟩), .agg #[.string s, .int .i64 at0, .int .i64 er], .agg #[.int .i64 1, .int .i64 most]] w fun e w' =>
      e = .returned (.tuple #[.agg #[.string s, .int .i64 (stepR false at0 er (getB (s.data.toList.drop at0))).2.1, .int .i64 (stepR false at0 er (getB (s.data.toList.drop at0))).2.2], .bool true]) ∧
      ReaderAt w' p base cap s.data.toList (stepR false at0 er (getB (s.data.toList.drop at0))).2.1 (stepR false at0 er (getB (s.data.toList.drop at0))).2.2 ∧ w.grownBy w' (some p) := by
  have HR : Hid (ReaderAt w p base cap s.data.toList at0 er) := h
  have hpl := World.block_lt_of_cell? w _ h.made
  have HC : Hid (∀ wx : World, Calls Try.prog 26 #[.agg #[.string s, .int .i64 at0, .int .i64 er]] wx fun e w' => e = .returned (.tuple #[.agg #[.string s, .int .i64 (stepR false at0 er (getB (s.data.toList.drop at0))).2.1, .int .i64 (stepR false at0 er (getB (s.data.toList.drop at0))).2.2], .bool (stepR false at0 er (getB (s.data.toList.drop at0))).1]) ∧ Below wx.heap.size wx w') := fun wx => refRBool_any s at0 er wx hs
  have HP : Hid (∀ wx : World, ReaderAt wx p base cap s.data.toList at0 er → Calls Try.prog 27 #[.pointer (some ⟨p, 0, none⟩)] wx fun e w' => e = .returned (.bool (stepR false at0 er (getB (s.data.toList.drop at0))).1) ∧ ReaderAt w' p base cap s.data.toList (stepR false at0 er (getB (s.data.toList.drop at0))).2.1 (stepR false at0 er (getB (s.data.toList.drop at0))).2.2 ∧ wx.grownBy w' (some p)) := fun wx hx => bool_any hx
  clear h
  generalize stepR false at0 er (getB (s.data.toList.drop at0)) = q at *
  obtain ⟨v, a1, e1⟩ := q
  go_enter Try.func9, Try.ntmps9
  go_wp2_with fail
  refine (HC.out _).mono ?_
  rintro e' w1 ⟨rfl, hb⟩
  have hz : w.heap.size + 3 ≤ w1.heap.size := by have := hb.size; simp at this; omega
  have hB1 : Below w.heap.size w w1 := (((below1 w _).alloc (by simp) _).alloc (by simp; omega) _).trans (hb.mono (by simp; omega))
  obtain ⟨hc, hf⟩ := bcell hb
  have r0 : w1.cell? ⟨w.heap.size + 1 + 1, 0, none⟩ = some (.string ⟨#[]⟩) := by rw [hc (w.heap.size + 1 + 1) 0 (by simp), World.cell?_alloc_at _ _ _ _ (by simp)]; rfl
  have r1 : w1.cell? ⟨w.heap.size + 1 + 1, 1, none⟩ = some (.int .i64 0) := by rw [hc (w.heap.size + 1 + 1) 1 (by simp), World.cell?_alloc_at _ _ _ _ (by simp)]; rfl
  have r2 : w1.cell? ⟨w.heap.size + 1 + 1, 2, none⟩ = some (.int .i64 0) := by rw [hc (w.heap.size + 1 + 1) 2 (by simp), World.cell?_alloc_at _ _ _ _ (by simp)]; rfl
  have rf : ∀ j, w1.frozen? ⟨w.heap.size + 1 + 1, j, none⟩ = false := fun j => by rw [hf (w.heap.size + 1 + 1) j (by simp), World.frozen?_alloc_at _ _ _ _ (by simp)]
  have HB1 : Hid (Below w.heap.size w w1) := hB1
  have hbase : Hid (s.data.toList = [] ∨ ∃ b o, base = some ⟨b, o, none⟩ ∧ b ≠ w.heap.size + 1 + 1) := by
    rcases HR.out.row with h | ⟨b, o, h1, h2⟩
    · exact .inl h
    · by_cases h0 : s.data.toList = []
      · exact .inl h0
      · have hpos : 0 < s.data.toList.length := by
          rcases Nat.eq_zero_or_pos s.data.toList.length with h | h
          · exact absurd (List.length_eq_zero_iff.1 h) h0
          · exact h
        have := World.block_lt_of_cell? w _ (h2 0 hpos)
        exact .inr ⟨b, o, h1, by simp at this; omega⟩
  clear hc hf hb hB1
  go_wp2_with fail
  first | go_region_with (first
    | (go_at_call 27; refine (HP.out _ ?_).mono ?_; exact (HR.out.below (HB1.out.alloc (by omega) _) (Nat.le_refl _)).drew; rintro e' w2 ⟨rfl, hr2, hg2⟩; have hbx := kept_box (q := w1.heap.size) (x0 := .string s) (x1 := .int .i64 a1) (x2 := .int .i64 e1) hg2 (by omega) (by simp) (by simp) (by simp) (by simp); obtain ⟨x0, x1, x2, xf⟩ := hbx; have hbr := kept_box (q := w.heap.size + 1 + 1) hg2 (by omega) (Lib.cell?_alloc_some _ r0) (Lib.cell?_alloc_some _ r1) (Lib.cell?_alloc_some _ r2) (fun j => ((below1 w1 _).frozen (p := ⟨w.heap.size + 1 + 1, j, none⟩) (by show w.heap.size + 1 + 1 < w1.heap.size; omega)).trans (rf j)); obtain ⟨y0, y1, y2, yf⟩ := hbr; have HG : Hid (ReaderAt w2 p base cap s.data.toList a1 e1 ∧ w.grownBy w2 (some p)) := ⟨hr2, grownBy_trans (grownBy_below _ (HB1.out.alloc (by omega) _)) (grownBy_trans (grownBy_below _ drew_belowS) hg2)⟩; clear hr2 hg2)) | fail
  all_goals go_wp2
  all_goals refine bodyPost_ret (v := .tuple #[.agg #[.string s, .int .i64 a1, .int .i64 e1], .bool true]) (by simp [results, Try.results9, go_sem, y0, y1, y2]) rfl ⟨rfl, ?_, ?_⟩
  all_goals first
    | exact ((HG.out.1.far _ (by omega) hbase.out).far _ (by omega) hbase.out).far _ (by omega) hbase.out
    | exact grownBy_set (grownBy_set (grownBy_set HG.out.2 (by simp; omega) _) (by simp; omega) _) (by simp; omega) _
end Go.Proofs.Ytffedjgbhdaecaa
