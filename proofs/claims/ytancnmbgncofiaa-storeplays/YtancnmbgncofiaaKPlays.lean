/- store: what the law of plays keeps between two rounds. -/
import Derived.Test.YtancnmbgncofiaaKRef4
import Derived.Test.YtancnmbgncofiaaKDone
namespace Go.Proofs.Ytancnmbgncofiaa
open Go.RowKit

def flP (l : List PB) (pos : Int) : Int := match floorF l pos with
  | none => 0
  | some x => x.1
def flS (l : List PB) (pos : Int) : List UInt8 := match floorF l pos with
  | none => []
  | some x => x.2
def flO (l : List PB) (pos : Int) : Bool := match floorF l pos with
  | none => false
  | some _ => true
theorem flV_eq (l : List PB) (pos : Int) : flV l pos = .tuple #[.int .i64 (flP l pos), .string ⟨(flS l pos).toArray⟩, .bool (flO l pos)] := by
  unfold flV flP flS flO
  cases floorF l pos <;> rfl
/-- The bytes that Floor told, as a text, in whatever comes. -/
def FlT (w : World) (v : Value) (s : List UInt8) : Prop := ∀ W, Below w.heap.size w W → (convert 36 9 v).run Try.prog W = .ok (.string ⟨s.toArray⟩) W
theorem FlT.below {w w' : World} {v : Value} {s : List UInt8} (h : FlT w v s) (hb : Below w.heap.size w w') : FlT w' v s := fun W hW => h W (hb.trans (hW.mono hb.size))
theorem kFloorA (N : Nat) (most : Nat) (l : List PB) (h : Nat) (vk : Value) (pos : Int) (w : World) (H : StX N w most l h vk) :
    Calls Try.prog 9 #[.pointer (some ⟨h, 0, none⟩), .int .i64 pos] w fun e w' => ∃ bx nx cx, e = .returned (.tuple #[.int .i64 (flP l pos), .slice bx nx cx, .bool (flO l pos)]) ∧ Hid (Below w.heap.size w w' ∧ FlT w' (.slice bx nx cx) (flS l pos)) := by
  refine (kFloorX N most l h vk pos w H).mono ?_
  rintro e w' ⟨hb, h1⟩
  unfold flP flS flO
  cases hf : floorF l pos with
  | none =>
    rw [hf] at h1
    exact ⟨none, 0, 0, h1, hb, fun W _ => conv_row W none [] 0 (.inl rfl)⟩
  | some x =>
    rw [hf] at h1
    obtain ⟨v, rfl, ho⟩ := h1
    obtain ⟨bx, cx, rfl, -, -⟩ := kown_val ho
    exact ⟨bx, _, cx, rfl, hb, fun W hW => conv_row W bx x.2 cx (krowAt (kbelowRow ho hW)).2⟩

/-- Between two rounds. -/
structure PlIn (w : World) (m : Int) (h mb : Nat) (l : List PB) (vk y : Value) (wr : World) : Prop where
  fi : FiIn w m h l vk wr
  rf : RfIn wr y l
  blk : wr.heap[mb]? = some (.cells #[.int .i64 ((kMost m : Nat) : Int), y] 27 (0, 0))
  lo : w.heap.size ≤ mb
theorem PlIn.lt {w : World} {m : Int} {h mb : Nat} {l : List PB} {vk y : Value} {wr : World} (H : PlIn w m h mb l vk y wr) : mb < wr.heap.size := (Array.getElem?_eq_some_iff.1 H.blk).1
theorem PlIn.below {w : World} {m : Int} {h mb : Nat} {l : List PB} {vk y : Value} {wr w2 : World} (H : PlIn w m h mb l vk y wr) (hb : Below wr.heap.size wr w2) : PlIn w m h mb l vk y w2 :=
  ⟨H.fi.below hb, H.rf.below hb, (hb.block mb H.lt).trans H.blk, H.lo⟩
theorem PlIn.few {w : World} {m : Int} {h mb : Nat} {l : List PB} {vk y : Value} {wr : World} (H : PlIn w m h mb l vk y wr) : l.length ≤ kMost m ∧ kMost m ≤ 64 := ⟨H.fi.s.few, H.fi.s.most1.2⟩

/-- What the store's own Put leaves of the other things. -/
theorem FiIn.putBeside {w : World} {m : Int} {h : Nat} {l : List PB} {vk : Value} {wr w2 : World} (H : FiIn w m h l vk wr) (hk : KpS (fun k => k = h ∨ vk.ownBlock = some k) wr w2) {q : Nat} {a b : Value} (hq : wr.heap[q]? = some (.cells #[a, b] 27 (0, 0))) : w2.heap[q]? = some (.cells #[a, b] 27 (0, 0)) :=
  (hk.block q (Array.getElem?_eq_some_iff.1 hq).1 (H.s.type hq (by decide) (by decide))).trans hq
theorem FiIn.putRow {w : World} {m : Int} {h : Nat} {l : List PB} {vk : Value} {wr w2 : World} (H : FiIn w m h l vk wr) (hk : KpS (fun k => k = h ∨ vk.ownBlock = some k) wr w2) {y : Value} {L : List PB} (hy : RfIn wr y L) : RfIn w2 y L := H.s.keepRow hk hy (by decide) (by decide)
/-- A store into a variable of the document's is nothing to the store. -/
theorem FiIn.set2 {w : World} {m : Int} {h : Nat} {l : List PB} {vk : Value} {wr : World} (H : FiIn w m h l vk wr) {q : Nat} {a b : Value} (c d : Value) (hq : wr.heap[q]? = some (.cells #[a, b] 27 (0, 0))) (hlo : w.heap.size ≤ q) : FiIn w m h l vk ((wr.setCell ⟨q, 0, none⟩ c).setCell ⟨q, 1, none⟩ d) := by
  have hk : KpS (fun k => k = q) wr ((wr.setCell ⟨q, 0, none⟩ c).setCell ⟨q, 1, none⟩ d) := ((KpS.refl (fun k => k = q) wr).set (p := ⟨q, 0, none⟩) _ (fun _ => rfl)).set (p := ⟨q, 1, none⟩) _ (fun _ => rfl)
  obtain ⟨ks, e, hs⟩ := H.s.st
  refine ⟨⟨⟨ks, e, hs.other hk ?_ ?_ ?_⟩, H.s.lo, H.s.lk, H.s.few⟩, (H.b.setCell hlo _).setCell hlo _⟩
  · rintro rfl
    rw [hs.blk] at hq
    simp at hq
  · rintro k e rfl
    obtain ⟨cur, hc⟩ := kown_type hs.row e
    rw [hq] at hc
    simp at hc
  · rintro k cur hc rfl
    rw [hq] at hc
    simp at hc

/-- The document's Put of whatever position. -/
theorem rPutA (w0 : World) (m : Int) (h : Nat) (l : List PB) (vk y : Value) (p : Int) (b : List UInt8) (wx w : World) (HF : FiIn w0 m h l vk wx) (H : RfIn w y l) (hp2 : p ≤ 9223372036854775807) :
    Calls Try.prog 7 #[.agg #[.int .i64 ((kMost m : Nat) : Int), y], .int .i64 p, .string ⟨b.toArray⟩] w fun e w' => ∃ yb yn yc, e = .returned (.tuple #[.agg #[.int .i64 ((kMost m : Nat) : Int), .slice yb yn yc], .int .i64 (if p < 0 then 2 else 0)]) ∧ Hid (RfIn w' (.slice yb yn yc) (actL (kMost m) l (p, b)) ∧ Below w.heap.size w w') := by
  unfold actL
  obtain ⟨base, cap, hv, hc1, hc2⟩ := kown_val H
  by_cases hn : p < 0
  · simp only [hn, if_true]
    subst hv
    refine (rPut_neg _ base _ cap p b w hn).mono ?_
    rintro e w' ⟨rfl, hb⟩
    exact ⟨base, _, cap, rfl, H.below hb, hb⟩
  · simp only [hn, if_false]
    refine (rPut_any (kMost m) l y p b w H HF.s.few HF.s.most1.2 HF.s.rise (by omega) hp2 HF.s.pos).mono ?_
    rintro e w' ⟨y', rfl, hr, hb⟩
    obtain ⟨yb, yc, rfl, -, -⟩ := kown_val hr
    exact ⟨yb, _, yc, rfl, hr, hb⟩
/-- The document's Floor, All. -/
theorem rFloorA (mo : Int) (l : List PB) (y : Value) (pos : Int) (w : World) (H : RfIn w y l) (hl : l.length ≤ 64) :
    Calls Try.prog 10 #[.agg #[.int .i64 mo, y], .int .i64 pos] w fun e w' => e = .returned (.tuple #[.int .i64 (flP l pos), .string ⟨(flS l pos).toArray⟩, .bool (flO l pos)]) ∧ Hid (Below w.heap.size w w') := by
  refine (rFloor_any mo l y pos w H (by omega)).mono ?_
  rintro e w' ⟨rfl, hb⟩
  exact ⟨by rw [flV_eq], hb⟩
end Go.Proofs.Ytancnmbgncofiaa
