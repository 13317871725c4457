import Derived.Test.YtghhamgealkodaaGreatDoorProg
import Derived.WalkKit
import Derived.WalkSpells
import Derived.Lib.Walk
import Derived.Lib.Zigzag
import Derived.Lib.VarintMem
import Derived.Lib.VarintDec
import Derived.OwnWalk
import Derived.Lib.UnsafeStr
import Derived.Laws.AppendOwnNone
import Derived.Lib.SliceRun
import Derived.Lib.AppendZerosOnto
import Derived.Lib.ConvBytes
import Derived.Lib.EndianBits
import Derived.Lib.MinMax
import Derived.Laws.IdiomStrings
import Derived.Deep.QuietTactic
import Derived.BigQuiet
import Derived.Lib.Strings
import Derived.Laws.DeepStrings4
/- Bytes, numbers and texts: all of the base in one text. -/
/- The fold of a number, and back: what the program's two small functions answer. -/
namespace Go.Proofs.YtghhamgealkodaaGreatDoor
open Go.RowKit

end Go.Proofs.YtghhamgealkodaaGreatDoor
/- A number as bytes: what intBytes makes, in memory of its own. -/
namespace Go.Proofs.YtghhamgealkodaaGreatDoor
open Go.RowKit

set_option maxRecDepth 100000 in
theorem info_u8 : (Tryz.prog.info? 5).map (fun i => (i.zero, i.size, i.bytes)) = some (some (.int .u8 0), 1, 1) := by kernel_rfl

end Go.Proofs.YtghhamgealkodaaGreatDoor
/- Bytes in memory: what a slice value reads as, and what that is good for. Nothing here is of one program. -/
namespace Go.Proofs.YtghhamgealkodaaGreatDoor
open Go.RowKit

/-- The slice value v reads in the world w as the bytes bs. -/
def bytesAt (w : World) (v : Value) (bs : List UInt8) : Prop :=
  ∃ base cap, v = .slice base bs.length cap ∧ (base = none → bs = [] ∧ cap = 0) ∧ bs.length ≤ cap ∧ cap ≤ maxLen ∧
    ∀ a, base = some a → ∀ j u, (Lib.byteCells bs)[j]? = some u → w.cell? (a.add j) = some u

theorem bytes_one (l : List UInt8) : ∀ v ∈ Lib.byteCells l, v.oneCell' = true := by
  intro v hv
  simp only [Lib.byteCells, List.mem_map] at hv
  obtain ⟨b, _, rfl⟩ := hv
  rfl

end Go.Proofs.YtghhamgealkodaaGreatDoor
/- slices.Clone at bytes. -/
namespace Go.Proofs.YtghhamgealkodaaGreatDoor
open Go.RowKit

end Go.Proofs.YtghhamgealkodaaGreatDoor
/- slices.Grow of nothing and slices.Concat, at bytes. -/
namespace Go.Proofs.YtghhamgealkodaaGreatDoor
open Go.RowKit

end Go.Proofs.YtghhamgealkodaaGreatDoor
/- PutInt, PutBool, PutText: the bytes, and what is put behind them, in memory of the call's own. -/
namespace Go.Proofs.YtghhamgealkodaaGreatDoor
open Go.RowKit

theorem bytesWorld_below (w : World) (e : TypeId) (s : ByteArray) : Below w.heap.size w (Lib.bytesWorld w e s) := by
  refine ⟨rfl, rfl, rfl, by rw [Lib.bytesWorld_size]; omega, fun k hk => Lib.bytesWorld_at_old w e s k hk⟩

end Go.Proofs.YtghhamgealkodaaGreatDoor
/- Reading a number off bytes. -/
namespace Go.Proofs.YtghhamgealkodaaGreatDoor
open Go.RowKit

/-- The slice that begins at base reads in w as bs. -/
def rowAt (w : World) (base : Option Addr) (bs : List UInt8) : Prop :=
  bs = [] ∨ ∃ b o, base = some ⟨b, o, none⟩ ∧ ∀ j (h : j < bs.length), w.cell? ⟨b, o + j, none⟩ = some (.int .u8 (bs[j].toNat : Int))

end Go.Proofs.YtghhamgealkodaaGreatDoor
/- getInt: what it answers, of any bytes. -/
namespace Go.Proofs.YtghhamgealkodaaGreatDoor
open Go.RowKit

end Go.Proofs.YtghhamgealkodaaGreatDoor
/- getBool, getCount, getText: what they answer, of any bytes. -/
namespace Go.Proofs.YtghhamgealkodaaGreatDoor
open Go.RowKit

end Go.Proofs.YtghhamgealkodaaGreatDoor
/- getText: what it answers, of any bytes. -/
namespace Go.Proofs.YtghhamgealkodaaGreatDoor
open Go.RowKit

theorem add_plain (b o j : Nat) : (⟨b, o, none⟩ : Addr).add j = ⟨b, o + j, none⟩ := by
  unfold Addr.add
  split
  · simp_all
  · simp

set_option maxRecDepth 100000 in
theorem conv_row (w : World) (base : Option Addr) (bs : List UInt8) (cap : Nat) (hr : rowAt w base bs) :
    (convert 129 9 (.slice base bs.length cap)).run Tryz.prog w = .ok (.string ⟨bs.toArray⟩) w := by
  rw [run_convert_bytes_string w 129 9 5 base bs.length cap Tryz.underlying129 Tryz.underlying5 Tryz.underlying9]
  cases base with
  | none =>
    rcases hr with rfl | ⟨b, o, h, _⟩
    · simp [Conv.bytesToString]; rfl
    · cases h
  | some a =>
    have hl : (loadCells a bs.length).run Tryz.prog w = .ok ((bs.map fun b => (b.toNat : Int)).map (Value.int .u8)).toArray w := by
      have h := run_loadCells_list (P := Tryz.prog) w a (Lib.byteCells bs) (fun j v hj => by
        rcases hr with rfl | ⟨b, o, h, hcell⟩
        · simp [Lib.byteCells] at hj
        · cases h
          have hjl : j < bs.length := by
            rcases Nat.lt_or_ge j bs.length with h | h
            · exact h
            · rw [List.getElem?_eq_none (by rw [Lib.byteCells_length]; exact h)] at hj; cases hj
          rw [add_plain, hcell j hjl]
          unfold Lib.byteCells at hj
          rw [List.getElem?_map, List.getElem?_eq_getElem hjl] at hj
          exact hj)
      rw [Lib.byteCells_length] at h
      rw [h]
      simp [Lib.byteCells]
    rw [run_bytesToString w a bs.length cap _ hl, foldl_push_byteCells]
    simp [ByteArray.empty, ByteArray.emptyWithCapacity]
    rfl

end Go.Proofs.YtghhamgealkodaaGreatDoor
/- A reader: what it stands for in memory, and what read does with it. -/
namespace Go.Proofs.YtghhamgealkodaaGreatDoor
open Go.RowKit

/-- In the world w a reader lies in block p: of the bytes bs, it stands at at0, and its error is er. -/
structure ReaderAt (w : World) (p : Nat) (base : Option Addr) (cap : Nat) (bs : List UInt8) (at0 er : Nat) : Prop where
  made : w.cell? ⟨p, 0, none⟩ = some (.bool true)
  b : w.cell? ⟨p, 1, none⟩ = some (.slice base bs.length cap)
  at_ : w.cell? ⟨p, 2, none⟩ = some (.int .i64 at0)
  err : w.cell? ⟨p, 3, none⟩ = some (.int .i64 er)
  f2 : w.frozen? ⟨p, 2, none⟩ = false
  f3 : w.frozen? ⟨p, 3, none⟩ = false
  row : rowAt w base bs
  len : bs.length ≤ cap
  cap : cap ≤ maxLen
  at_le : at0 ≤ bs.length
  apart : ∀ a, base = some a → a.block ≠ p
  er9 : er ≤ 9

/-- The row of a slice is as it was, where the blocks are. -/
theorem rowAt_kept {w w' : World} {base : Option Addr} {bs : List UInt8} (h : rowAt w base bs) (hk : ∀ a, base = some a → a.block < w.heap.size → w'.heap[a.block]? = w.heap[a.block]?) : rowAt w' base bs := by
  rcases h with h | ⟨b, o, hb, hc⟩
  · exact .inl h
  · refine .inr ⟨b, o, hb, fun j hj => ?_⟩
    have h1 := hc j hj
    rw [World.cell?_of_block (w := w) (a := ⟨b, o + j, none⟩) (hk ⟨b, o, none⟩ hb (show b < w.heap.size from World.block_lt_of_cell? w ⟨b, o + j, none⟩ h1))]
    exact h1

/-- What was done elsewhere leaves a reader as it was. -/
theorem ReaderAt.kept {w w' : World} {p : Nat} {base : Option Addr} {cap : Nat} {bs : List UInt8} {at0 er : Nat} (h : ReaderAt w p base cap bs at0 er)
    (hk : ∀ k, k < w.heap.size → (k = p ∨ ∃ a, base = some a ∧ a.block = k) → w'.heap[k]? = w.heap[k]?) : ReaderAt w' p base cap bs at0 er := by
  have hp := hk p (World.block_lt_of_cell? w _ h.made) (.inl rfl)
  exact ⟨(World.cell?_of_block (w := w) (a := ⟨p, 0, none⟩) hp).trans h.made, (World.cell?_of_block (w := w) (a := ⟨p, 1, none⟩) hp).trans h.b,
    (World.cell?_of_block (w := w) (a := ⟨p, 2, none⟩) hp).trans h.at_, (World.cell?_of_block (w := w) (a := ⟨p, 3, none⟩) hp).trans h.err,
    (World.frozen?_of_block (w := w) (a := ⟨p, 2, none⟩) hp).trans h.f2, (World.frozen?_of_block (w := w) (a := ⟨p, 3, none⟩) hp).trans h.f3,
    rowAt_kept h.row (fun a ha hl => hk a.block hl (.inr ⟨a, ha, rfl⟩)), h.len, h.cap, h.at_le, h.apart, h.er9⟩

theorem ReaderAt.below {w w' : World} {B p : Nat} {base : Option Addr} {cap : Nat} {bs : List UInt8} {at0 er : Nat} (h : ReaderAt w p base cap bs at0 er) (hb : Below B w w') (hB : w.heap.size ≤ B) : ReaderAt w' p base cap bs at0 er :=
  h.kept fun k hk _ => hb.block k (by omega)

theorem ReaderAt.other {w w' : World} {p q : Nat} {base : Option Addr} {cap : Nat} {bs : List UInt8} {at0 er : Nat} (h : ReaderAt w p base cap bs at0 er) (hg : w.grownBy w' (some q)) (hq : p ≠ q) (ha : ∀ a, base = some a → a.block ≠ q) : ReaderAt w' p base cap bs at0 er :=
  h.kept fun k hk hor => hg.block k hk (fun e => by
    cases e
    rcases hor with h1 | ⟨a, h1, h2⟩
    · exact hq h1.symm
    · exact ha a h1 h2)

theorem grownBy_refl (w : World) (r : Option Nat) : w.grownBy w r := ⟨rfl, rfl, rfl, Nat.le_refl _, fun _ _ _ => rfl⟩
end Go.Proofs.YtghhamgealkodaaGreatDoor
/- What read does at a truth, a count and a text. -/
namespace Go.Proofs.YtghhamgealkodaaGreatDoor
open Go.RowKit

end Go.Proofs.YtghhamgealkodaaGreatDoor
/- A reader's calls: NewReader, Int, Bool, Count, Text, At, Err, End. -/
namespace Go.Proofs.YtghhamgealkodaaGreatDoor
open Go.RowKit

theorem own_row {w : World} {B e n : Nat} {v : Value} {bs : List UInt8} (h : w.ownsRow B e 1 v n (Lib.byteCells bs)) :
    ∃ base cap, v = .slice base bs.length cap ∧ rowAt w base bs ∧ bs.length ≤ cap ∧ cap ≤ maxLen ∧ (∀ a, base = some a → B ≤ a.block ∧ a.block < w.heap.size) := by
  have hl := h.1
  rw [Lib.byteCells_length, Nat.mul_one] at hl
  have hlt := h.lt
  obtain ⟨h1, h2⟩ := h
  rcases h2 with ⟨rfl, rfl⟩ | ⟨g, cap, cur, rfl, hg, hh, hnc, hm, hs, ht⟩
  · obtain rfl : bs = [] := List.length_eq_zero_iff.1 hl
    exact ⟨none, 0, rfl, .inl rfl, Nat.le_refl _, Nat.zero_le _, fun a ha => by cases ha⟩
  · refine ⟨some ⟨g, 0, none⟩, cap, by rw [hl], ?_, by omega, hm, fun a ha => by cases ha; exact hlt g rfl⟩
    have h' : w.ownsRow B e 1 (.slice (some ⟨g, 0, none⟩) n cap) n (Lib.byteCells bs) := ⟨h1, .inr ⟨g, cap, cur, rfl, hg, hh, hnc, hm, hs, ht⟩⟩
    refine .inr ⟨g, 0, rfl, fun j hj => ?_⟩
    have hc := h'.cells rfl j (.int .u8 (bs[j].toNat : Int)) (by unfold Lib.byteCells; rw [List.getElem?_map, List.getElem?_eq_getElem hj]; rfl)
    rw [add_plain] at hc
    exact hc

theorem bytesAt_lit {w : World} {bs : List UInt8} {g n : Nat} (hn : n = bs.length) (hm : n ≤ maxLen) (hc : ∀ j u, (Lib.byteCells bs)[j]? = some u → w.cell? ⟨g, j, none⟩ = some u) : bytesAt w (.slice (some ⟨g, 0, none⟩) n n) bs := by
  subst hn
  refine ⟨some ⟨g, 0, none⟩, bs.length, rfl, (fun h => by cases h), Nat.le_refl _, hm, fun a ha j u hj => ?_⟩
  cases ha
  rw [add_plain, Nat.zero_add]
  exact hc j u hj

end Go.Proofs.YtghhamgealkodaaGreatDoor
/- append of any bytes (nil among them) onto bytes that are owned, in one law. -/
namespace Go.Proofs.YtghhamgealkodaaGreatDoor
open Go.RowKit

set_option maxRecDepth 100000 in
theorem append_bytes {ops : Array Oper} {rest : List Oper} {o : Oper} {a : Act} {w : World} {Q : Exit → Act → World → Prop} (hgd : o.guard = none) (s x : Operand)
    (ho : o.op = .call { callee := .builtin .append, args := #[s, x], argTypes := #[129, 129] })
    (B : Nat) (v : Value) (us : List UInt8) (hs : a.eval s = v) (hown : w.ownsRow B 5 1 v us.length (Lib.byteCells us)) (xv : Value) (bs : List UInt8) (hx : a.eval x = xv) (hv : bytesAt w xv bs)
    (hb : us.length + bs.length ≤ 140737488355328) (hB : B ≤ w.heap.size)
    (h : ∀ v' w', w'.ownsRow B 5 1 v' (us ++ bs).length (Lib.byteCells (us ++ bs)) → w.grownBy w' v.ownBlock → wpList Tryz.prog ops Q rest (a.put o.dst v') w') : wpList Tryz.prog ops Q (o :: rest) a w := by
  obtain ⟨i0, hi, hz0, hz1, hz2⟩ := info_parts info_u8
  obtain ⟨base, cap, rfl, hn, h1, h2, hc⟩ := hv
  cases base with
  | none =>
    obtain ⟨rfl, rfl⟩ := hn rfl
    refine wpList_append_own_none hgd s x 129 ho B 5 i0 1 Tryz.underlying129 hi v us.length _ hs hown hx ?_
    refine h v w ?_ (grownBy_refl _ _)
    rw [List.append_nil]; exact hown
  | some ad =>
    refine wpList_append_own _ hgd s x 129 ho B 5 i0 (.int .u8 0) 1 1 Tryz.underlying129 hi hz0 hz1 hz2 rfl (by decide) v us.length _ hs hown ad bs.length cap (Lib.byteCells bs) hx (by rw [Lib.byteCells_length, Nat.mul_one]) (hc ad rfl) (bytes_one bs) (by unfold maxLen; omega) (by omega) hB ?_
    intro v' w' ho' hg' _
    refine h v' w' ?_ hg'
    rw [List.length_append, Lib.byteCells_append]
    exact ho'

theorem bytesAt_one {w : World} {g r : Nat} (hr : r < 256) (hc : w.cell? ⟨g, 0, none⟩ = some (.int .u8 (r : Int))) : bytesAt w (.slice (some ⟨g, 0, none⟩) 1 1) [r.toUInt8] :=
  bytesAt_lit rfl (by unfold maxLen; decide) (fun j u hj => by
    match j, hj with
    | 0, hj => simp [Lib.byteCells, Lib.toUInt8_toNat hr] at hj; subst hj; exact hc)
end Go.Proofs.YtghhamgealkodaaGreatDoor
/- A region that draws its order, whose operations only read and whose callees may make memory, each answer the same in every grown world: walked once, in the order of the text. -/
namespace Go.Proofs.YtghhamgealkodaaGreatDoor
open Go.RowKit

/-- The worlds that grew from w, below n as it was. -/
def Cls (n : Nat) (w : World) : Type := { wx : World // Below n w wx }

instance clsOne (n : Nat) (w : World) : Nonempty (Cls n w) := ⟨⟨w, Below.refl _ _⟩⟩

end Go.Proofs.YtghhamgealkodaaGreatDoor
/- Strings: a piece, a byte; in lists of bytes. -/
namespace Go.Proofs.YtghhamgealkodaaGreatDoor
open Go.RowKit

/-- A string of bytes. -/
abbrev strB (l : List UInt8) : ByteArray := ⟨l.toArray⟩

theorem strB_size (l : List UInt8) : (strB l).size = l.length := rfl

theorem strB_extract (l : List UInt8) (a b : Nat) : (strB l).extract a b = strB ((l.drop a).take (b - a)) := by
  have e := Lib.extract_data (strB l) a b
  have e2 : (strB l).data.toList = l := rfl
  rw [e2] at e
  show _ = (⟨_⟩ : ByteArray)
  rw [← e]

set_option maxRecDepth 100000 in
theorem str_from (w : World) (l : List UInt8) (a : Nat) (h : a ≤ l.length) :
    (Instr.slice 9 (.string (strB l)) (some (.int .i64 (a : Int))) none none).run Tryz.prog w = .ok (.string (strB (l.drop a))) w := by
  rw [run_slice_string_from_if (P := Tryz.prog) (w := w) 9 (strB l) .i64 _ Tryz.underlying9, if_pos ⟨by omega, by rw [strB_size]; omega⟩]
  rw [Int.toNat_natCast, strB_extract, strB_size, List.take_of_length_le (by rw [List.length_drop]; omega)]

set_option maxRecDepth 100000 in
theorem str_to (w : World) (l : List UInt8) (b : Nat) (h : b ≤ l.length) :
    (Instr.slice 9 (.string (strB l)) none (some (.int .i64 (b : Int))) none).run Tryz.prog w = .ok (.string (strB (l.take b))) w := by
  rw [run_slice_string_to_if (P := Tryz.prog) (w := w) 9 (strB l) .i64 _ Tryz.underlying9, if_pos ⟨by omega, by rw [strB_size]; omega⟩]
  rw [Int.toNat_natCast, strB_extract, List.drop_zero, Nat.sub_zero]

set_option maxRecDepth 100000 in
theorem str_sub (w : World) (l : List UInt8) (a n : Nat) (h : a + n ≤ l.length) :
    (Instr.slice 9 (.string (strB l)) (some (.int .i64 (a : Int))) (some (.int .i64 ((a : Int) + (n : Int)))) none).run Tryz.prog w = .ok (.string (strB ((l.drop a).take n))) w := by
  rw [run_slice_string_if (P := Tryz.prog) (w := w) 9 (strB l) .i64 .i64 _ _ Tryz.underlying9, if_pos ⟨by omega, by rw [strB_size]; omega⟩, if_pos ⟨by omega, by omega⟩]
  have e1 : ((a : Int) + (n : Int)).toNat = a + n := by omega
  rw [e1, Int.toNat_natCast, strB_extract, show a + n - a = n by omega]
end Go.Proofs.YtghhamgealkodaaGreatDoor
/- lex: kinds of bytes, rows of them. -/
namespace Go.Proofs.YtghhamgealkodaaGreatDoor
open Go.RowKit

def letterN (n : Nat) : Bool := n == 95 || (decide (97 ≤ n) && decide (n ≤ 122)) || (decide (65 ≤ n) && decide (n ≤ 90))
def digitN (n : Nat) : Bool := decide (48 ≤ n) && decide (n ≤ 57)
def blankN (n : Nat) : Bool := n == 32 || n == 9 || n == 10
def noEndN (n : Nat) : Bool := n != 10

theorem retb {a b : Bool} (h : a = b) : Ending.returned (.bool a) = .returned (.bool b) := by rw [h]

set_option maxHeartbeats 1000000 in
set_option maxRecDepth 100000 in
theorem beginsName_any (n : Nat) (hn : n < 256) (w : World) :
    Calls Tryz.prog 162 #[.int .u8 n] w fun e w' => e = .returned (.bool (letterN n)) ∧ w = w' := by
  go_enter Tryz.func162, Tryz.ntmps162
  go_wp2
  all_goals go_ret
  all_goals refine ⟨retb ?_, rfl⟩
  all_goals (rw [Bool.eq_iff_iff]; simp [letterN]; try omega)

set_option maxHeartbeats 1000000 in
set_option maxRecDepth 100000 in
theorem isDigit_any (n : Nat) (hn : n < 256) (w : World) :
    Calls Tryz.prog 164 #[.int .u8 n] w fun e w' => e = .returned (.bool (digitN n)) ∧ w = w' := by
  go_enter Tryz.func164, Tryz.ntmps164
  go_wp2
  all_goals go_ret
  all_goals refine ⟨retb ?_, rfl⟩
  all_goals (rw [Bool.eq_iff_iff]; simp [digitN]; try omega)

set_option maxHeartbeats 1000000 in
set_option maxRecDepth 100000 in
theorem isBlank_any (n : Nat) (hn : n < 256) (w : World) :
    Calls Tryz.prog 157 #[.int .u8 n] w fun e w' => e = .returned (.bool (blankN n)) ∧ w = w' := by
  go_enter Tryz.func157, Tryz.ntmps157
  go_wp2
  all_goals go_ret
  all_goals refine ⟨retb ?_, rfl⟩
  all_goals (rw [Bool.eq_iff_iff]; simp [blankN]; try omega)

set_option maxHeartbeats 1000000 in
set_option maxRecDepth 100000 in
theorem gap1_any (n : Nat) (_ : n < 256) (w : World) :
    Calls Tryz.prog 158 #[.int .u8 n] w fun e w' => e = .returned (.bool (noEndN n)) ∧ w = w' := by
  go_enter Tryz.func158, Tryz.ntmps158
  go_wp2
  all_goals go_ret
  all_goals refine ⟨retb ?_, rfl⟩
  all_goals (rw [Bool.eq_iff_iff]; simp [noEndN]; try omega)

def nameN (n : Nat) : Bool := letterN n || digitN n

set_option maxHeartbeats 1000000 in
set_option maxRecDepth 100000 in
theorem name1_any (n : Nat) (hn : n < 256) (w : World) :
    Calls Tryz.prog 187 #[.int .u8 n] w fun e w' => e = .returned (.bool (nameN n)) ∧ w = w' := by
  cases h1 : letterN n with
  | true =>
    have c1 := beginsName_any n hn w
    rw [h1] at c1
    go_enter Tryz.func187, Tryz.ntmps187
    go_wp2_with fail
    refine c1.mono ?_
    rintro e w1 ⟨rfl, rfl⟩
    go_wp2
    go_ret
    exact ⟨retb (by simp [nameN, h1]), rfl⟩
  | false =>
    have c1 := beginsName_any n hn w
    rw [h1] at c1
    go_enter Tryz.func187, Tryz.ntmps187
    go_wp2_with fail
    refine c1.mono ?_
    rintro e w1 ⟨rfl, rfl⟩
    go_wp2_with fail
    refine (isDigit_any n hn w).mono ?_
    rintro e w1 ⟨rfl, rfl⟩
    go_wp2
    go_ret
    exact ⟨retb (by simp [nameN, h1]), rfl⟩

theorem row_len (p : UInt8 → Bool) : ∀ (l : List UInt8) (k : Nat), k ≤ l.length → (∀ j (h : j < l.length), j < k → p l[j] = true) → (∀ h : k < l.length, p l[k] = false) → (l.takeWhile p).length = k
  | [], k, hk, _, _ => by simp at hk; simp [hk]
  | x :: l, 0, _, _, h2 => by
    have := h2 (by simp)
    simp at this
    simp [this]
  | x :: l, k + 1, hk, h1, h2 => by
    have h0 : p x = true := h1 0 (by simp) (by omega)
    have := row_len p l k (by simpa using hk) (fun j h hj => h1 (j + 1) (by simpa using h) (by omega)) (fun h => h2 (by simpa using h))
    simp [h0, this]

set_option maxHeartbeats 1000000 in
set_option maxRecDepth 100000 in
theorem row_blank (l : List UInt8) (w : World) (hl : l.length ≤ 9223372036854775000) :
    Calls Tryz.prog 156 #[.string (strB l), .func (.func 157) #[] #[]] w fun e w' => e = .returned (.int .i64 (l.takeWhile fun c => blankN c.toNat).length) ∧ w = w' := by
  obtain ⟨p, hpe⟩ : ∃ p : UInt8 → Bool, p = fun c => blankN c.toNat := ⟨_, rfl⟩
  have HK : Hid (∀ (c : UInt8) (wx : World), Calls Tryz.prog 157 #[.int .u8 (c.toNat : Int)] wx fun e w' => e = .returned (.bool (p c)) ∧ wx = w') := fun c wx => by rw [hpe]; exact isBlank_any c.toNat (UInt8.toNat_lt c) wx
  rw [← hpe]
  clear hpe
  have hsz : (strB l).size = l.length := rfl
  go_enter Tryz.func156, Tryz.ntmps156
  go_wp2
  go_loop [5] (fun v => ∃ i : Nat, i ≤ l.length ∧ v = .int .i64 i ∧ ∀ j (h : j < l.length), j < i → p l[j] = true) (fun v => l.length - (intOf v).toNat)
  case atStart => exact ⟨0, Nat.zero_le _, rfl, fun j h hj => by omega⟩
  case round =>
    obtain ⟨i, hi, rfl, hall⟩ := hrel
    have HA : Hid (∀ j (h : j < l.length), j < i → p l[j] = true) := hall
    clear hall
    by_cases hlt : i < l.length
    · have hidx : ∀ wx, (Instr.index 9 (.string (strB l)) (.int .i64 (i : Int))).run Tryz.prog wx = .ok (.int .u8 ((l[i]).toNat : Int)) wx := fun wx => by
        rw [run_index_string (P := Tryz.prog) (w := wx) 9 (strB l) .i64 _ Tryz.underlying9, dif_pos ⟨by omega, by rw [strB_size]; omega⟩]
        simp only [Int.toNat_natCast]
        rfl
      go_wp2_with fail
      refine (HK.out l[i] w).mono ?_
      rintro e w1 ⟨rfl, rfl⟩
      cases hp : p l[i] with
      | true =>
        go_wp2
        refine ⟨⟨i + 1, by omega, by go_num, fun j h hj => ?_⟩, by simp [intOf]; omega⟩
        by_cases hji : j < i
        · exact HA.out j h hji
        · obtain rfl : j = i := by omega
          exact hp
      | false =>
        have HL : Hid ((l.takeWhile p).length = i) := row_len p l i hi HA.out (fun _ => hp)
        go_wp2
        go_ret
        rw [HL.out]
        exact ⟨rfl, rfl⟩
    · obtain rfl : i = l.length := by omega
      have HL : Hid ((l.takeWhile p).length = l.length) := row_len p l l.length hi HA.out (fun h => absurd h (by omega))
      go_wp2
      go_ret
      rw [HL.out]
      exact ⟨rfl, rfl⟩

set_option maxHeartbeats 1000000 in
set_option maxRecDepth 100000 in
theorem row_digit (l : List UInt8) (w : World) (hl : l.length ≤ 9223372036854775000) :
    Calls Tryz.prog 156 #[.string (strB l), .func (.func 164) #[] #[]] w fun e w' => e = .returned (.int .i64 (l.takeWhile fun c => digitN c.toNat).length) ∧ w = w' := by
  obtain ⟨p, hpe⟩ : ∃ p : UInt8 → Bool, p = fun c => digitN c.toNat := ⟨_, rfl⟩
  have HK : Hid (∀ (c : UInt8) (wx : World), Calls Tryz.prog 164 #[.int .u8 (c.toNat : Int)] wx fun e w' => e = .returned (.bool (p c)) ∧ wx = w') := fun c wx => by rw [hpe]; exact isDigit_any c.toNat (UInt8.toNat_lt c) wx
  rw [← hpe]
  clear hpe
  have hsz : (strB l).size = l.length := rfl
  go_enter Tryz.func156, Tryz.ntmps156
  go_wp2
  go_loop [5] (fun v => ∃ i : Nat, i ≤ l.length ∧ v = .int .i64 i ∧ ∀ j (h : j < l.length), j < i → p l[j] = true) (fun v => l.length - (intOf v).toNat)
  case atStart => exact ⟨0, Nat.zero_le _, rfl, fun j h hj => by omega⟩
  case round =>
    obtain ⟨i, hi, rfl, hall⟩ := hrel
    have HA : Hid (∀ j (h : j < l.length), j < i → p l[j] = true) := hall
    clear hall
    by_cases hlt : i < l.length
    · have hidx : ∀ wx, (Instr.index 9 (.string (strB l)) (.int .i64 (i : Int))).run Tryz.prog wx = .ok (.int .u8 ((l[i]).toNat : Int)) wx := fun wx => by
        rw [run_index_string (P := Tryz.prog) (w := wx) 9 (strB l) .i64 _ Tryz.underlying9, dif_pos ⟨by omega, by rw [strB_size]; omega⟩]
        simp only [Int.toNat_natCast]
        rfl
      go_wp2_with fail
      refine (HK.out l[i] w).mono ?_
      rintro e w1 ⟨rfl, rfl⟩
      cases hp : p l[i] with
      | true =>
        go_wp2
        refine ⟨⟨i + 1, by omega, by go_num, fun j h hj => ?_⟩, by simp [intOf]; omega⟩
        by_cases hji : j < i
        · exact HA.out j h hji
        · obtain rfl : j = i := by omega
          exact hp
      | false =>
        have HL : Hid ((l.takeWhile p).length = i) := row_len p l i hi HA.out (fun _ => hp)
        go_wp2
        go_ret
        rw [HL.out]
        exact ⟨rfl, rfl⟩
    · obtain rfl : i = l.length := by omega
      have HL : Hid ((l.takeWhile p).length = l.length) := row_len p l l.length hi HA.out (fun h => absurd h (by omega))
      go_wp2
      go_ret
      rw [HL.out]
      exact ⟨rfl, rfl⟩

set_option maxHeartbeats 1000000 in
set_option maxRecDepth 100000 in
theorem row_noEnd (l : List UInt8) (w : World) (hl : l.length ≤ 9223372036854775000) :
    Calls Tryz.prog 156 #[.string (strB l), .func (.func 158) #[] #[]] w fun e w' => e = .returned (.int .i64 (l.takeWhile fun c => noEndN c.toNat).length) ∧ w = w' := by
  obtain ⟨p, hpe⟩ : ∃ p : UInt8 → Bool, p = fun c => noEndN c.toNat := ⟨_, rfl⟩
  have HK : Hid (∀ (c : UInt8) (wx : World), Calls Tryz.prog 158 #[.int .u8 (c.toNat : Int)] wx fun e w' => e = .returned (.bool (p c)) ∧ wx = w') := fun c wx => by rw [hpe]; exact gap1_any c.toNat (UInt8.toNat_lt c) wx
  rw [← hpe]
  clear hpe
  have hsz : (strB l).size = l.length := rfl
  go_enter Tryz.func156, Tryz.ntmps156
  go_wp2
  go_loop [5] (fun v => ∃ i : Nat, i ≤ l.length ∧ v = .int .i64 i ∧ ∀ j (h : j < l.length), j < i → p l[j] = true) (fun v => l.length - (intOf v).toNat)
  case atStart => exact ⟨0, Nat.zero_le _, rfl, fun j h hj => by omega⟩
  case round =>
    obtain ⟨i, hi, rfl, hall⟩ := hrel
    have HA : Hid (∀ j (h : j < l.length), j < i → p l[j] = true) := hall
    clear hall
    by_cases hlt : i < l.length
    · have hidx : ∀ wx, (Instr.index 9 (.string (strB l)) (.int .i64 (i : Int))).run Tryz.prog wx = .ok (.int .u8 ((l[i]).toNat : Int)) wx := fun wx => by
        rw [run_index_string (P := Tryz.prog) (w := wx) 9 (strB l) .i64 _ Tryz.underlying9, dif_pos ⟨by omega, by rw [strB_size]; omega⟩]
        simp only [Int.toNat_natCast]
        rfl
      go_wp2_with fail
      refine (HK.out l[i] w).mono ?_
      rintro e w1 ⟨rfl, rfl⟩
      cases hp : p l[i] with
      | true =>
        go_wp2
        refine ⟨⟨i + 1, by omega, by go_num, fun j h hj => ?_⟩, by simp [intOf]; omega⟩
        by_cases hji : j < i
        · exact HA.out j h hji
        · obtain rfl : j = i := by omega
          exact hp
      | false =>
        have HL : Hid ((l.takeWhile p).length = i) := row_len p l i hi HA.out (fun _ => hp)
        go_wp2
        go_ret
        rw [HL.out]
        exact ⟨rfl, rfl⟩
    · obtain rfl : i = l.length := by omega
      have HL : Hid ((l.takeWhile p).length = l.length) := row_len p l l.length hi HA.out (fun h => absurd h (by omega))
      go_wp2
      go_ret
      rw [HL.out]
      exact ⟨rfl, rfl⟩

set_option maxHeartbeats 1000000 in
set_option maxRecDepth 100000 in
theorem row_name (l : List UInt8) (w : World) (hl : l.length ≤ 9223372036854775000) :
    Calls Tryz.prog 156 #[.string (strB l), .func (.func 187) #[] #[]] w fun e w' => e = .returned (.int .i64 (l.takeWhile fun c => nameN c.toNat).length) ∧ w = w' := by
  obtain ⟨p, hpe⟩ : ∃ p : UInt8 → Bool, p = fun c => nameN c.toNat := ⟨_, rfl⟩
  have HK : Hid (∀ (c : UInt8) (wx : World), Calls Tryz.prog 187 #[.int .u8 (c.toNat : Int)] wx fun e w' => e = .returned (.bool (p c)) ∧ wx = w') := fun c wx => by rw [hpe]; exact name1_any c.toNat (UInt8.toNat_lt c) wx
  rw [← hpe]
  clear hpe
  have hsz : (strB l).size = l.length := rfl
  go_enter Tryz.func156, Tryz.ntmps156
  go_wp2
  go_loop [5] (fun v => ∃ i : Nat, i ≤ l.length ∧ v = .int .i64 i ∧ ∀ j (h : j < l.length), j < i → p l[j] = true) (fun v => l.length - (intOf v).toNat)
  case atStart => exact ⟨0, Nat.zero_le _, rfl, fun j h hj => by omega⟩
  case round =>
    obtain ⟨i, hi, rfl, hall⟩ := hrel
    have HA : Hid (∀ j (h : j < l.length), j < i → p l[j] = true) := hall
    clear hall
    by_cases hlt : i < l.length
    · have hidx : ∀ wx, (Instr.index 9 (.string (strB l)) (.int .i64 (i : Int))).run Tryz.prog wx = .ok (.int .u8 ((l[i]).toNat : Int)) wx := fun wx => by
        rw [run_index_string (P := Tryz.prog) (w := wx) 9 (strB l) .i64 _ Tryz.underlying9, dif_pos ⟨by omega, by rw [strB_size]; omega⟩]
        simp only [Int.toNat_natCast]
        rfl
      go_wp2_with fail
      refine (HK.out l[i] w).mono ?_
      rintro e w1 ⟨rfl, rfl⟩
      cases hp : p l[i] with
      | true =>
        go_wp2
        refine ⟨⟨i + 1, by omega, by go_num, fun j h hj => ?_⟩, by simp [intOf]; omega⟩
        by_cases hji : j < i
        · exact HA.out j h hji
        · obtain rfl : j = i := by omega
          exact hp
      | false =>
        have HL : Hid ((l.takeWhile p).length = i) := row_len p l i hi HA.out (fun _ => hp)
        go_wp2
        go_ret
        rw [HL.out]
        exact ⟨rfl, rfl⟩
    · obtain rfl : i = l.length := by omega
      have HL : Hid ((l.takeWhile p).length = l.length) := row_len p l l.length hi HA.out (fun h => absurd h (by omega))
      go_wp2
      go_ret
      rw [HL.out]
      exact ⟨rfl, rfl⟩

end Go.Proofs.YtghhamgealkodaaGreatDoor
