/- Bytes, numbers and texts: all of the base in one text. -/
import Derived.Test.YtancnmbgncofiaaProg
import Derived.WalkKit
import Derived.WalkSpells
import Derived.Lib.Walk
import Derived.Lib.Zigzag
import Derived.Lib.VarintMem
import Derived.Lib.VarintDec
import Derived.OwnWalk
import Derived.Lib.UnsafeStr
import Derived.Laws.AppendOwnNone
import Derived.Lib.SliceRun
import Derived.Lib.AppendZerosOnto
import Derived.Lib.ConvBytes
import Derived.Lib.EndianBits
import Derived.Lib.MinMax
import Derived.Laws.IdiomStrings
import Derived.Deep.QuietTactic
import Derived.BigQuiet
/- The fold of a number, and back: what the program's two small functions answer. -/
namespace Go.Proofs.Ytancnmbgncofiaa
open Go.RowKit

theorem unz_odd {f : Nat} (h : f % 2 = 1) : Lib.unzigzag f = -((f / 2 : Nat) : Int) - 1 := by
  unfold Lib.unzigzag; rw [if_neg (by omega)]
theorem unz_even {f : Nat} (h : f % 2 = 0) : Lib.unzigzag f = ((f / 2 : Nat) : Int) := by
  unfold Lib.unzigzag; rw [if_pos h]

end Go.Proofs.Ytancnmbgncofiaa
/- A number as bytes: what intBytes makes, in memory of its own. -/
namespace Go.Proofs.Ytancnmbgncofiaa
open Go.RowKit

set_option maxRecDepth 100000 in
theorem info_u8 : (Try.prog.info? 5).map (fun i => (i.zero, i.size, i.bytes)) = some (some (.int .u8 0), 1, 1) := by kernel_rfl

/-- The bytes of a number. -/
def numB (n : Int) : List UInt8 := Lib.uvarint (Lib.zigzag n)

end Go.Proofs.Ytancnmbgncofiaa
/- Bytes in memory: what a slice value reads as, and what that is good for. Nothing here is of one program. -/
namespace Go.Proofs.Ytancnmbgncofiaa
open Go.RowKit

/-- The slice value v reads in the world w as the bytes bs. -/
def bytesAt (w : World) (v : Value) (bs : List UInt8) : Prop :=
  ∃ base cap, v = .slice base bs.length cap ∧ (base = none → bs = [] ∧ cap = 0) ∧ bs.length ≤ cap ∧ cap ≤ maxLen ∧
    ∀ a, base = some a → ∀ j u, (Lib.byteCells bs)[j]? = some u → w.cell? (a.add j) = some u

theorem bytes_one (l : List UInt8) : ∀ v ∈ Lib.byteCells l, v.oneCell' = true := by
  intro v hv
  simp only [Lib.byteCells, List.mem_map] at hv
  obtain ⟨b, _, rfl⟩ := hv
  rfl

theorem bytesAt_nil (w : World) : bytesAt w (.slice none 0 0) [] := ⟨none, 0, rfl, fun _ => ⟨rfl, rfl⟩, Nat.le_refl _, Nat.zero_le _, fun a h => by cases h⟩

theorem bytesAt_below {w w' : World} {v : Value} {bs : List UInt8} {B : Nat} (h : bytesAt w v bs) (hb : Below B w w') (hB : w.heap.size ≤ B) : bytesAt w' v bs := by
  obtain ⟨base, cap, hv, hn, h1, h2, hc⟩ := h
  refine ⟨base, cap, hv, hn, h1, h2, fun a ha j u hj => ?_⟩
  have hw := hc a ha j u hj
  have hlt := World.block_lt_of_cell? w _ hw
  rw [hb.cell (by omega)]
  exact hw

theorem bytesAt_alloc {w : World} {v : Value} {bs : List UInt8} (h : bytesAt w v bs) (o : Obj) : bytesAt (w.alloc o) v bs :=
  bytesAt_below h ((Below.refl w.heap.size w).alloc (Nat.le_refl _) o) (Nat.le_refl _)

theorem bytesAt_own {w : World} {v : Value} {bs : List UInt8} {B e n : Nat} (h : w.ownsRow B e 1 v n (Lib.byteCells bs)) : bytesAt w v bs := by
  have hl := h.1
  rw [Lib.byteCells_length, Nat.mul_one] at hl
  obtain ⟨_, h2⟩ := h
  rcases h2 with ⟨rfl, rfl⟩ | ⟨g, cap, cur, hv, hg, hh, hnc, hm, hs, ht⟩
  · have : bs = [] := List.length_eq_zero_iff.1 hl
    subst this
    exact bytesAt_nil w
  · subst hv
    refine ⟨some ⟨g, 0, none⟩, cap, by rw [hl], (fun h => by cases h), by omega, hm, fun a ha j u hj => ?_⟩
    have h' : w.ownsRow B e 1 (.slice (some ⟨g, 0, none⟩) n cap) n (Lib.byteCells bs) := ⟨by rw [Lib.byteCells_length]; omega, .inr ⟨g, cap, cur, rfl, hg, hh, hnc, hm, hs, ht⟩⟩
    cases ha
    exact h'.cells rfl j u hj

theorem bytesAt_len {w : World} {v : Value} {bs : List UInt8} (h : bytesAt w v bs) : bs.length ≤ maxLen := by
  obtain ⟨_, cap, _, _, h1, h2, _⟩ := h; omega

/-- A slice value that owns bytes is nil, or lies in a block of its own. -/
theorem own_lt {w : World} {v : Value} {B e n : Nat} {xs : List Value} (h : w.ownsRow B e 1 v n xs) : ∀ k, v.ownBlock = some k → B ≤ k := fun k hk => (h.lt k hk).1

end Go.Proofs.Ytancnmbgncofiaa
/- slices.Clone at bytes. -/
namespace Go.Proofs.Ytancnmbgncofiaa
open Go.RowKit

end Go.Proofs.Ytancnmbgncofiaa
/- slices.Grow of nothing and slices.Concat, at bytes. -/
namespace Go.Proofs.Ytancnmbgncofiaa
open Go.RowKit

/-- The bytes of the first k parts. -/
def catB (ps : List (Value × List UInt8)) (k : Nat) : List UInt8 := ((ps.take k).map (fun p => p.2)).flatten

theorem catB_zero (ps : List (Value × List UInt8)) : catB ps 0 = [] := by simp [catB]
theorem catB_succ (ps : List (Value × List UInt8)) (k : Nat) (h : k < ps.length) : catB ps (k + 1) = catB ps k ++ (ps[k]).2 := by
  unfold catB
  rw [List.take_succ_eq_append_getElem h, List.map_append, List.flatten_append, List.map_singleton, List.flatten_singleton]
theorem catB_le (ps : List (Value × List UInt8)) (k : Nat) : (catB ps k).length ≤ (catB ps ps.length).length := by
  have h : catB ps ps.length = catB ps k ++ ((ps.drop k).map (fun p => p.2)).flatten := by
    unfold catB
    rw [List.take_length]
    rw [← List.flatten_append, ← List.map_append, List.take_append_drop]
  rw [h, List.length_append]; omega

end Go.Proofs.Ytancnmbgncofiaa
/- PutInt, PutBool, PutText: the bytes, and what is put behind them, in memory of the call's own. -/
namespace Go.Proofs.Ytancnmbgncofiaa
open Go.RowKit

theorem numB_len {n : Int} (h0 : -9223372036854775808 ≤ n) (h1 : n ≤ 9223372036854775807) : (numB n).length ≤ 10 :=
  Lib.uvarint_length64 (Lib.zigzag_lt h0 h1)

theorem own_base {B C e n : Nat} {w : World} {v : Value} {xs : List Value} (h : w.ownsRow B e 1 v n xs) (hC : C ≤ B) : w.ownsRow C e 1 v n xs := by
  obtain ⟨h1, h2⟩ := h
  refine ⟨h1, ?_⟩
  rcases h2 with h2 | ⟨g, cap, cur, hv, hg, r⟩
  · exact .inl h2
  · exact .inr ⟨g, cap, cur, hv, by omega, r⟩

/-- A truth's byte. -/
def boolB (is : Bool) : List UInt8 := [if is then 1 else 0]

theorem bytesAt_new1 (w : World) (x : UInt8) : bytesAt (w.alloc (Obj.cells #[Value.int .u8 (x.toNat : Int)] 5)) (Value.slice (some ⟨w.heap.size, 0, none⟩) 1 1) [x] := by
  refine ⟨some ⟨w.heap.size, 0, none⟩, 1, rfl, (fun h => by cases h), Nat.le_refl _, by unfold maxLen; omega, fun a ha j u hj => ?_⟩
  cases ha
  match j, hj with
  | 0, hj => simp [Lib.byteCells] at hj; subst hj; simp [Addr.add]

/-- A text's bytes. -/
def textB (s : ByteArray) : List UInt8 := numB s.size ++ s.data.toList

theorem data_len (s : ByteArray) : s.data.toList.length = s.size := by rw [Array.length_toList]; rfl

theorem bytesWorld_below (w : World) (e : TypeId) (s : ByteArray) : Below w.heap.size w (Lib.bytesWorld w e s) := by
  refine ⟨rfl, rfl, rfl, by rw [Lib.bytesWorld_size]; omega, fun k hk => Lib.bytesWorld_at_old w e s k hk⟩

theorem add_zero' (b j : Nat) : (⟨b, 0, none⟩ : Addr).add j = ⟨b, j, none⟩ := by
  unfold Addr.add
  split
  · simp_all
  · simp

theorem bytesAt_conv (w : World) (e : TypeId) (s : ByteArray) (hs : s.size ≤ maxLen) : bytesAt (Lib.bytesWorld w e s) (.slice (some ⟨w.heap.size, 0, none⟩) s.size (grownCap w s.size 0 e)) s.data.toList := by
  refine ⟨some ⟨w.heap.size, 0, none⟩, grownCap w s.size 0 e, by rw [data_len], (fun h => by cases h), by rw [data_len]; exact grownCap_ge w _ _ _, grownCap_le_maxLen w _ _ _ hs, fun a ha j u hj => ?_⟩
  cases ha
  have hjl : j < s.data.toList.length := by
    rcases Nat.lt_or_ge j s.data.toList.length with h | h
    · exact h
    · rw [List.getElem?_eq_none (by rw [Lib.byteCells_length]; exact h)] at hj; cases hj
  have h := Lib.bytesWorld_cell w e s j (by rw [← data_len]; exact hjl)
  have e1 : (⟨w.heap.size, 0, none⟩ : Addr).add j = ⟨w.heap.size, j, none⟩ := add_zero' w.heap.size j
  rw [e1, h]
  unfold Lib.byteCells at hj
  rw [List.getElem?_map, List.getElem?_eq_getElem hjl] at hj
  rw [List.getD_eq_getElem?_getD, List.getElem?_eq_getElem hjl]
  exact hj

end Go.Proofs.Ytancnmbgncofiaa
/- Reading a number off bytes. -/
namespace Go.Proofs.Ytancnmbgncofiaa
open Go.RowKit

/-- The slice that begins at base reads in w as bs. -/
def rowAt (w : World) (base : Option Addr) (bs : List UInt8) : Prop :=
  bs = [] ∨ ∃ b o, base = some ⟨b, o, none⟩ ∧ ∀ j (h : j < bs.length), w.cell? ⟨b, o + j, none⟩ = some (.int .u8 (bs[j].toNat : Int))

/-- A fold off bytes: it, how many bytes, what went wrong; i bytes are behind, their sum is acc. -/
def scan (i acc : Nat) : List UInt8 → Nat × Nat × Nat
  | [] => (0, 0, 3)
  | x :: r => if (0 < i ∧ x.toNat = 0) ∨ (i = 9 ∧ x.toNat ≠ 1) then (0, 0, 4) else if x.toNat < 128 then (acc + x.toNat % 128 * 128 ^ i, i + 1, 0) else scan (i + 1) (acc + x.toNat % 128 * 128 ^ i) r

/-- A number off bytes: it, how many bytes, what went wrong. -/
def getI (bs : List UInt8) : Int × Nat × Nat :=
  if (scan 0 0 bs).2.2 = 0 then (Lib.unzigzag (scan 0 0 bs).1, (scan 0 0 bs).2.1, 0) else (0, 0, (scan 0 0 bs).2.2)

theorem getI_err {bs : List UInt8} {e : Nat} (h : scan 0 0 bs = (0, 0, e)) (he : e ≠ 0) : getI bs = (0, 0, e) := by
  unfold getI; rw [h]; simp [he]
theorem getI_ok {bs : List UInt8} {f k : Nat} (h : scan 0 0 bs = (f, k, 0)) : getI bs = (Lib.unzigzag f, k, 0) := by
  unfold getI; rw [h]; simp

theorem drop_at {bs : List UInt8} {k : Nat} (h : k < bs.length) : bs.drop k = bs[k] :: bs.drop (k + 1) := (List.getElem_cons_drop h).symm

theorem scan_bad {bs : List UInt8} {k acc : Nat} (h : k < bs.length) (hb : (0 < k ∧ bs[k].toNat = 0) ∨ (k = 9 ∧ bs[k].toNat ≠ 1)) : scan k acc (bs.drop k) = (0, 0, 4) := by
  rw [drop_at h]; unfold scan; rw [if_pos hb]
theorem scan_end {bs : List UInt8} {k acc : Nat} (h : k < bs.length) (hb : ¬ ((0 < k ∧ bs[k].toNat = 0) ∨ (k = 9 ∧ bs[k].toNat ≠ 1))) (hx : bs[k].toNat < 128) : scan k acc (bs.drop k) = (acc + bs[k].toNat % 128 * 128 ^ k, k + 1, 0) := by
  rw [drop_at h]; unfold scan; rw [if_neg hb, if_pos hx]
theorem scan_more {bs : List UInt8} {k acc : Nat} (h : k < bs.length) (hb : ¬ ((0 < k ∧ bs[k].toNat = 0) ∨ (k = 9 ∧ bs[k].toNat ≠ 1))) (hx : ¬ bs[k].toNat < 128) : scan k acc (bs.drop k) = scan (k + 1) (acc + bs[k].toNat % 128 * 128 ^ k) (bs.drop (k + 1)) := by
  rw [drop_at h]; conv => lhs; unfold scan
  rw [if_neg hb, if_neg hx]
theorem scan_none {bs : List UInt8} {k acc : Nat} (h : bs.length ≤ k) : scan k acc (bs.drop k) = (0, 0, 3) := by
  rw [List.drop_eq_nil_of_le h]; rfl

set_option maxRecDepth 100000 in
theorem andNot_nat : ∀ a : Fin 256, bits .andNot .u8 (a.val : Int) 128 = ((a.val % 128 : Nat) : Int) := by decide

theorem pow7 (k : Nat) : (128 : Nat) ^ k = 2 ^ (7 * k) := by rw [Nat.pow_mul]

theorem room9 {k x : Nat} (hk : k ≤ 9) (hx : k = 9 → x % 128 ≤ 1) : x % 128 * 128 ^ k < 18446744073709551616 := by
  have hm : x % 128 < 128 := Nat.mod_lt _ (by decide)
  rcases Nat.lt_or_ge k 9 with h | h
  · have h1 : (128 : Nat) ^ k ≤ 128 ^ 8 := Nat.pow_le_pow_right (by decide) (by omega)
    have h2 : x % 128 * 128 ^ k ≤ 127 * 128 ^ 8 := Nat.mul_le_mul (by omega) h1
    exact Nat.lt_of_le_of_lt h2 (by decide)
  · obtain rfl : k = 9 := by omega
    have h2 : x % 128 * 128 ^ 9 ≤ 1 * 128 ^ 9 := Nat.mul_le_mul (hx rfl) (Nat.le_refl _)
    exact Nat.lt_of_le_of_lt h2 (by decide)

theorem or_step {k acc x : Nat} (hk : k ≤ 9) (hacc : acc < 128 ^ k) (hx : x < 256) (h9 : k = 9 → x % 128 ≤ 1) :
    bits .or .u64 (acc : Int) (IntKind.u64.wrap (IntKind.u64.wrap (bits .andNot .u8 (x : Int) 128) * 2 ^ (7 * k))) = ((acc + x % 128 * 128 ^ k : Nat) : Int) := by
  have h1 : bits .andNot .u8 (x : Int) 128 = ((x % 128 : Nat) : Int) := andNot_nat ⟨x, hx⟩
  have hr := room9 hk h9
  have hm : x % 128 < 128 := Nat.mod_lt _ (by decide)
  have h2 : IntKind.u64.wrap ((x % 128 : Nat) : Int) = ((x % 128 : Nat) : Int) := wraps_u64 _ (by omega) (by omega)
  have e : ((x % 128 : Nat) : Int) * 2 ^ (7 * k) = ((x % 128 * 128 ^ k : Nat) : Int) := by
    rw [pow7, Int.natCast_mul, Int.natCast_pow]; rfl
  have h3 : IntKind.u64.wrap ((x % 128 * 128 ^ k : Nat) : Int) = ((x % 128 * 128 ^ k : Nat) : Int) := wraps_u64 _ (by omega) (by omega)
  rw [h1, h2, e, h3]
  have ha : (acc : Int) < 2 ^ (7 * k) := by
    rw [pow7] at hacc
    have h := Int.ofNat_lt.2 hacc
    rw [Int.natCast_pow] at h
    exact h
  have ha64 : acc < 18446744073709551616 := by
    exact Nat.lt_trans (Nat.lt_of_lt_of_le hacc (Nat.pow_le_pow_right (by decide) hk)) (by decide)
  have hmod : ((x % 128 * 128 ^ k : Nat) : Int) % 2 ^ (7 * k) = 0 := by
    rw [← e]; exact Int.mul_emod_left _ _
  have h := bits_join_low .u64 64 (by decide) wraps_u64 (7 * k) (acc : Int) ((x % 128 * 128 ^ k : Nat) : Int) (by omega) ha (by omega) (by omega) hmod (by omega)
  rw [h]; omega

theorem acc_lt {k acc x : Nat} (hacc : acc < 128 ^ k) : acc + x % 128 * 128 ^ k < 128 ^ (k + 1) := by
  have hm : x % 128 ≤ 127 := by omega
  have h2 : x % 128 * 128 ^ k ≤ 127 * 128 ^ k := Nat.mul_le_mul_right _ hm
  rw [Nat.pow_succ]; omega

theorem acc_64 {k acc x : Nat} (hk : k ≤ 9) (hacc : acc < 128 ^ k) (h9 : k = 9 → x % 128 ≤ 1) : acc + x % 128 * 128 ^ k < 18446744073709551616 := by
  have hm : x % 128 < 128 := Nat.mod_lt _ (by decide)
  rcases Nat.lt_or_ge k 9 with h | h
  · have h1 := acc_lt (x := x) hacc
    exact Nat.lt_trans (Nat.lt_of_lt_of_le h1 (Nat.pow_le_pow_right (by decide) (show k + 1 ≤ 9 by omega))) (by decide)
  · obtain rfl : k = 9 := by omega
    have h2 : x % 128 * 128 ^ 9 ≤ 1 * 128 ^ 9 := Nat.mul_le_mul (h9 rfl) (Nat.le_refl _)
    have h3 : (1 : Nat) * 128 ^ 9 = 9223372036854775808 := by decide
    have h4 : (128 : Nat) ^ 9 = 9223372036854775808 := by decide
    omega
end Go.Proofs.Ytancnmbgncofiaa
/- getInt: what it answers, of any bytes. -/
namespace Go.Proofs.Ytancnmbgncofiaa
open Go.RowKit

theorem ret3 {a b : Int × Nat × Nat} (h : a = b) : (Ending.returned (.tuple #[.int .i64 b.1, .int .i64 b.2.1, .int .i64 b.2.2]) : Ending) = Ending.returned (.tuple #[.int .i64 a.1, .int .i64 a.2.1, .int .i64 a.2.2]) := by rw [h]

end Go.Proofs.Ytancnmbgncofiaa
/- getBool, getCount, getText: what they answer, of any bytes. -/
namespace Go.Proofs.Ytancnmbgncofiaa
open Go.RowKit

/-- A truth off bytes. -/
def getB (bs : List UInt8) : Bool × Nat × Nat :=
  match bs with
  | [] => (false, 0, 3)
  | x :: _ => if 1 < x.toNat then (false, 0, 4) else (x.toNat == 1, 1, 0)

/-- A count off bytes. -/
def getC (bs : List UInt8) (most : Int) : Int × Nat × Nat :=
  if (getI bs).2.2 ≠ 0 then (0, 0, (getI bs).2.2) else if (getI bs).1 < 0 then (0, 0, 4) else if max most 0 < (getI bs).1 then (0, 0, 5) else getI bs

/-- A text off bytes. -/
def getT (bs : List UInt8) (most : Int) : List UInt8 × Nat × Nat :=
  if (getC bs most).2.2 ≠ 0 then ([], 0, (getC bs most).2.2) else if ((bs.length : Int) - (getC bs most).2.1) < (getC bs most).1 then ([], 0, 3)
  else ((bs.drop (getC bs most).2.1).take (getC bs most).1.toNat, (getC bs most).2.1 + (getC bs most).1.toNat, 0)

theorem ret3b {a b : Bool × Nat × Nat} (h : a = b) : (Ending.returned (.tuple #[.bool b.1, .int .i64 b.2.1, .int .i64 b.2.2]) : Ending) = Ending.returned (.tuple #[.bool a.1, .int .i64 a.2.1, .int .i64 a.2.2]) := by rw [h]
theorem ret3t {a b : List UInt8 × Nat × Nat} (h : a = b) : (Ending.returned (.tuple #[.string ⟨b.1.toArray⟩, .int .i64 b.2.1, .int .i64 b.2.2]) : Ending) = Ending.returned (.tuple #[.string ⟨a.1.toArray⟩, .int .i64 a.2.1, .int .i64 a.2.2]) := by rw [h]

end Go.Proofs.Ytancnmbgncofiaa
/- getText: what it answers, of any bytes. -/
namespace Go.Proofs.Ytancnmbgncofiaa
open Go.RowKit

theorem scan_len : ∀ (l : List UInt8) (i acc : Nat), (scan i acc l).2.1 ≤ i + l.length
  | [], i, acc => by simp [scan]
  | x :: r, i, acc => by
    unfold scan
    split
    · simp
    · split
      · simp
      · have h := scan_len r (i + 1) (acc + x.toNat % 128 * 128 ^ i)
        simp only [List.length_cons]; omega

theorem getI_len (bs : List UInt8) : (getI bs).2.1 ≤ bs.length := by
  unfold getI
  have h := scan_len bs 0 0
  split
  · simpa using h
  · simp

theorem getC_len (bs : List UInt8) (most : Int) : (getC bs most).2.1 ≤ bs.length := by
  unfold getC
  have h := getI_len bs
  split
  · simp
  · split
    · simp
    · split
      · simp
      · exact h

theorem getC_nonneg (bs : List UInt8) (most : Int) : 0 ≤ (getC bs most).1 := by
  unfold getC
  split
  · simp
  · split
    · simp
    · split
      · simp
      · omega

theorem add_plain (b o j : Nat) : (⟨b, o, none⟩ : Addr).add j = ⟨b, o + j, none⟩ := by
  unfold Addr.add
  split
  · simp_all
  · simp

/-- Where a slice's part begins. -/
def subBase (base : Option Addr) (cap lo : Nat) : Option Addr := if cap = lo then base else base.map (fun a => a.add lo)

theorem rowAt_sub {w : World} {base : Option Addr} {bs : List UInt8} {cap lo : Nat} (m : Nat) (hr : rowAt w base bs) (hc : bs.length ≤ cap) : rowAt w (subBase base cap lo) ((bs.drop lo).take m) := by
  rcases hr with rfl | ⟨b, o, rfl, hcell⟩
  · left; simp
  · unfold subBase
    by_cases h : cap = lo
    · left; rw [List.drop_eq_nil_of_le (by omega)]; simp
    · right
      rw [if_neg h]
      refine ⟨b, o + lo, by simp [add_plain], fun j hj => ?_⟩
      have hj2 : j < (bs.drop lo).length := by rw [List.length_take] at hj; omega
      have hj3 : lo + j < bs.length := by rw [List.length_drop] at hj2; omega
      rw [List.getElem_take, List.getElem_drop, Nat.add_assoc]
      exact hcell (lo + j) hj3

set_option maxRecDepth 100000 in
theorem conv_row (w : World) (base : Option Addr) (bs : List UInt8) (cap : Nat) (hr : rowAt w base bs) :
    (convert 36 9 (.slice base bs.length cap)).run Try.prog w = .ok (.string ⟨bs.toArray⟩) w := by
  rw [run_convert_bytes_string w 36 9 5 base bs.length cap Try.underlying36 Try.underlying5 Try.underlying9]
  cases base with
  | none =>
    rcases hr with rfl | ⟨b, o, h, _⟩
    · simp [Conv.bytesToString]; rfl
    · cases h
  | some a =>
    have hl : (loadCells a bs.length).run Try.prog w = .ok ((bs.map fun b => (b.toNat : Int)).map (Value.int .u8)).toArray w := by
      have h := run_loadCells_list (P := Try.prog) w a (Lib.byteCells bs) (fun j v hj => by
        rcases hr with rfl | ⟨b, o, h, hcell⟩
        · simp [Lib.byteCells] at hj
        · cases h
          have hjl : j < bs.length := by
            rcases Nat.lt_or_ge j bs.length with h | h
            · exact h
            · rw [List.getElem?_eq_none (by rw [Lib.byteCells_length]; exact h)] at hj; cases hj
          rw [add_plain, hcell j hjl]
          unfold Lib.byteCells at hj
          rw [List.getElem?_map, List.getElem?_eq_getElem hjl] at hj
          exact hj)
      rw [Lib.byteCells_length] at h
      rw [h]
      simp [Lib.byteCells]
    rw [run_bytesToString w a bs.length cap _ hl, foldl_push_byteCells]
    simp [ByteArray.empty, ByteArray.emptyWithCapacity]
    rfl

set_option maxRecDepth 100000 in
theorem run_sub (w : World) (base : Option Addr) (len cap lo n : Nat) (h : lo + n ≤ cap) :
    (Instr.slice 36 (.slice base len cap) (some (.int .i64 lo)) (some (.int .i64 (lo + n : Int))) none).run Try.prog w = .ok (.slice (subBase base cap lo) n (cap - lo)) w := by
  have h1 := run_slice_lh (P := Try.prog) w 36 base len cap Try.underlying36 .i64 .i64 (lo : Int) (lo + n : Int) (by omega) (by omega) (by omega)
  have hs : (sizeOf (Try.prog.elem 36)).run Try.prog w = .ok 1 w := by kernel_rfl
  rw [h1, hs]
  have e : ((lo : Int) + (n : Int)).toNat = lo + n := by omega
  simp [sliced, subBase, e]

end Go.Proofs.Ytancnmbgncofiaa
/- A reader: what it stands for in memory, and what read does with it. -/
namespace Go.Proofs.Ytancnmbgncofiaa
open Go.RowKit

/-- In the world w a reader lies in block p: of the bytes bs, it stands at at0, and its error is er. -/
structure ReaderAt (w : World) (p : Nat) (base : Option Addr) (cap : Nat) (bs : List UInt8) (at0 er : Nat) : Prop where
  made : w.cell? ⟨p, 0, none⟩ = some (.bool true)
  b : w.cell? ⟨p, 1, none⟩ = some (.slice base bs.length cap)
  at_ : w.cell? ⟨p, 2, none⟩ = some (.int .i64 at0)
  err : w.cell? ⟨p, 3, none⟩ = some (.int .i64 er)
  f2 : w.frozen? ⟨p, 2, none⟩ = false
  f3 : w.frozen? ⟨p, 3, none⟩ = false
  row : rowAt w base bs
  len : bs.length ≤ cap
  cap : cap ≤ maxLen
  at_le : at0 ≤ bs.length
  apart : ∀ a, base = some a → a.block ≠ p
  er9 : er ≤ 9

set_option maxRecDepth 100000 in
theorem run_from (w : World) (base : Option Addr) (len cap lo : Nat) (h : lo ≤ len) :
    (Instr.slice 36 (.slice base len cap) (some (.int .i64 lo)) none none).run Try.prog w = .ok (.slice (subBase base cap lo) (len - lo) (cap - lo)) w := by
  have h1 := run_slice_l (P := Try.prog) w 36 base len cap Try.underlying36 .i64 (lo : Int) (by omega) (by omega)
  have hs : (sizeOf (Try.prog.elem 36)).run Try.prog w = .ok 1 w := by kernel_rfl
  rw [h1, hs]
  simp [sliced, subBase]

theorem quiet_mine {P : Program} {f : FuncId} {args : Array Value} {w : World} {n : Nat} {v : Value}
    (h : Calls P f args (w.drewN n) fun e w' => e = .returned v ∧ w.drewN n = w') : Calls P f args (w.drewN n) fun e w'' => e = .returned v ∧ ∃ m, w'' = w.drewN m :=
  h.mono fun _ _ ⟨he, hm⟩ => ⟨he, n, hm.symm⟩

theorem rowAt_drewN {w : World} {base : Option Addr} {bs : List UInt8} (n : Nat) (h : rowAt w base bs) : rowAt (w.drewN n) base bs := h

/-- The row of a slice is as it was, where the blocks are. -/
theorem rowAt_kept {w w' : World} {base : Option Addr} {bs : List UInt8} (h : rowAt w base bs) (hk : ∀ a, base = some a → a.block < w.heap.size → w'.heap[a.block]? = w.heap[a.block]?) : rowAt w' base bs := by
  rcases h with h | ⟨b, o, hb, hc⟩
  · exact .inl h
  · refine .inr ⟨b, o, hb, fun j hj => ?_⟩
    have h1 := hc j hj
    rw [World.cell?_of_block (w := w) (a := ⟨b, o + j, none⟩) (hk ⟨b, o, none⟩ hb (show b < w.heap.size from World.block_lt_of_cell? w ⟨b, o + j, none⟩ h1))]
    exact h1

/-- What was done elsewhere leaves a reader as it was. -/
theorem ReaderAt.kept {w w' : World} {p : Nat} {base : Option Addr} {cap : Nat} {bs : List UInt8} {at0 er : Nat} (h : ReaderAt w p base cap bs at0 er)
    (hk : ∀ k, k < w.heap.size → (k = p ∨ ∃ a, base = some a ∧ a.block = k) → w'.heap[k]? = w.heap[k]?) : ReaderAt w' p base cap bs at0 er := by
  have hp := hk p (World.block_lt_of_cell? w _ h.made) (.inl rfl)
  exact ⟨(World.cell?_of_block (w := w) (a := ⟨p, 0, none⟩) hp).trans h.made, (World.cell?_of_block (w := w) (a := ⟨p, 1, none⟩) hp).trans h.b,
    (World.cell?_of_block (w := w) (a := ⟨p, 2, none⟩) hp).trans h.at_, (World.cell?_of_block (w := w) (a := ⟨p, 3, none⟩) hp).trans h.err,
    (World.frozen?_of_block (w := w) (a := ⟨p, 2, none⟩) hp).trans h.f2, (World.frozen?_of_block (w := w) (a := ⟨p, 3, none⟩) hp).trans h.f3,
    rowAt_kept h.row (fun a ha hl => hk a.block hl (.inr ⟨a, ha, rfl⟩)), h.len, h.cap, h.at_le, h.apart, h.er9⟩

theorem ReaderAt.below {w w' : World} {B p : Nat} {base : Option Addr} {cap : Nat} {bs : List UInt8} {at0 er : Nat} (h : ReaderAt w p base cap bs at0 er) (hb : Below B w w') (hB : w.heap.size ≤ B) : ReaderAt w' p base cap bs at0 er :=
  h.kept fun k hk _ => hb.block k (by omega)

theorem ReaderAt.other {w w' : World} {p q : Nat} {base : Option Addr} {cap : Nat} {bs : List UInt8} {at0 er : Nat} (h : ReaderAt w p base cap bs at0 er) (hg : w.grownBy w' (some q)) (hq : p ≠ q) (ha : ∀ a, base = some a → a.block ≠ q) : ReaderAt w' p base cap bs at0 er :=
  h.kept fun k hk hor => hg.block k hk (fun e => by
    cases e
    rcases hor with h1 | ⟨a, h1, h2⟩
    · exact hq h1.symm
    · exact ha a h1 h2)

theorem setAt_grown {w : World} {p j n : Nat} {v : Value} : w.grownBy ((w.drewN n).setCell ⟨p, j, none⟩ v) (some p) :=
  ⟨rfl, rfl, rfl, by simp [World.setCell], fun k _ hk => by
    rw [Below.heap_setCell _ _ _ _ (fun e => hk (by rw [e]))]; rfl⟩

theorem ReaderAt.setErr {w : World} {p : Nat} {base : Option Addr} {cap : Nat} {bs : List UInt8} {at0 : Nat} (h : ReaderAt w p base cap bs at0 0) (n e : Nat) (he : e ≤ 9) : ReaderAt ((w.drewN n).setCell ⟨p, 3, none⟩ (.int .i64 e)) p base cap bs at0 e := by
  have ho : ∀ j, j ≠ 3 → ((w.drewN n).setCell ⟨p, 3, none⟩ (.int .i64 e)).cell? ⟨p, j, none⟩ = w.cell? ⟨p, j, none⟩ := fun j hj => by
    rw [World.cell?_setCell_other (a := ⟨p, 3, none⟩) (b := ⟨p, j, none⟩) (h := by intro h; cases h; exact hj rfl)]; rfl
  exact ⟨(ho 0 (by decide)).trans h.made, (ho 1 (by decide)).trans h.b, (ho 2 (by decide)).trans h.at_, World.cell?_setCell_same (w.drewN n) ⟨p, 3, none⟩ _ h.err,
    by rw [World.frozen?_setCell]; exact h.f2, by rw [World.frozen?_setCell]; exact h.f3,
    rowAt_kept h.row (fun a ha _ => by rw [Below.heap_setCell _ _ _ _ (h.apart a ha)]; rfl), h.len, h.cap, h.at_le, h.apart, he⟩

theorem ReaderAt.setAt {w : World} {p : Nat} {base : Option Addr} {cap : Nat} {bs : List UInt8} {at0 : Nat} (h : ReaderAt w p base cap bs at0 0) (n k : Nat) (hk : k ≤ bs.length) : ReaderAt ((w.drewN n).setCell ⟨p, 2, none⟩ (.int .i64 k)) p base cap bs k 0 := by
  have ho : ∀ j, j ≠ 2 → ((w.drewN n).setCell ⟨p, 2, none⟩ (.int .i64 k)).cell? ⟨p, j, none⟩ = w.cell? ⟨p, j, none⟩ := fun j hj => by
    rw [World.cell?_setCell_other (a := ⟨p, 2, none⟩) (b := ⟨p, j, none⟩) (h := by intro h; cases h; exact hj rfl)]; rfl
  exact ⟨(ho 0 (by decide)).trans h.made, (ho 1 (by decide)).trans h.b, World.cell?_setCell_same (w.drewN n) ⟨p, 2, none⟩ _ h.at_, (ho 3 (by decide)).trans h.err,
    by rw [World.frozen?_setCell]; exact h.f2, by rw [World.frozen?_setCell]; exact h.f3,
    rowAt_kept h.row (fun a ha _ => by rw [Below.heap_setCell _ _ _ _ (h.apart a ha)]; rfl), h.len, h.cap, hk, h.apart, Nat.zero_le _⟩

/-- What a call of a reader comes to: the answer, where it stands, what went wrong. -/
def stepR {α : Type} (zero : α) (at0 er : Nat) (g : α × Nat × Nat) : α × Nat × Nat :=
  if er ≠ 0 then (zero, at0, er) else if g.2.2 ≠ 0 then (zero, at0, g.2.2) else (g.1, at0 + g.2.1, 0)

theorem grownBy_refl (w : World) (r : Option Nat) : w.grownBy w r := ⟨rfl, rfl, rfl, Nat.le_refl _, fun _ _ _ => rfl⟩
theorem ret_of {v v' : Value} (h : v = v') : Ending.returned v = .returned v' := by rw [h]

theorem bytesAt_row {w : World} {base : Option Addr} {cap len : Nat} {bs : List UInt8} (h : bytesAt w (.slice base len cap) bs) : len = bs.length ∧ rowAt w base bs ∧ bs.length ≤ cap ∧ cap ≤ maxLen := by
  obtain ⟨base', cap', hv, hn, h1, h2, hc⟩ := h
  cases hv
  refine ⟨rfl, ?_, h1, h2⟩
  by_cases h0 : bs = []
  · exact .inl h0
  · cases base with
    | none => exact absurd (hn rfl).1 h0
    | some a =>
      have hpos : 0 < bs.length := by
        rcases Nat.eq_zero_or_pos bs.length with h | h
        · exact absurd (List.length_eq_zero_iff.1 h) h0
        · exact h
      have hat : ∀ j (hj : j < bs.length), w.cell? (a.add j) = some (.int .u8 (bs[j].toNat : Int)) := fun j hj =>
        hc a rfl j _ (by unfold Lib.byteCells; rw [List.getElem?_map, List.getElem?_eq_getElem hj]; rfl)
      obtain ⟨b, o, spot⟩ := a
      have hspot : spot = none := by simpa [Addr.add] using World.cell?_spot (hat 0 hpos)
      subst hspot
      exact .inr ⟨b, o, rfl, fun j hj => by rw [← add_plain]; exact hat j hj⟩

theorem rowAt_below {w w' : World} {base : Option Addr} {bs : List UInt8} {B : Nat} (h : rowAt w base bs) (hb : Below B w w') (hB : w.heap.size ≤ B) : rowAt w' base bs :=
  rowAt_kept h (fun a _ hl => hb.block a.block (by omega))

theorem rowAt_take {w : World} {base : Option Addr} {bs : List UInt8} (c : Nat) (h : rowAt w base bs) : rowAt w base (bs.take c) := by
  rcases h with rfl | ⟨b, o, hb, hc⟩
  · left; simp
  · exact .inr ⟨b, o, hb, fun j hj => by
      have hj2 : j < bs.length := by rw [List.length_take] at hj; omega
      rw [List.getElem_take]; exact hc j hj2⟩

end Go.Proofs.Ytancnmbgncofiaa
/- What read does at a truth, a count and a text. -/
namespace Go.Proofs.Ytancnmbgncofiaa
open Go.RowKit

end Go.Proofs.Ytancnmbgncofiaa
/- A reader's calls: NewReader, Int, Bool, Count, Text, At, Err, End. -/
namespace Go.Proofs.Ytancnmbgncofiaa
open Go.RowKit

theorem rowAt_drop {w : World} {base : Option Addr} {bs : List UInt8} {cap lo : Nat} (hr : rowAt w base bs) (hc : bs.length ≤ cap) : rowAt w (subBase base cap lo) (bs.drop lo) := by
  have h := rowAt_sub (lo := lo) bs.length hr hc
  rw [List.take_of_length_le (by rw [List.length_drop]; omega)] at h
  exact h

theorem scan_err : ∀ (l : List UInt8) (i acc : Nat), (scan i acc l).2.2 ≤ 9
  | [], i, acc => by simp [scan]
  | x :: r, i, acc => by
    unfold scan
    split
    · simp
    · split
      · simp
      · exact scan_err r _ _

theorem getI_e (bs : List UInt8) : (getI bs).2.2 ≤ 9 := by
  unfold getI
  have h := scan_err bs 0 0
  split
  · simp
  · exact h
theorem getB_e (bs : List UInt8) : (getB bs).2.2 ≤ 9 := by
  unfold getB
  split
  · simp
  · split <;> simp
theorem getB_len (bs : List UInt8) : (getB bs).2.1 ≤ bs.length := by
  unfold getB
  split
  · simp
  · split <;> simp
theorem getC_e (bs : List UInt8) (m : Int) : (getC bs m).2.2 ≤ 9 := by
  unfold getC
  have h := getI_e bs
  split
  · exact h
  · split
    · simp
    · split
      · simp
      · exact h
theorem getT_e (bs : List UInt8) (m : Int) : (getT bs m).2.2 ≤ 9 := by
  unfold getT
  have h := getC_e bs m
  split
  · exact h
  · split
    · simp
    · simp
theorem getT_len (bs : List UInt8) (m : Int) : (getT bs m).2.1 ≤ bs.length := by
  unfold getT
  have h := getC_len bs m
  have h2 := getC_nonneg bs m
  split
  · simp
  · split
    · simp
    · simp only; omega

set_option maxRecDepth 100000 in
theorem run_mf (fn : Fn) (first cap : Array Value) (w : World) : (Instr.makeFunc fn first cap).run Try.prog w = .ok (.func fn first cap) w := rfl

theorem grown_alloc {w w' : World} {o : Obj} {p : Nat} (hg : (w.alloc o).grownBy w' (some p)) : w.grownBy w' (some p) :=
  ⟨hg.os, hg.tape, hg.output, by have := hg.size; simp at this; omega, fun k hk hne => (hg.block k (by simp; omega) hne).trans (Below.heap_alloc _ _ _ hk)⟩

/-- What End tells. -/
def endR (len at0 er : Nat) : Nat := if er ≠ 0 then er else if at0 < len then 5 else 0

theorem drewN_zero (w : World) : w = w.drewN 0 := rfl

theorem own_row {w : World} {B e n : Nat} {v : Value} {bs : List UInt8} (h : w.ownsRow B e 1 v n (Lib.byteCells bs)) :
    ∃ base cap, v = .slice base bs.length cap ∧ rowAt w base bs ∧ bs.length ≤ cap ∧ cap ≤ maxLen ∧ (∀ a, base = some a → B ≤ a.block ∧ a.block < w.heap.size) := by
  have hl := h.1
  rw [Lib.byteCells_length, Nat.mul_one] at hl
  have hlt := h.lt
  obtain ⟨h1, h2⟩ := h
  rcases h2 with ⟨rfl, rfl⟩ | ⟨g, cap, cur, rfl, hg, hh, hnc, hm, hs, ht⟩
  · obtain rfl : bs = [] := List.length_eq_zero_iff.1 hl
    exact ⟨none, 0, rfl, .inl rfl, Nat.le_refl _, Nat.zero_le _, fun a ha => by cases ha⟩
  · refine ⟨some ⟨g, 0, none⟩, cap, by rw [hl], ?_, by omega, hm, fun a ha => by cases ha; exact hlt g rfl⟩
    have h' : w.ownsRow B e 1 (.slice (some ⟨g, 0, none⟩) n cap) n (Lib.byteCells bs) := ⟨h1, .inr ⟨g, cap, cur, rfl, hg, hh, hnc, hm, hs, ht⟩⟩
    refine .inr ⟨g, 0, rfl, fun j hj => ?_⟩
    have hc := h'.cells rfl j (.int .u8 (bs[j].toNat : Int)) (by unfold Lib.byteCells; rw [List.getElem?_map, List.getElem?_eq_getElem hj]; rfl)
    rw [add_plain] at hc
    exact hc

theorem bytesAt_lit {w : World} {bs : List UInt8} {g n : Nat} (hn : n = bs.length) (hm : n ≤ maxLen) (hc : ∀ j u, (Lib.byteCells bs)[j]? = some u → w.cell? ⟨g, j, none⟩ = some u) : bytesAt w (.slice (some ⟨g, 0, none⟩) n n) bs := by
  subst hn
  refine ⟨some ⟨g, 0, none⟩, bs.length, rfl, (fun h => by cases h), Nat.le_refl _, hm, fun a ha j u hj => ?_⟩
  cases ha
  rw [add_plain, Nat.zero_add]
  exact hc j u hj

theorem below_of_grown {B : Nat} {a w w' : World} {p : Nat} (h : Below B a w) (hg : w.grownBy w' (some p)) (hB : B ≤ w.heap.size) (hp : B ≤ p) : Below B a w' :=
  h.grown hg hB (fun k hk => by cases hk; exact hp)

end Go.Proofs.Ytancnmbgncofiaa
/- append of any bytes (nil among them) onto bytes that are owned, in one law. -/
namespace Go.Proofs.Ytancnmbgncofiaa
open Go.RowKit

set_option maxRecDepth 100000 in
theorem append_bytes {ops : Array Oper} {rest : List Oper} {o : Oper} {a : Act} {w : World} {Q : Exit → Act → World → Prop} (hgd : o.guard = none) (s x : Operand)
    (ho : o.op = .call { callee := .builtin .append, args := #[s, x], argTypes := #[36, 36] })
    (B : Nat) (v : Value) (us : List UInt8) (hs : a.eval s = v) (hown : w.ownsRow B 5 1 v us.length (Lib.byteCells us)) (xv : Value) (bs : List UInt8) (hx : a.eval x = xv) (hv : bytesAt w xv bs)
    (hb : us.length + bs.length ≤ 140737488355328) (hB : B ≤ w.heap.size)
    (h : ∀ v' w', w'.ownsRow B 5 1 v' (us ++ bs).length (Lib.byteCells (us ++ bs)) → w.grownBy w' v.ownBlock → wpList Try.prog ops Q rest (a.put o.dst v') w') : wpList Try.prog ops Q (o :: rest) a w := by
  obtain ⟨i0, hi, hz0, hz1, hz2⟩ := info_parts info_u8
  obtain ⟨base, cap, rfl, hn, h1, h2, hc⟩ := hv
  cases base with
  | none =>
    obtain ⟨rfl, rfl⟩ := hn rfl
    refine wpList_append_own_none hgd s x 36 ho B 5 i0 1 Try.underlying36 hi v us.length _ hs hown hx ?_
    refine h v w ?_ (grownBy_refl _ _)
    rw [List.append_nil]; exact hown
  | some ad =>
    refine wpList_append_own _ hgd s x 36 ho B 5 i0 (.int .u8 0) 1 1 Try.underlying36 hi hz0 hz1 hz2 rfl (by decide) v us.length _ hs hown ad bs.length cap (Lib.byteCells bs) hx (by rw [Lib.byteCells_length, Nat.mul_one]) (hc ad rfl) (bytes_one bs) (by unfold maxLen; omega) (by omega) hB ?_
    intro v' w' ho' hg' _
    refine h v' w' ?_ hg'
    rw [List.length_append, Lib.byteCells_append]
    exact ho'

set_option maxRecDepth 100000 in
/-- .. as a step of a region that draws its order. -/
theorem step_append_bytes {ops : Array Oper} {o : Oper} {a : Act} {w : World} {K : Act → World → Prop} {Q : Exit → Act → World → Prop} {E : Prop} (s x : Operand)
    (ho : o.op = .call { callee := .builtin .append, args := #[s, x], argTypes := #[36, 36] }) (hw : Region.wanted o (yielded ops a.tmps) = true)
    (B : Nat) (v : Value) (us : List UInt8) (hs : a.eval s = v) (hown : w.ownsRow B 5 1 v us.length (Lib.byteCells us)) (xv : Value) (bs : List UInt8) (hx : a.eval x = xv) (hv : bytesAt w xv bs)
    (hb : us.length + bs.length ≤ 140737488355328) (hB : B ≤ w.heap.size)
    (h : ∀ v' w', w'.ownsRow B 5 1 v' (us ++ bs).length (Lib.byteCells (us ++ bs)) → w.grownBy w' v.ownBlock → K (a.put o.dst v') w') :
    if Region.wanted o (yielded ops a.tmps) = true then Oper.wp Try.prog o a w K Q else E := by
  rw [if_pos hw]
  obtain ⟨i0, hi, hz0, hz1, hz2⟩ := info_parts info_u8
  obtain ⟨base, cap, rfl, hn, h1, h2, hc⟩ := hv
  cases base with
  | none =>
    obtain ⟨rfl, rfl⟩ := hn rfl
    have hrun := run_append_owned_none (P := Try.prog) (w := w) B 36 o.type 5 i0 1 Try.underlying36 hi _ _ _ hown
    have hx' : a.eval x = .slice none 0 0 := hx
    unfold Oper.wp
    simp [execOp, ho, resolve, invoke, builtin, hs, hx', hrun, Result.andThen]
    refine h v w ?_ (grownBy_refl _ _)
    rw [List.append_nil]; exact hown
  | some ad =>
    refine wp_append_own w s x 36 ho B 5 i0 (.int .u8 0) 1 1 Try.underlying36 hi hz0 hz1 hz2 rfl (by decide) v us.length _ hs hown ad bs.length cap (Lib.byteCells bs) hx (by rw [Lib.byteCells_length, Nat.mul_one]) (hc ad rfl) (bytes_one bs) (by unfold maxLen; omega) (by omega) hB ?_
    intro v' w' ho' hg' _
    refine h v' w' ?_ hg'
    rw [List.length_append, Lib.byteCells_append]
    exact ho'

theorem bytesAt_one {w : World} {g r : Nat} (hr : r < 256) (hc : w.cell? ⟨g, 0, none⟩ = some (.int .u8 (r : Int))) : bytesAt w (.slice (some ⟨g, 0, none⟩) 1 1) [r.toUInt8] :=
  bytesAt_lit rfl (by unfold maxLen; decide) (fun j u hj => by
    match j, hj with
    | 0, hj => simp [Lib.byteCells, Lib.toUInt8_toNat hr] at hj; subst hj; exact hc)
end Go.Proofs.Ytancnmbgncofiaa
/- A region that draws its order, whose operations only read and whose callees may make memory, each answer the same in every grown world: walked once, in the order of the text. -/
namespace Go.Proofs.Ytancnmbgncofiaa
open Go.RowKit

/-- The worlds that grew from w, below n as it was. -/
def Cls (n : Nat) (w : World) : Type := { wx : World // Below n w wx }

instance clsOne (n : Nat) (w : World) : Nonempty (Cls n w) := ⟨⟨w, Below.refl _ _⟩⟩

theorem wp_region_cls {P : Program} {id : Nat} {Q : Exit → Act → World → Prop} {a : Act} {w w0 : World} {l : List Oper} {n : Nat} (hw : Below n w0 w) (hm : P.follows .mixedOrders = true) (hB : Region.lexB .any l.toArray = true)
    (h : wpQuiet P l.toArray (fun w' => ∃ c : Cls n w0, w' = c.1) (fun a' => ∀ w', (∃ c : Cls n w0, w' = c.1) → Q .normal a' w') l a) : (Code.region id l.toArray true).wp P Q a w :=
  wp_region_quiet (C := fun w' => ∃ c : Cls n w0, w' = c.1) hm hB ⟨⟨w.drew, hw.drew⟩, rfl⟩ (by simpa using h)

theorem cls_calls {P : Program} {f : FuncId} {args : Array Value} {v : Value} {n : Nat} {w : World} (h : ∀ wx, Below n w wx → Calls P f args wx fun e w'' => e = .returned v ∧ Below n w w'') (c : Cls n w) :
    Calls P f args c.1 fun e w'' => e = .returned v ∧ ∃ c' : Cls n w, w'' = c'.1 :=
  (h c.1 c.2).mono fun _ w'' ⟨he, hb⟩ => ⟨he, ⟨w'', hb⟩, rfl⟩

theorem cls_cell {n : Nat} {w : World} {p : Addr} {v : Value} (h : w.cell? p = some v) (hp : p.block < n) (c : Cls n w) : c.1.cell? p = some v := by
  rw [c.2.cell hp]; exact h
end Go.Proofs.Ytancnmbgncofiaa
