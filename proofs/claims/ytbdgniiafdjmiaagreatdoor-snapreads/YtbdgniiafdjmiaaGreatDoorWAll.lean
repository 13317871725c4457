/- Bytes, numbers and texts: all of the base in one text. -/
import Derived.Test.YtbdgniiafdjmiaaGreatDoorProg
import Derived.WalkKit
import Derived.WalkSpells
import Derived.Lib.Walk
import Derived.Lib.Zigzag
import Derived.Lib.VarintMem
import Derived.Lib.VarintDec
import Derived.OwnWalk
import Derived.Lib.UnsafeStr
import Derived.Laws.AppendOwnNone
import Derived.Lib.SliceRun
import Derived.Lib.AppendZerosOnto
import Derived.Lib.ConvBytes
import Derived.Lib.EndianBits
import Derived.Lib.MinMax
import Derived.Laws.IdiomStrings
import Derived.Deep.QuietTactic
import Derived.BigQuiet
/- The fold of a number, and back: what the program's two small functions answer. -/
namespace Go.Proofs.YtbdgniiafdjmiaaGreatDoor
open Go.RowKit

set_option maxRecDepth 100000 in
/-- A number's fold. -/
theorem fold_any (n : Int) (h0 : -9223372036854775808 ≤ n) (h1 : n ≤ 9223372036854775807) (w : World) :
    Calls Tryz.prog 98 #[.int .i64 n] w fun e w' => e = .returned (.int .u64 (Lib.zigzag n)) ∧ w = w' := by
  by_cases hn : n < 0
  · have hz := Lib.zigzag_neg h0 hn
    go_enter Tryz.func98, Tryz.ntmps98
    go_wp2
    go_ret
    exact ⟨rfl, rfl⟩
  · have hz := Lib.zigzag_nonneg (x := n) (by omega)
    go_enter Tryz.func98, Tryz.ntmps98
    go_wp2
    go_ret
    exact ⟨rfl, rfl⟩

theorem unz_odd {f : Nat} (h : f % 2 = 1) : Lib.unzigzag f = -((f / 2 : Nat) : Int) - 1 := by
  unfold Lib.unzigzag; rw [if_neg (by omega)]
theorem unz_even {f : Nat} (h : f % 2 = 0) : Lib.unzigzag f = ((f / 2 : Nat) : Int) := by
  unfold Lib.unzigzag; rw [if_pos h]

set_option maxRecDepth 100000 in
/-- The number of a fold. -/
theorem unfold_any (f : Nat) (h1 : f < 18446744073709551616) (w : World) :
    Calls Tryz.prog 108 #[.int .u64 f] w fun e w' => e = .returned (.int .i64 (Lib.unzigzag f)) ∧ w = w' := by
  have ha := Lib.u64_and1 (f : Int) (by omega) (by omega)
  have hx := Lib.i64_not (f / 2) (by omega)
  have hd : ((f / 2 : Nat) : Int) = (f : Int) / 2 := by omega
  rw [hd] at hx
  have hc : f % 2 = 1 ∨ f % 2 = 0 := by omega
  rcases hc with hc | hc
  · have hu : Hid (Lib.unzigzag f = -((f : Int) / 2) - 1) := by rw [unz_odd hc, hd]; rfl
    have ht : (((f : Int) % 2) == 1) = true := by simp; omega
    clear hd
    go_enter Tryz.func108, Tryz.ntmps108
    go_wp2
    go_ret
    exact ⟨by rw [hu.out]; rfl, rfl⟩
  · have hu : Hid (Lib.unzigzag f = (f : Int) / 2) := by rw [unz_even hc, hd]; rfl
    have ht : (((f : Int) % 2) == 1) = false := by simp; omega
    clear hd
    go_enter Tryz.func108, Tryz.ntmps108
    go_wp2
    go_ret
    exact ⟨by rw [hu.out]; rfl, rfl⟩
end Go.Proofs.YtbdgniiafdjmiaaGreatDoor
/- A number as bytes: what intBytes makes, in memory of its own. -/
namespace Go.Proofs.YtbdgniiafdjmiaaGreatDoor
open Go.RowKit

set_option maxRecDepth 100000 in
theorem info_u8 : (Tryz.prog.info? 5).map (fun i => (i.zero, i.size, i.bytes)) = some (some (.int .u8 0), 1, 1) := by kernel_rfl

/-- The bytes of a number. -/
def numB (n : Int) : List UInt8 := Lib.uvarint (Lib.zigzag n)

set_option maxHeartbeats 1000000 in
set_option maxRecDepth 100000 in
theorem intBytes_any (B : Nat) (n : Int) (h0 : -9223372036854775808 ≤ n) (h1 : n ≤ 9223372036854775807) (w : World) (hB : B ≤ w.heap.size) :
    Calls Tryz.prog 70 #[.int .i64 n] w fun e w' => ∃ v, e = .returned v ∧ w'.ownsRow B 5 1 v (numB n).length (Lib.byteCells (numB n)) ∧ Below B w w' := by
  obtain ⟨i0, hi, hz0, hz1, hz2⟩ := info_parts info_u8
  obtain ⟨x, hx⟩ : ∃ x, x = Lib.zigzag n := ⟨_, rfl⟩
  have hx64 : x < 18446744073709551616 := by rw [hx]; exact Lib.zigzag_lt h0 h1
  have hlen := Lib.uvarint_length64 hx64
  have HX : Hid (x = Lib.zigzag n) := hx
  unfold numB
  rw [← hx]
  clear hx
  go_enter Tryz.func70, Tryz.ntmps70
  go_wp2_with (go_at_call 98; refine (fold_any _ h0 h1 _).mono ?_; rintro e w' ⟨rfl, rfl⟩; rw [← HX.out])
  go_loopw [3, 4] (fun vb vx wr => ∃ (y : Nat) (pre : List UInt8), vx = .int .u64 y ∧ y ≤ x ∧ Lib.uvarint x = pre ++ Lib.uvarint y ∧ wr.ownsRow B 5 1 vb pre.length (Lib.byteCells pre) ∧ Below B w wr)
    (fun _ vx _ => (intOf vx).toNat)
  case atStart => exact ⟨x, [], rfl, Nat.le_refl _, rfl, World.ownsRow_nil _ _ _ _, Below.refl _ _⟩
  case round =>
    obtain ⟨y, pre, rfl, hy, hsplit, hown1, hnx⟩ := hrel
    have hpl : pre.length + (Lib.uvarint y).length ≤ 10 := by
      have h2 := congrArg List.length hsplit
      rw [List.length_append] at h2
      omega
    have hyp := Lib.uvarint_pos y
    have HS : Hid (Lib.uvarint x = pre ++ Lib.uvarint y) := hsplit
    clear hsplit
    by_cases h128 : 128 ≤ y
    · have hor : bits .or .u8 ((y : Int) % 256) 128 = ((y % 128 + 128 : Nat) : Int) := by
        rw [Lib.u8_or128_any _ (by omega) (by omega)]
        omega
      go_wp2_with (at_builtin; refine wpList_append_own _ rfl _ _ 30 rfl B 5 i0 (.int .u8 0) 1 1 Tryz.underlying30 hi hz0 hz1 hz2 rfl (by decide) _ _ _ rfl (hown1.alloc _) ⟨wr.heap.size, 0, none⟩ 1 1 [Value.int .u8 ((y % 128 + 128 : Nat) : Int)] rfl rfl ?c1 ?c2 ?c3 ?c4 ?c5 ?_)
      case c1 =>
        intro j u hj
        match j, hj with
        | 0, hj => simp at hj; subst hj; simp [Addr.add]
      case c2 => intro u hu; simp at hu; subst hu; rfl
      case c3 => unfold maxLen; omega
      case c4 => omega
      case c5 => have := hnx.size; simp; omega
      intro v' w1 hown' hgrow _
      have hnx1 : Below B w w1 := (hnx.alloc (by have := hnx.size; omega) _).grown hgrow (by have := hnx.size; simp; omega) (fun k hk => (hown1.lt k hk).1)
      go_wp2
      go_roundw
      case rel =>
        refine ⟨y / 128, pre ++ [(y % 128 + 128).toUInt8], by go_num, by omega, by rw [HS.out, Lib.uvarint_big h128]; simp, ?_, hnx1⟩
        have ec : ((y % 128 + 128 : Nat) : Int) = (y : Int) % 128 + 128 := by omega
        rw [Lib.byteCells_snoc pre (by omega), List.length_append, List.length_singleton, ec]
        exact hown'
      case measure => simp [intOf]; omega
    · have hsm : Lib.uvarint y = [y.toUInt8] := Lib.uvarint_small (by omega)
      have HM : Hid (Lib.uvarint y = [y.toUInt8]) := hsm
      clear hsm
      go_wp2_with (at_builtin; refine wpList_append_own _ rfl _ _ 30 rfl B 5 i0 (.int .u8 0) 1 1 Tryz.underlying30 hi hz0 hz1 hz2 rfl (by decide) _ _ _ rfl (hown1.alloc _) ⟨wr.heap.size, 0, none⟩ 1 1 [Value.int .u8 (y : Int)] rfl rfl ?c1 ?c2 ?c3 ?c4 ?c5 ?_)
      case c1 =>
        intro j u hj
        match j, hj with
        | 0, hj => simp at hj; subst hj; simp [Addr.add]
      case c2 => intro u hu; simp at hu; subst hu; rfl
      case c3 => unfold maxLen; omega
      case c4 => omega
      case c5 => have := hnx.size; simp; omega
      intro v' w1 hown' hgrow _
      have hnx1 : Below B w w1 := (hnx.alloc (by have := hnx.size; omega) _).grown hgrow (by have := hnx.size; simp; omega) (fun k hk => (hown1.lt k hk).1)
      go_wp2
      go_ret
      refine ⟨v', rfl, ?_, hnx1⟩
      rw [HS.out, HM.out, Lib.byteCells_snoc pre (by omega), List.length_append, List.length_singleton]
      exact hown'
end Go.Proofs.YtbdgniiafdjmiaaGreatDoor
/- Bytes in memory: what a slice value reads as, and what that is good for. Nothing here is of one program. -/
namespace Go.Proofs.YtbdgniiafdjmiaaGreatDoor
open Go.RowKit

/-- The slice value v reads in the world w as the bytes bs. -/
def bytesAt (w : World) (v : Value) (bs : List UInt8) : Prop :=
  ∃ base cap, v = .slice base bs.length cap ∧ (base = none → bs = [] ∧ cap = 0) ∧ bs.length ≤ cap ∧ cap ≤ maxLen ∧
    ∀ a, base = some a → ∀ j u, (Lib.byteCells bs)[j]? = some u → w.cell? (a.add j) = some u

theorem bytes_one (l : List UInt8) : ∀ v ∈ Lib.byteCells l, v.oneCell' = true := by
  intro v hv
  simp only [Lib.byteCells, List.mem_map] at hv
  obtain ⟨b, _, rfl⟩ := hv
  rfl

theorem bytesAt_nil (w : World) : bytesAt w (.slice none 0 0) [] := ⟨none, 0, rfl, fun _ => ⟨rfl, rfl⟩, Nat.le_refl _, Nat.zero_le _, fun a h => by cases h⟩

theorem bytesAt_below {w w' : World} {v : Value} {bs : List UInt8} {B : Nat} (h : bytesAt w v bs) (hb : Below B w w') (hB : w.heap.size ≤ B) : bytesAt w' v bs := by
  obtain ⟨base, cap, hv, hn, h1, h2, hc⟩ := h
  refine ⟨base, cap, hv, hn, h1, h2, fun a ha j u hj => ?_⟩
  have hw := hc a ha j u hj
  have hlt := World.block_lt_of_cell? w _ hw
  rw [hb.cell (by omega)]
  exact hw

theorem bytesAt_alloc {w : World} {v : Value} {bs : List UInt8} (h : bytesAt w v bs) (o : Obj) : bytesAt (w.alloc o) v bs :=
  bytesAt_below h ((Below.refl w.heap.size w).alloc (Nat.le_refl _) o) (Nat.le_refl _)

theorem bytesAt_own {w : World} {v : Value} {bs : List UInt8} {B e n : Nat} (h : w.ownsRow B e 1 v n (Lib.byteCells bs)) : bytesAt w v bs := by
  have hl := h.1
  rw [Lib.byteCells_length, Nat.mul_one] at hl
  obtain ⟨_, h2⟩ := h
  rcases h2 with ⟨rfl, rfl⟩ | ⟨g, cap, cur, hv, hg, hh, hnc, hm, hs, ht⟩
  · have : bs = [] := List.length_eq_zero_iff.1 hl
    subst this
    exact bytesAt_nil w
  · subst hv
    refine ⟨some ⟨g, 0, none⟩, cap, by rw [hl], (fun h => by cases h), by omega, hm, fun a ha j u hj => ?_⟩
    have h' : w.ownsRow B e 1 (.slice (some ⟨g, 0, none⟩) n cap) n (Lib.byteCells bs) := ⟨by rw [Lib.byteCells_length]; omega, .inr ⟨g, cap, cur, rfl, hg, hh, hnc, hm, hs, ht⟩⟩
    cases ha
    exact h'.cells rfl j u hj

theorem bytesAt_len {w : World} {v : Value} {bs : List UInt8} (h : bytesAt w v bs) : bs.length ≤ maxLen := by
  obtain ⟨_, cap, _, _, h1, h2, _⟩ := h; omega

/-- A slice value that owns bytes is nil, or lies in a block of its own. -/
theorem own_lt {w : World} {v : Value} {B e n : Nat} {xs : List Value} (h : w.ownsRow B e 1 v n xs) : ∀ k, v.ownBlock = some k → B ≤ k := fun k hk => (h.lt k hk).1

end Go.Proofs.YtbdgniiafdjmiaaGreatDoor
/- slices.Clone at bytes. -/
namespace Go.Proofs.YtbdgniiafdjmiaaGreatDoor
open Go.RowKit

set_option maxHeartbeats 1000000 in
set_option maxRecDepth 100000 in
theorem clone_any (v : Value) (bs : List UInt8) (w : World) (hv : bytesAt w v bs) (hb : bs.length ≤ 140737488355328) :
    Calls Tryz.prog 55 #[v] w fun e w' => ∃ v', e = .returned v' ∧ w'.ownsRow w.heap.size 5 1 v' bs.length (Lib.byteCells bs) ∧ Below w.heap.size w w' := by
  obtain ⟨i0, hi, hz0, hz1, hz2⟩ := info_parts info_u8
  obtain ⟨base, cap, rfl, hn, h1, h2, hc⟩ := hv
  cases base with
  | none =>
    obtain ⟨rfl, rfl⟩ := hn rfl
    have heq := fun (wx : World) => Lib.run_eql_slice_nil (P := Tryz.prog) wx 30 5 none 0 0 0 0 Tryz.underlying30
    clear hc hn
    show Calls Tryz.prog 55 #[.slice none 0 0] w _
    go_enter Tryz.func55, Tryz.ntmps55
    go_wp2
    go_ret
    exact ⟨_, rfl, World.ownsRow_nil _ _ _ _, Below.refl _ _⟩
  | some a =>
    have heq := fun (wx : World) => Lib.run_eql_slice_nil (P := Tryz.prog) wx 30 5 (some a) bs.length cap 0 0 Tryz.underlying30
    have hc' := hc a rfl
    clear hc hn
    have hl0 : (w.alloc (.cells #[] 5)).ownsRow w.heap.size 5 1 (.slice (some ⟨w.heap.size, 0, none⟩) 0 0) 0 [] := World.ownsRow_made w #[] 0 (Nat.le_refl _) (Nat.zero_le _) rfl
    go_enter Tryz.func55, Tryz.ntmps55
    go_wp2_with (at_builtin; refine wpList_append_own _ rfl _ _ 30 rfl w.heap.size 5 i0 (.int .u8 0) 1 1 Tryz.underlying30 hi hz0 hz1 hz2 rfl (by decide) _ _ _ rfl hl0 a bs.length cap (Lib.byteCells bs) rfl ?c0 ?c1 ?c2 ?c3 ?c4 ?c5 ?_)
    case c0 => rw [Lib.byteCells_length, Nat.mul_one]
    case c1 => intro j u hj; exact Lib.cell?_alloc_some _ (hc' j u hj)
    case c2 => exact bytes_one bs
    case c3 => omega
    case c4 => omega
    case c5 => simp
    intro v' w1 hown' hgrow _
    go_wp2
    go_ret
    refine ⟨v', rfl, by simpa using hown', ?_⟩
    exact ((Below.refl _ _).alloc (Nat.le_refl _) _).grown hgrow (by simp) (fun k hk => (hl0.lt k hk).1)
end Go.Proofs.YtbdgniiafdjmiaaGreatDoor
/- slices.Grow of nothing and slices.Concat, at bytes. -/
namespace Go.Proofs.YtbdgniiafdjmiaaGreatDoor
open Go.RowKit

set_option maxHeartbeats 1000000 in
set_option maxRecDepth 100000 in
theorem grow_zero (w : World) :
    Calls Tryz.prog 97 #[.slice none 0 0, .int .i64 0] w fun e w' => ∃ v, e = .returned v ∧ w'.ownsRow w.heap.size 5 1 v 0 [] ∧ Below w.heap.size w w' := by
  go_enter Tryz.func97, Tryz.ntmps97
  go_wp2
  go_ret
  exact ⟨_, rfl, World.ownsRow_nil _ _ _ _, Below.refl _ _⟩

set_option maxHeartbeats 1000000 in
set_option maxRecDepth 100000 in
theorem grow_pos (n : Nat) (h0 : 0 < n) (hb : n ≤ 140737488355328) (w : World) :
    Calls Tryz.prog 97 #[.slice none 0 0, .int .i64 n] w fun e w' => ∃ v, e = .returned v ∧ w'.ownsRow w.heap.size 5 1 v 0 [] ∧ Below w.heap.size w w' := by
  obtain ⟨i0, hi, hz0, hz1, hz2⟩ := info_parts info_u8
  have hold : (Builtin.firstCells i0.size 0 (.slice none 0 0)).run Tryz.prog w.drew = .ok ([] : List Value).toArray w.drew := run_firstCells_none w.drew i0.size 0 0 0
  have hrz : ∀ ty, (Builtin.append_ #[30, 3] ty #[.slice none 0 0, .int .i64 (n : Int)]).run Tryz.prog w =
      .ok (.slice (some ⟨w.heap.size, 0, none⟩) n (grownCap w n 0 5)) (w.drew.alloc (.cells (([] : List Value).toArray ++ Builtin.zeroCells (Value.int .u8 0).cells n ++ Builtin.zeroCells (Value.int .u8 0).cells (grownCap w n 0 5 - n)) 5)) := fun ty => by
    have h := Lib.run_append_grow_zeros w 30 3 ty 5 i0 (.int .u8 0) .i64 .i64 Tryz.underlying30 Tryz.underlying3 hi hz0 none 0 0 [] hold n h0 (by omega) (by omega) (by omega) (by rw [hz2]; omega) (by rw [hz2]; exact growslice_fits (by omega) (by omega))
    simpa using h
  have hGn : n ≤ grownCap w n 0 5 := grownCap_ge w _ _ _
  have hG63 : grownCap w n 0 5 ≤ maxLen := grownCap_le_maxLen w n 0 5 (by unfold maxLen; omega)
  obtain ⟨G, hG⟩ : ∃ G, G = grownCap w n 0 5 := ⟨_, rfl⟩
  rw [← hG] at hrz hGn hG63
  have hsz : (([] : List Value).toArray ++ Builtin.zeroCells (Value.int .u8 0).cells n ++ Builtin.zeroCells (Value.int .u8 0).cells (G - n)).size = G * 1 := by
    simp only [Array.size_append, size_zeroCells]
    show 0 + n * 1 + (G - n) * 1 = G * 1
    omega
  obtain ⟨cur, hcur⟩ : ∃ cur, cur = ([] : List Value).toArray ++ Builtin.zeroCells (Value.int .u8 0).cells n ++ Builtin.zeroCells (Value.int .u8 0).cells (G - n) := ⟨_, rfl⟩
  rw [← hcur] at hrz hsz
  clear hcur hG hold
  have hm := hG63
  unfold maxLen at hm
  have hown : (w.drew.alloc (.cells cur 5)).ownsRow w.heap.size 5 1 (.slice (some ⟨w.heap.size, 0, none⟩) 0 G) 0 [] := World.ownsRow_made w.drew cur G (Nat.le_refl _) hG63 hsz
  have hbel : Below w.heap.size w (w.drew.alloc (.cells cur 5)) := (Below.refl _ _).drew.alloc (Nat.le_refl _) _
  have HO : Hid ((w.drew.alloc (.cells cur 5)).ownsRow w.heap.size 5 1 (.slice (some ⟨w.heap.size, 0, none⟩) 0 G) 0 []) := hown
  clear hown hsz
  go_enter Tryz.func97, Tryz.ntmps97
  go_wp2_with (at_builtin; refine Lib.wpList_append_run _ rfl _ _ _ _ rfl _ _ rfl rfl _ _ (hrz _) ?_)
  all_goals go_ret
  all_goals exact ⟨_, rfl, HO.out, hbel⟩

set_option maxRecDepth 100000 in
theorem grow_any (n : Nat) (hb : n ≤ 140737488355328) (w : World) :
    Calls Tryz.prog 97 #[.slice none 0 0, .int .i64 n] w fun e w' => ∃ v, e = .returned v ∧ w'.ownsRow w.heap.size 5 1 v 0 [] ∧ Below w.heap.size w w' := by
  rcases Nat.eq_zero_or_pos n with rfl | h
  · exact grow_zero w
  · exact grow_pos n h hb w

/-- The bytes of the first k parts. -/
def catB (ps : List (Value × List UInt8)) (k : Nat) : List UInt8 := ((ps.take k).map (fun p => p.2)).flatten

theorem catB_zero (ps : List (Value × List UInt8)) : catB ps 0 = [] := by simp [catB]
theorem catB_succ (ps : List (Value × List UInt8)) (k : Nat) (h : k < ps.length) : catB ps (k + 1) = catB ps k ++ (ps[k]).2 := by
  unfold catB
  rw [List.take_succ_eq_append_getElem h, List.map_append, List.flatten_append, List.map_singleton, List.flatten_singleton]
theorem catB_le (ps : List (Value × List UInt8)) (k : Nat) : (catB ps k).length ≤ (catB ps ps.length).length := by
  have h : catB ps ps.length = catB ps k ++ ((ps.drop k).map (fun p => p.2)).flatten := by
    unfold catB
    rw [List.take_length]
    rw [← List.flatten_append, ← List.map_append, List.take_append_drop]
  rw [h, List.length_append]; omega

set_option maxHeartbeats 2000000 in
set_option maxRecDepth 100000 in
theorem concat_any (g c : Nat) (ps : List (Value × List UInt8)) (w : World)
    (hcell : ∀ j p, ps[j]? = some p → w.cell? ⟨g, j, none⟩ = some p.1) (hby : ∀ p ∈ ps, bytesAt w p.1 p.2)
    (hm : ps.length ≤ 1000) (hb : (catB ps ps.length).length ≤ 140737488355328) :
    Calls Tryz.prog 69 #[.slice (some ⟨g, 0, none⟩) ps.length c] w fun e w' => ∃ v, e = .returned v ∧
      w'.ownsRow w.heap.size 5 1 v (catB ps ps.length).length (Lib.byteCells (catB ps ps.length)) ∧ Below w.heap.size w w' := by
  obtain ⟨i0, hi, hz0, hz1, hz2⟩ := info_parts info_u8
  obtain ⟨m, hml⟩ : ∃ m, m = ps.length := ⟨_, rfl⟩
  have HM : Hid (m = ps.length) := hml
  rw [← hml] at hm hb ⊢
  have hle := fun k => catB_le ps k
  rw [← hml] at hle
  clear hml
  go_enter Tryz.func69, Tryz.ntmps69
  go_wp2
  go_loop [3, 11] (fun t i => ∃ k : Nat, k ≤ m ∧ i = .int .i64 k ∧ t = .int .i64 (catB ps k).length) (fun _ i => m - (intOf i).toNat)
  case atStart => exact ⟨0, Nat.zero_le _, rfl, by rw [catB_zero]; rfl⟩
  case round =>
    obtain ⟨k, hk, rfl, rfl⟩ := hrel
    by_cases hlt : k < m
    · have hkl : k < ps.length := by rw [← HM.out]; exact hlt
      have hc1 := hcell k ps[k] (List.getElem?_eq_getElem hkl)
      obtain ⟨base, cap, hv, hn, h1, h2, hc⟩ := hby ps[k] (List.getElem_mem hkl)
      rw [hv] at hc1
      have hs := catB_succ ps k hkl
      have hl1 := hle k
      have hl2 := hle (k + 1)
      rw [hs, List.length_append] at hl2
      have HS : Hid (catB ps (k + 1) = catB ps k ++ (ps[k]).2) := hs
      clear hs hv hn hc hcell hby
      obtain ⟨q, hq⟩ : ∃ q, q = (ps[k]).2.length := ⟨_, rfl⟩
      obtain ⟨q0, hq0⟩ : ∃ q0, q0 = (catB ps k).length := ⟨_, rfl⟩
      rw [← hq] at hc1 hl2 h1
      rw [← hq0] at hl1 hl2 ⊢
      have HQ : Hid (q = (ps[k]).2.length) := hq
      have HQ0 : Hid (q0 = (catB ps k).length) := hq0
      clear hq hq0 hle
      have hb' := hb
      go_wp2
      go_round
      case rel => exact ⟨k + 1, by omega, by go_num, by rw [HS.out, List.length_append, ← HQ.out, ← HQ0.out]; go_num⟩
      case measure => simp [intOf]; omega
    · obtain rfl : k = m := by omega
      clear hlt hk
      go_wp2_with (go_at_call 97; refine (grow_any _ hb _).mono ?_; rintro e w1 ⟨v1, rfl, hown0, hb0⟩)
      go_loopw [6, 27] (fun vb i wr => ∃ j : Nat, j ≤ k ∧ i = .int .i64 j ∧ wr.ownsRow w.heap.size 5 1 vb (catB ps j).length (Lib.byteCells (catB ps j)) ∧ Below w.heap.size w wr) (fun _ i _ => k - (intOf i).toNat)
      case atStart => exact ⟨0, Nat.zero_le _, rfl, by rw [catB_zero]; exact hown0, hb0⟩
      case round =>
        obtain ⟨j, hj, rfl, hown, hnx⟩ := hrel
        have hnz := hnx.size
        by_cases hlt : j < k
        · have hjl : j < ps.length := by rw [← HM.out]; exact hlt
          have hc1 := hcell j ps[j] (List.getElem?_eq_getElem hjl)
          obtain ⟨base, cap, hv, hn, h1, h2, hc⟩ := hby ps[j] (List.getElem_mem hjl)
          rw [hv] at hc1
          have hc1b := World.block_lt_of_cell? w _ hc1
          have hc2 : wr.cell? ⟨g, j, none⟩ = some (.slice base (ps[j]).2.length cap) := (hnx.cell hc1b).trans hc1
          have hs := catB_succ ps j hjl
          have hl1 := hle j
          have hl2 := hle (j + 1)
          rw [hs, List.length_append] at hl2
          have HS : Hid (catB ps (j + 1) = catB ps j ++ (ps[j]).2) := hs
          clear hs hv hcell hby hc1 hle hb0 hown0
          obtain ⟨bs, hbs⟩ : ∃ bs, bs = (ps[j]).2 := ⟨_, rfl⟩
          rw [← hbs] at HS hl2 hc2 h1 hn hc
          clear hbs
          cases base with
          | none =>
            obtain ⟨rfl, rfl⟩ := hn rfl
            clear hn hc h1 h2
            go_wp2_with (at_builtin; refine wpList_append_own_none rfl _ _ 30 rfl w.heap.size 5 i0 1 Tryz.underlying30 hi _ _ _ rfl hown rfl ?_)
            go_roundw
            case rel => exact ⟨j + 1, by omega, by go_num, by rw [HS.out, List.append_nil]; exact hown, hnx⟩
            case measure => simp [intOf]; omega
          | some a =>
            have hc' : ∀ i u, (Lib.byteCells bs)[i]? = some u → wr.cell? (a.add i) = some u := fun i u hi' => by
              have h := hc a rfl i u hi'
              rw [hnx.cell (World.block_lt_of_cell? w _ h)]
              exact h
            have HC : Hid (∀ i u, (Lib.byteCells bs)[i]? = some u → wr.cell? (a.add i) = some u) := hc'
            clear hc' hc hn
            go_wp2_with (at_builtin; refine wpList_append_own _ rfl _ _ 30 rfl w.heap.size 5 i0 (.int .u8 0) 1 1 Tryz.underlying30 hi hz0 hz1 hz2 rfl (by decide) _ _ _ rfl hown a bs.length cap (Lib.byteCells bs) rfl ?c0 ?c1 ?c2 ?c3 ?c4 ?c5 ?_)
            case c0 => rw [Lib.byteCells_length]
            case c1 => exact HC.out
            case c2 => exact bytes_one bs
            case c3 => unfold maxLen; omega
            case c4 => omega
            intro v' w2 hown' hgrow _
            have hnx1 : Below w.heap.size w w2 := hnx.grown hgrow (by omega) (fun q hq => (hown.lt q hq).1)
            go_wp2
            go_roundw
            case rel => exact ⟨j + 1, by omega, by go_num, by rw [HS.out, List.length_append, Lib.byteCells_append]; exact hown', hnx1⟩
            case measure => simp [intOf]; omega
        · obtain rfl : j = k := by omega
          go_wp2
          go_ret
          exact ⟨_, rfl, hown, hnx⟩
end Go.Proofs.YtbdgniiafdjmiaaGreatDoor
/- PutInt, PutBool, PutText: the bytes, and what is put behind them, in memory of the call's own. -/
namespace Go.Proofs.YtbdgniiafdjmiaaGreatDoor
open Go.RowKit

theorem numB_len {n : Int} (h0 : -9223372036854775808 ≤ n) (h1 : n ≤ 9223372036854775807) : (numB n).length ≤ 10 :=
  Lib.uvarint_length64 (Lib.zigzag_lt h0 h1)

theorem own_base {B C e n : Nat} {w : World} {v : Value} {xs : List Value} (h : w.ownsRow B e 1 v n xs) (hC : C ≤ B) : w.ownsRow C e 1 v n xs := by
  obtain ⟨h1, h2⟩ := h
  refine ⟨h1, ?_⟩
  rcases h2 with h2 | ⟨g, cap, cur, hv, hg, r⟩
  · exact .inl h2
  · exact .inr ⟨g, cap, cur, hv, by omega, r⟩

set_option maxRecDepth 100000 in
theorem concat2 (g : Nat) (v0 v1 : Value) (b0 b1 : List UInt8) (w : World) (h0 : w.cell? ⟨g, 0, none⟩ = some v0) (h1 : w.cell? ⟨g, 1, none⟩ = some v1)
    (hb0 : bytesAt w v0 b0) (hb1 : bytesAt w v1 b1) (hl : b0.length + b1.length ≤ 140737488355328) :
    Calls Tryz.prog 69 #[.slice (some ⟨g, 0, none⟩) 2 2] w fun e w' => ∃ v, e = .returned v ∧
      w'.ownsRow w.heap.size 5 1 v (b0 ++ b1).length (Lib.byteCells (b0 ++ b1)) ∧ Below w.heap.size w w' := by
  have h := concat_any g 2 [(v0, b0), (v1, b1)] w
    (fun j p hj => by
      match j, hj with
      | 0, hj => simp at hj; subst hj; exact h0
      | 1, hj => simp at hj; subst hj; exact h1)
    (fun p hp => by
      simp at hp
      rcases hp with rfl | rfl
      · exact hb0
      · exact hb1) (by simp) (by simpa [catB] using hl)
  have e : catB [(v0, b0), (v1, b1)] [(v0, b0), (v1, b1)].length = b0 ++ b1 := by simp [catB]
  rw [e] at h
  exact h

set_option maxRecDepth 100000 in
theorem concat3 (g : Nat) (v0 v1 v2 : Value) (b0 b1 b2 : List UInt8) (w : World) (h0 : w.cell? ⟨g, 0, none⟩ = some v0) (h1 : w.cell? ⟨g, 1, none⟩ = some v1) (h2 : w.cell? ⟨g, 2, none⟩ = some v2)
    (hb0 : bytesAt w v0 b0) (hb1 : bytesAt w v1 b1) (hb2 : bytesAt w v2 b2) (hl : b0.length + b1.length + b2.length ≤ 140737488355328) :
    Calls Tryz.prog 69 #[.slice (some ⟨g, 0, none⟩) 3 3] w fun e w' => ∃ v, e = .returned v ∧
      w'.ownsRow w.heap.size 5 1 v (b0 ++ (b1 ++ b2)).length (Lib.byteCells (b0 ++ (b1 ++ b2))) ∧ Below w.heap.size w w' := by
  have h := concat_any g 3 [(v0, b0), (v1, b1), (v2, b2)] w
    (fun j p hj => by
      match j, hj with
      | 0, hj => simp at hj; subst hj; exact h0
      | 1, hj => simp at hj; subst hj; exact h1
      | 2, hj => simp at hj; subst hj; exact h2)
    (fun p hp => by
      simp at hp
      rcases hp with rfl | rfl | rfl
      · exact hb0
      · exact hb1
      · exact hb2) (by simp) (by simp [catB]; omega)
  have e : catB [(v0, b0), (v1, b1), (v2, b2)] [(v0, b0), (v1, b1), (v2, b2)].length = b0 ++ (b1 ++ b2) := by simp [catB]
  rw [e] at h
  exact h

set_option maxHeartbeats 1000000 in
set_option maxRecDepth 100000 in
theorem putInt_any (v : Value) (bs : List UInt8) (n : Int) (h0 : -9223372036854775808 ≤ n) (h1 : n ≤ 9223372036854775807) (w : World) (hv : bytesAt w v bs) (hb : bs.length + 10 ≤ 140737488355328) :
    Calls Tryz.prog 40 #[v, .int .i64 n] w fun e w' => ∃ v', e = .returned v' ∧
      w'.ownsRow w.heap.size 5 1 v' (bs ++ numB n).length (Lib.byteCells (bs ++ numB n)) ∧ Below w.heap.size w w' := by
  have hv0 := hv
  have HV : Hid (bytesAt w v bs) := hv0
  have hnl := numB_len h0 h1
  obtain ⟨base, cap, rfl, hrest⟩ := hv
  clear hrest hv0
  go_enter Tryz.func40, Tryz.ntmps40
  go_wp2_with fail
  refine (intBytes_any w.heap.size n h0 h1 w (Nat.le_refl _)).mono ?_
  rintro e w1 ⟨v1, rfl, hown1, hb1⟩
  have hB1 := bytesAt_own hown1
  have HB1 : Hid (bytesAt w1 v1 (numB n)) := hB1
  obtain ⟨base1, cap1, rfl, hrest⟩ := hB1
  clear hrest
  have hsz := hb1.size
  go_wp2_with fail
  have c0 : (w1.alloc (Obj.cells #[Value.slice base bs.length cap, Value.slice base1 (numB n).length cap1] 30)).cell? ⟨w1.heap.size, 0, none⟩ = some (Value.slice base bs.length cap) := by simp
  have c1 : (w1.alloc (Obj.cells #[Value.slice base bs.length cap, Value.slice base1 (numB n).length cap1] 30)).cell? ⟨w1.heap.size, 1, none⟩ = some (Value.slice base1 (numB n).length cap1) := by simp
  refine (concat2 w1.heap.size _ _ bs (numB n) _ c0 c1 (bytesAt_alloc (bytesAt_below HV.out hb1 (Nat.le_refl _)) _) (bytesAt_alloc HB1.out _) (by omega)).mono ?_
  rintro e w2 ⟨v2, rfl, hown2, hb2⟩
  have hf1 : w2.ownsRow w.heap.size 5 1 v2 (bs ++ numB n).length (Lib.byteCells (bs ++ numB n)) := own_base hown2 (by simp; omega)
  have hf2 : Below w.heap.size w w2 := (hb1.alloc hsz _).trans (hb2.mono (by simp; omega))
  have HF : Hid (w2.ownsRow w.heap.size 5 1 v2 (bs ++ numB n).length (Lib.byteCells (bs ++ numB n)) ∧ Below w.heap.size w w2) := ⟨hf1, hf2⟩
  clear hf1 hf2 hown1 hown2 hb1 hb2 c0 c1 hsz
  go_wp2
  go_ret
  exact ⟨_, rfl, HF.out⟩

/-- A truth's byte. -/
def boolB (is : Bool) : List UInt8 := [if is then 1 else 0]

theorem bytesAt_new1 (w : World) (x : UInt8) : bytesAt (w.alloc (Obj.cells #[Value.int .u8 (x.toNat : Int)] 5)) (Value.slice (some ⟨w.heap.size, 0, none⟩) 1 1) [x] := by
  refine ⟨some ⟨w.heap.size, 0, none⟩, 1, rfl, (fun h => by cases h), Nat.le_refl _, by unfold maxLen; omega, fun a ha j u hj => ?_⟩
  cases ha
  match j, hj with
  | 0, hj => simp [Lib.byteCells] at hj; subst hj; simp [Addr.add]

/-- A text's bytes. -/
def textB (s : ByteArray) : List UInt8 := numB s.size ++ s.data.toList

theorem data_len (s : ByteArray) : s.data.toList.length = s.size := by rw [Array.length_toList]; rfl

theorem bytesWorld_below (w : World) (e : TypeId) (s : ByteArray) : Below w.heap.size w (Lib.bytesWorld w e s) := by
  refine ⟨rfl, rfl, rfl, by rw [Lib.bytesWorld_size]; omega, fun k hk => Lib.bytesWorld_at_old w e s k hk⟩

theorem add_zero' (b j : Nat) : (⟨b, 0, none⟩ : Addr).add j = ⟨b, j, none⟩ := by
  unfold Addr.add
  split
  · simp_all
  · simp

theorem bytesAt_conv (w : World) (e : TypeId) (s : ByteArray) (hs : s.size ≤ maxLen) : bytesAt (Lib.bytesWorld w e s) (.slice (some ⟨w.heap.size, 0, none⟩) s.size (grownCap w s.size 0 e)) s.data.toList := by
  refine ⟨some ⟨w.heap.size, 0, none⟩, grownCap w s.size 0 e, by rw [data_len], (fun h => by cases h), by rw [data_len]; exact grownCap_ge w _ _ _, grownCap_le_maxLen w _ _ _ hs, fun a ha j u hj => ?_⟩
  cases ha
  have hjl : j < s.data.toList.length := by
    rcases Nat.lt_or_ge j s.data.toList.length with h | h
    · exact h
    · rw [List.getElem?_eq_none (by rw [Lib.byteCells_length]; exact h)] at hj; cases hj
  have h := Lib.bytesWorld_cell w e s j (by rw [← data_len]; exact hjl)
  have e1 : (⟨w.heap.size, 0, none⟩ : Addr).add j = ⟨w.heap.size, j, none⟩ := add_zero' w.heap.size j
  rw [e1, h]
  unfold Lib.byteCells at hj
  rw [List.getElem?_map, List.getElem?_eq_getElem hjl] at hj
  rw [List.getD_eq_getElem?_getD, List.getElem?_eq_getElem hjl]
  exact hj

set_option maxHeartbeats 1000000 in
set_option maxRecDepth 100000 in
theorem putText_any (v : Value) (bs : List UInt8) (s : ByteArray) (w : World) (hv : bytesAt w v bs) (hb : bs.length + s.size + 10 ≤ 140737488355328) :
    Calls Tryz.prog 41 #[v, .string s] w fun e w' => ∃ v', e = .returned v' ∧
      w'.ownsRow w.heap.size 5 1 v' (bs ++ textB s).length (Lib.byteCells (bs ++ textB s)) ∧ Below w.heap.size w w' := by
  have hv0 := hv
  have HV : Hid (bytesAt w v bs) := hv0
  have h0 : -9223372036854775808 ≤ (s.size : Int) := by omega
  have h1 : (s.size : Int) ≤ 9223372036854775807 := by omega
  have hnl := numB_len h0 h1
  obtain ⟨base, cap, rfl, hrest⟩ := hv
  clear hrest hv0
  have hconv := fun (wx : World) => Lib.run_convert_string_bytes (P := Tryz.prog) wx 9 30 5 s Tryz.underlying9 Tryz.underlying30 Tryz.underlying5
  go_enter Tryz.func41, Tryz.ntmps41
  go_wp2_with fail
  refine (intBytes_any w.heap.size s.size h0 h1 w (Nat.le_refl _)).mono ?_
  rintro e w1 ⟨v1, rfl, hown1, hb1⟩
  have hB1 := bytesAt_own hown1
  have HB1 : Hid (bytesAt w1 v1 (numB s.size)) := hB1
  obtain ⟨base1, cap1, rfl, hrest⟩ := hB1
  clear hrest
  have hsz := hb1.size
  have HC : Hid (bytesAt (Lib.bytesWorld w1 5 s) (.slice (some ⟨w1.heap.size, 0, none⟩) s.size (grownCap w1 s.size 0 5)) s.data.toList) := bytesAt_conv w1 5 s (by unfold maxLen; omega)
  have HZ : (Lib.bytesWorld w1 5 s).heap.size = w1.heap.size + 1 := Lib.bytesWorld_size w1 5 s
  have HBW : Hid (Below w1.heap.size w1 (Lib.bytesWorld w1 5 s)) := bytesWorld_below w1 5 s
  go_wp2_with fail
  generalize hwb : Lib.bytesWorld w1 5 s = wb at *
  generalize grownCap w1 s.size 0 5 = cp at *
  have c0 : (wb.alloc (Obj.cells #[Value.slice base bs.length cap, Value.slice base1 (numB s.size).length cap1, Value.slice (some ⟨w1.heap.size, 0, none⟩) s.size cp] 30)).cell? ⟨w1.heap.size + 1, 0, none⟩ = some (Value.slice base bs.length cap) := by rw [← HZ]; simp
  have c1 : (wb.alloc (Obj.cells #[Value.slice base bs.length cap, Value.slice base1 (numB s.size).length cap1, Value.slice (some ⟨w1.heap.size, 0, none⟩) s.size cp] 30)).cell? ⟨w1.heap.size + 1, 1, none⟩ = some (Value.slice base1 (numB s.size).length cap1) := by rw [← HZ]; simp
  have c2 : (wb.alloc (Obj.cells #[Value.slice base bs.length cap, Value.slice base1 (numB s.size).length cap1, Value.slice (some ⟨w1.heap.size, 0, none⟩) s.size cp] 30)).cell? ⟨w1.heap.size + 1, 2, none⟩ = some (Value.slice (some ⟨w1.heap.size, 0, none⟩) s.size cp) := by rw [← HZ]; simp
  refine (concat3 (w1.heap.size + 1) _ _ _ bs (numB s.size) s.data.toList _ c0 c1 c2 (bytesAt_alloc (bytesAt_below (bytesAt_below HV.out hb1 (Nat.le_refl _)) HBW.out (Nat.le_refl _)) _) (bytesAt_alloc (bytesAt_below HB1.out HBW.out (Nat.le_refl _)) _) (bytesAt_alloc HC.out _) (by rw [data_len]; omega)).mono ?_
  rintro e w2 ⟨v2, rfl, hown2, hb2⟩
  have HF : Hid (w2.ownsRow w.heap.size 5 1 v2 (bs ++ textB s).length (Lib.byteCells (bs ++ textB s)) ∧ Below w.heap.size w w2) :=
    ⟨own_base hown2 (by simp; omega), ((hb1.trans (HBW.out.mono hsz)).alloc (by omega) _).trans (hb2.mono (by simp; omega))⟩
  clear hown2 hb2 hown1 hb1 c0 c1 c2 HZ hsz hconv
  go_wp2
  go_ret
  exact ⟨_, rfl, HF.out⟩
end Go.Proofs.YtbdgniiafdjmiaaGreatDoor
/- Reading a number off bytes. -/
namespace Go.Proofs.YtbdgniiafdjmiaaGreatDoor
open Go.RowKit

/-- The slice that begins at base reads in w as bs. -/
def rowAt (w : World) (base : Option Addr) (bs : List UInt8) : Prop :=
  bs = [] ∨ ∃ b o, base = some ⟨b, o, none⟩ ∧ ∀ j (h : j < bs.length), w.cell? ⟨b, o + j, none⟩ = some (.int .u8 (bs[j].toNat : Int))

/-- A fold off bytes: it, how many bytes, what went wrong; i bytes are behind, their sum is acc. -/
def scan (i acc : Nat) : List UInt8 → Nat × Nat × Nat
  | [] => (0, 0, 3)
  | x :: r => if (0 < i ∧ x.toNat = 0) ∨ (i = 9 ∧ x.toNat ≠ 1) then (0, 0, 4) else if x.toNat < 128 then (acc + x.toNat % 128 * 128 ^ i, i + 1, 0) else scan (i + 1) (acc + x.toNat % 128 * 128 ^ i) r

/-- A number off bytes: it, how many bytes, what went wrong. -/
def getI (bs : List UInt8) : Int × Nat × Nat :=
  if (scan 0 0 bs).2.2 = 0 then (Lib.unzigzag (scan 0 0 bs).1, (scan 0 0 bs).2.1, 0) else (0, 0, (scan 0 0 bs).2.2)

theorem getI_err {bs : List UInt8} {e : Nat} (h : scan 0 0 bs = (0, 0, e)) (he : e ≠ 0) : getI bs = (0, 0, e) := by
  unfold getI; rw [h]; simp [he]
theorem getI_ok {bs : List UInt8} {f k : Nat} (h : scan 0 0 bs = (f, k, 0)) : getI bs = (Lib.unzigzag f, k, 0) := by
  unfold getI; rw [h]; simp

theorem drop_at {bs : List UInt8} {k : Nat} (h : k < bs.length) : bs.drop k = bs[k] :: bs.drop (k + 1) := (List.getElem_cons_drop h).symm

theorem scan_bad {bs : List UInt8} {k acc : Nat} (h : k < bs.length) (hb : (0 < k ∧ bs[k].toNat = 0) ∨ (k = 9 ∧ bs[k].toNat ≠ 1)) : scan k acc (bs.drop k) = (0, 0, 4) := by
  rw [drop_at h]; unfold scan; rw [if_pos hb]
theorem scan_end {bs : List UInt8} {k acc : Nat} (h : k < bs.length) (hb : ¬ ((0 < k ∧ bs[k].toNat = 0) ∨ (k = 9 ∧ bs[k].toNat ≠ 1))) (hx : bs[k].toNat < 128) : scan k acc (bs.drop k) = (acc + bs[k].toNat % 128 * 128 ^ k, k + 1, 0) := by
  rw [drop_at h]; unfold scan; rw [if_neg hb, if_pos hx]
theorem scan_more {bs : List UInt8} {k acc : Nat} (h : k < bs.length) (hb : ¬ ((0 < k ∧ bs[k].toNat = 0) ∨ (k = 9 ∧ bs[k].toNat ≠ 1))) (hx : ¬ bs[k].toNat < 128) : scan k acc (bs.drop k) = scan (k + 1) (acc + bs[k].toNat % 128 * 128 ^ k) (bs.drop (k + 1)) := by
  rw [drop_at h]; conv => lhs; unfold scan
  rw [if_neg hb, if_neg hx]
theorem scan_none {bs : List UInt8} {k acc : Nat} (h : bs.length ≤ k) : scan k acc (bs.drop k) = (0, 0, 3) := by
  rw [List.drop_eq_nil_of_le h]; rfl

set_option maxRecDepth 100000 in
theorem andNot_nat : ∀ a : Fin 256, bits .andNot .u8 (a.val : Int) 128 = ((a.val % 128 : Nat) : Int) := by decide

theorem pow7 (k : Nat) : (128 : Nat) ^ k = 2 ^ (7 * k) := by rw [Nat.pow_mul]

theorem room9 {k x : Nat} (hk : k ≤ 9) (hx : k = 9 → x % 128 ≤ 1) : x % 128 * 128 ^ k < 18446744073709551616 := by
  have hm : x % 128 < 128 := Nat.mod_lt _ (by decide)
  rcases Nat.lt_or_ge k 9 with h | h
  · have h1 : (128 : Nat) ^ k ≤ 128 ^ 8 := Nat.pow_le_pow_right (by decide) (by omega)
    have h2 : x % 128 * 128 ^ k ≤ 127 * 128 ^ 8 := Nat.mul_le_mul (by omega) h1
    exact Nat.lt_of_le_of_lt h2 (by decide)
  · obtain rfl : k = 9 := by omega
    have h2 : x % 128 * 128 ^ 9 ≤ 1 * 128 ^ 9 := Nat.mul_le_mul (hx rfl) (Nat.le_refl _)
    exact Nat.lt_of_le_of_lt h2 (by decide)

theorem or_step {k acc x : Nat} (hk : k ≤ 9) (hacc : acc < 128 ^ k) (hx : x < 256) (h9 : k = 9 → x % 128 ≤ 1) :
    bits .or .u64 (acc : Int) (IntKind.u64.wrap (IntKind.u64.wrap (bits .andNot .u8 (x : Int) 128) * 2 ^ (7 * k))) = ((acc + x % 128 * 128 ^ k : Nat) : Int) := by
  have h1 : bits .andNot .u8 (x : Int) 128 = ((x % 128 : Nat) : Int) := andNot_nat ⟨x, hx⟩
  have hr := room9 hk h9
  have hm : x % 128 < 128 := Nat.mod_lt _ (by decide)
  have h2 : IntKind.u64.wrap ((x % 128 : Nat) : Int) = ((x % 128 : Nat) : Int) := wraps_u64 _ (by omega) (by omega)
  have e : ((x % 128 : Nat) : Int) * 2 ^ (7 * k) = ((x % 128 * 128 ^ k : Nat) : Int) := by
    rw [pow7, Int.natCast_mul, Int.natCast_pow]; rfl
  have h3 : IntKind.u64.wrap ((x % 128 * 128 ^ k : Nat) : Int) = ((x % 128 * 128 ^ k : Nat) : Int) := wraps_u64 _ (by omega) (by omega)
  rw [h1, h2, e, h3]
  have ha : (acc : Int) < 2 ^ (7 * k) := by
    rw [pow7] at hacc
    have h := Int.ofNat_lt.2 hacc
    rw [Int.natCast_pow] at h
    exact h
  have ha64 : acc < 18446744073709551616 := by
    exact Nat.lt_trans (Nat.lt_of_lt_of_le hacc (Nat.pow_le_pow_right (by decide) hk)) (by decide)
  have hmod : ((x % 128 * 128 ^ k : Nat) : Int) % 2 ^ (7 * k) = 0 := by
    rw [← e]; exact Int.mul_emod_left _ _
  have h := bits_join_low .u64 64 (by decide) wraps_u64 (7 * k) (acc : Int) ((x % 128 * 128 ^ k : Nat) : Int) (by omega) ha (by omega) (by omega) hmod (by omega)
  rw [h]; omega

theorem acc_lt {k acc x : Nat} (hacc : acc < 128 ^ k) : acc + x % 128 * 128 ^ k < 128 ^ (k + 1) := by
  have hm : x % 128 ≤ 127 := by omega
  have h2 : x % 128 * 128 ^ k ≤ 127 * 128 ^ k := Nat.mul_le_mul_right _ hm
  rw [Nat.pow_succ]; omega

theorem acc_64 {k acc x : Nat} (hk : k ≤ 9) (hacc : acc < 128 ^ k) (h9 : k = 9 → x % 128 ≤ 1) : acc + x % 128 * 128 ^ k < 18446744073709551616 := by
  have hm : x % 128 < 128 := Nat.mod_lt _ (by decide)
  rcases Nat.lt_or_ge k 9 with h | h
  · have h1 := acc_lt (x := x) hacc
    exact Nat.lt_trans (Nat.lt_of_lt_of_le h1 (Nat.pow_le_pow_right (by decide) (show k + 1 ≤ 9 by omega))) (by decide)
  · obtain rfl : k = 9 := by omega
    have h2 : x % 128 * 128 ^ 9 ≤ 1 * 128 ^ 9 := Nat.mul_le_mul (h9 rfl) (Nat.le_refl _)
    have h3 : (1 : Nat) * 128 ^ 9 = 9223372036854775808 := by decide
    have h4 : (128 : Nat) ^ 9 = 9223372036854775808 := by decide
    omega
end Go.Proofs.YtbdgniiafdjmiaaGreatDoor
/- getInt: what it answers, of any bytes. -/
namespace Go.Proofs.YtbdgniiafdjmiaaGreatDoor
open Go.RowKit

theorem ret3 {a b : Int × Nat × Nat} (h : a = b) : (Ending.returned (.tuple #[.int .i64 b.1, .int .i64 b.2.1, .int .i64 b.2.2]) : Ending) = Ending.returned (.tuple #[.int .i64 a.1, .int .i64 a.2.1, .int .i64 a.2.2]) := by rw [h]

set_option maxHeartbeats 2000000 in
set_option maxRecDepth 100000 in
theorem getInt_any (base : Option Addr) (bs : List UInt8) (cap : Nat) (w : World) (hr : rowAt w base bs) (hl : bs.length ≤ maxLen) :
    Calls Tryz.prog 88 #[.slice base bs.length cap] w fun e w' => e = .returned (.tuple #[.int .i64 (getI bs).1, .int .i64 (getI bs).2.1, .int .i64 (getI bs).2.2]) ∧ w = w' := by
  unfold maxLen at hl
  obtain ⟨len, hlen⟩ : ∃ len, len = bs.length := ⟨_, rfl⟩
  have HL : Hid (len = bs.length) := hlen
  rw [← hlen] at hl ⊢
  clear hlen
  go_enter Tryz.func88, Tryz.ntmps88
  go_wp2
  go_loop [5, 10] (fun f i => ∃ k acc : Nat, k ≤ len ∧ k ≤ 9 ∧ i = .int .i64 k ∧ f = .int .u64 acc ∧ acc < 128 ^ k ∧ scan 0 0 bs = scan k acc (bs.drop k)) (fun _ i => len - (intOf i).toNat)
  case atStart => exact ⟨0, 0, Nat.zero_le _, Nat.zero_le _, rfl, rfl, by simp, rfl⟩
  case round =>
    obtain ⟨k, acc, hk, hk9, rfl, rfl, hacc, hsc⟩ := hrel
    have HSC : Hid (scan 0 0 bs = scan k acc (bs.drop k)) := hsc
    have HA : Hid (acc < 128 ^ k) := hacc
    clear hsc hacc
    by_cases hlt : k < len
    · have hkb : k < bs.length := by rw [← HL.out]; exact hlt
      rcases hr with rfl | ⟨b, o, rfl, hcell⟩
      · simp at hkb
      · have hc := hcell k hkb
        obtain ⟨x, hx⟩ : ∃ x, x = bs[k].toNat := ⟨_, rfl⟩
        have hx256 : x < 256 := by rw [hx]; exact UInt8.toNat_lt _
        rw [← hx] at hc
        have HX : Hid (x = bs[k].toNat) := hx
        clear hx hcell
        by_cases hbad : (0 < k ∧ x = 0) ∨ (k = 9 ∧ x ≠ 1)
        · have HG : Hid (getI bs = (0, 0, 4)) := getI_err (HSC.out.trans (scan_bad hkb (by rw [← HX.out]; exact hbad))) (by decide)
          rcases hbad with ⟨hb1, hb2⟩ | ⟨hb1, hb2⟩
          · have t0 : ((x : Int) == 0) = true := by rw [beq_iff_eq]; omega
            clear hb2
            go_wp2
            go_ret3
            exact ⟨ret3 HG.out, rfl⟩
          · have t1 : 0 < k := by omega
            have t2 : ((k : Int) == 9) = true := by rw [beq_iff_eq]; omega
            have t3 : ((x : Int) != 1) = true := by rw [bne_iff_ne]; omega
            clear hb1 hb2
            by_cases hx0 : x = 0
            · have t0 : ((x : Int) == 0) = true := by rw [beq_iff_eq]; omega
              clear hx0
              go_wp2
              go_ret3
              exact ⟨ret3 HG.out, rfl⟩
            · have t0 : ((x : Int) == 0) = false := by rw [beq_eq_false_iff_ne]; omega
              clear hx0
              go_wp2
              go_ret3
              exact ⟨ret3 HG.out, rfl⟩
        · have h9 : k = 9 → x % 128 ≤ 1 := by omega
          have hor := or_step hk9 HA.out hx256 h9
          have h64 := acc_64 hk9 HA.out h9
          have hlt9 := acc_lt (x := x) HA.out
          obtain ⟨acc', hacc'⟩ : ∃ acc', acc' = acc + x % 128 * 128 ^ k := ⟨_, rfl⟩
          rw [← hacc'] at hor h64 hlt9
          have HA' : Hid (acc' = acc + x % 128 * 128 ^ k) := hacc'
          have HLT : Hid (acc' < 128 ^ (k + 1)) := hlt9
          have HBAD : Hid (¬ ((0 < k ∧ x = 0) ∨ (k = 9 ∧ x ≠ 1))) := hbad
          have hk63 : k < 10 := by omega
          clear hacc' hlt9 h9
          have t0 : 0 < k → ((x : Int) == 0) = false := fun h => by rw [beq_eq_false_iff_ne]; omega
          have t1 : k = 9 → ((x : Int) != 1) = false := fun h => by rw [bne_eq_false_iff_eq]; omega
          by_cases hx128 : x < 128
          · have HG : Hid (getI bs = (Lib.unzigzag acc', k + 1, 0)) := getI_ok (HSC.out.trans (by rw [scan_end hkb (by rw [← HX.out]; exact HBAD.out) (by rw [← HX.out]; exact hx128), HA'.out, HX.out]))
            clear hbad
            by_cases hk0 : 0 < k
            · have u0 := t0 hk0
              by_cases hkk : k = 9
              · have u1 := t1 hkk
                have u2 : ((k : Int) == 9) = true := by rw [beq_iff_eq]; omega
                clear t0 t1 hkk
                go_wp2_with (go_at_call 108; refine (unfold_any _ h64 _).mono ?_; rintro e w' ⟨rfl, rfl⟩)
                go_ret3
                exact ⟨ret3 HG.out, rfl⟩
              · have u2 : ((k : Int) == 9) = false := by rw [beq_eq_false_iff_ne]; omega
                clear t0 t1 hkk
                go_wp2_with (go_at_call 108; refine (unfold_any _ h64 _).mono ?_; rintro e w' ⟨rfl, rfl⟩)
                go_ret3
                exact ⟨ret3 HG.out, rfl⟩
            · have u2 : ((k : Int) == 9) = false := by rw [beq_eq_false_iff_ne]; omega
              clear t0 t1
              go_wp2_with (go_at_call 108; refine (unfold_any _ h64 _).mono ?_; rintro e w' ⟨rfl, rfl⟩)
              go_ret3
              exact ⟨ret3 HG.out, rfl⟩
          · have HM : Hid (scan 0 0 bs = scan (k + 1) acc' (bs.drop (k + 1))) := HSC.out.trans (by rw [scan_more hkb (by rw [← HX.out]; exact HBAD.out) (by rw [← HX.out]; exact hx128), HA'.out, HX.out])
            have hk8 : k ≤ 8 := by omega
            have u2 : ((k : Int) == 9) = false := by rw [beq_eq_false_iff_ne]; omega
            clear hbad t1 hk9 hk63
            by_cases hk0 : 0 < k
            · have u0 := t0 hk0
              clear t0
              go_wp2
              go_round
              case rel => exact ⟨k + 1, acc', by omega, by omega, by go_num, rfl, HLT.out, HM.out⟩
              case measure => simp [intOf]; omega
            · clear t0
              go_wp2
              go_round
              case rel => exact ⟨k + 1, acc', by omega, by omega, by go_num, rfl, HLT.out, HM.out⟩
              case measure => simp [intOf]; omega
    · have HG : Hid (getI bs = (0, 0, 3)) := getI_err (HSC.out.trans (scan_none (by rw [← HL.out]; omega))) (by decide)
      go_wp2
      go_ret3
      exact ⟨ret3 HG.out, rfl⟩
end Go.Proofs.YtbdgniiafdjmiaaGreatDoor
/- getBool, getCount, getText: what they answer, of any bytes. -/
namespace Go.Proofs.YtbdgniiafdjmiaaGreatDoor
open Go.RowKit

/-- A truth off bytes. -/
def getB (bs : List UInt8) : Bool × Nat × Nat :=
  match bs with
  | [] => (false, 0, 3)
  | x :: _ => if 1 < x.toNat then (false, 0, 4) else (x.toNat == 1, 1, 0)

/-- A count off bytes. -/
def getC (bs : List UInt8) (most : Int) : Int × Nat × Nat :=
  if (getI bs).2.2 ≠ 0 then (0, 0, (getI bs).2.2) else if (getI bs).1 < 0 then (0, 0, 4) else if max most 0 < (getI bs).1 then (0, 0, 5) else getI bs

/-- A text off bytes. -/
def getT (bs : List UInt8) (most : Int) : List UInt8 × Nat × Nat :=
  if (getC bs most).2.2 ≠ 0 then ([], 0, (getC bs most).2.2) else if ((bs.length : Int) - (getC bs most).2.1) < (getC bs most).1 then ([], 0, 3)
  else ((bs.drop (getC bs most).2.1).take (getC bs most).1.toNat, (getC bs most).2.1 + (getC bs most).1.toNat, 0)

theorem ret3b {a b : Bool × Nat × Nat} (h : a = b) : (Ending.returned (.tuple #[.bool b.1, .int .i64 b.2.1, .int .i64 b.2.2]) : Ending) = Ending.returned (.tuple #[.bool a.1, .int .i64 a.2.1, .int .i64 a.2.2]) := by rw [h]
theorem ret3t {a b : List UInt8 × Nat × Nat} (h : a = b) : (Ending.returned (.tuple #[.string ⟨b.1.toArray⟩, .int .i64 b.2.1, .int .i64 b.2.2]) : Ending) = Ending.returned (.tuple #[.string ⟨a.1.toArray⟩, .int .i64 a.2.1, .int .i64 a.2.2]) := by rw [h]

set_option maxHeartbeats 2000000 in
set_option maxRecDepth 100000 in
theorem getCount_any (base : Option Addr) (bs : List UInt8) (cap : Nat) (most : Int) (w : World) (hr : rowAt w base bs) (hl : bs.length ≤ maxLen) :
    Calls Tryz.prog 109 #[.slice base bs.length cap, .int .i64 most] w fun e w' => e = .returned (.tuple #[.int .i64 (getC bs most).1, .int .i64 (getC bs most).2.1, .int .i64 (getC bs most).2.2]) ∧ w = w' := by
  have HC : Hid (getC bs most = if (getI bs).2.2 ≠ 0 then (0, 0, (getI bs).2.2) else if (getI bs).1 < 0 then (0, 0, 4) else if max most 0 < (getI bs).1 then (0, 0, 5) else getI bs) := rfl
  have hI : Hid (∀ w, rowAt w base bs → Calls Tryz.prog 88 #[.slice base bs.length cap] w fun e w' => e = .returned (.tuple #[.int .i64 (getI bs).1, .int .i64 (getI bs).2.1, .int .i64 (getI bs).2.2]) ∧ w = w') := fun w hr => getInt_any base bs cap w hr hl
  generalize hlen : bs.length = len at *
  clear hlen
  obtain ⟨q, hq⟩ : ∃ q, q = getI bs := ⟨_, rfl⟩
  rw [← hq] at HC hI
  clear hq
  obtain ⟨n, sz, er⟩ := q
  by_cases h0 : er ≠ 0
  · have HG : Hid (getC bs most = (0, 0, er)) := by have h := HC.out; rw [if_pos h0] at h; exact h
    have t0 : ((er : Int) != 0) = true := by rw [bne_iff_ne]; omega
    clear HC h0
    go_enter Tryz.func109, Tryz.ntmps109
    go_wp2_with (go_at_call 88; refine (hI.out _ hr).mono ?_; rintro e w' ⟨rfl, rfl⟩)
    go_ret3
    exact ⟨ret3 HG.out, rfl⟩
  · have e0 : er = 0 := by omega
    subst e0
    by_cases h1 : n < 0
    · have HG : Hid (getC bs most = (0, 0, 4)) := by have h := HC.out; rw [if_neg h0, if_pos h1] at h; exact h
      clear HC h0
      go_enter Tryz.func109, Tryz.ntmps109
      go_wp2_with (go_at_call 88; refine (hI.out _ hr).mono ?_; rintro e w' ⟨rfl, rfl⟩)
      go_ret3
      exact ⟨ret3 HG.out, rfl⟩
    · by_cases h2 : max most 0 < n
      · have HG : Hid (getC bs most = (0, 0, 5)) := by have h := HC.out; rw [if_neg h0, if_neg h1, if_pos h2] at h; exact h
        clear HC h0
        go_enter Tryz.func109, Tryz.ntmps109
        go_wp2_with (go_at_call 88; refine (hI.out _ hr).mono ?_; rintro e w' ⟨rfl, rfl⟩)
        go_ret3
        exact ⟨ret3 HG.out, rfl⟩
      · have HG : Hid (getC bs most = (n, sz, 0)) := by have h := HC.out; rw [if_neg h0, if_neg h1, if_neg h2] at h; exact h
        clear HC h0
        go_enter Tryz.func109, Tryz.ntmps109
        go_wp2_with (go_at_call 88; refine (hI.out _ hr).mono ?_; rintro e w' ⟨rfl, rfl⟩)
        go_ret3
        exact ⟨ret3 HG.out, rfl⟩
end Go.Proofs.YtbdgniiafdjmiaaGreatDoor
/- getText: what it answers, of any bytes. -/
namespace Go.Proofs.YtbdgniiafdjmiaaGreatDoor
open Go.RowKit

theorem scan_len : ∀ (l : List UInt8) (i acc : Nat), (scan i acc l).2.1 ≤ i + l.length
  | [], i, acc => by simp [scan]
  | x :: r, i, acc => by
    unfold scan
    split
    · simp
    · split
      · simp
      · have h := scan_len r (i + 1) (acc + x.toNat % 128 * 128 ^ i)
        simp only [List.length_cons]; omega

theorem getI_len (bs : List UInt8) : (getI bs).2.1 ≤ bs.length := by
  unfold getI
  have h := scan_len bs 0 0
  split
  · simpa using h
  · simp

theorem getC_len (bs : List UInt8) (most : Int) : (getC bs most).2.1 ≤ bs.length := by
  unfold getC
  have h := getI_len bs
  split
  · simp
  · split
    · simp
    · split
      · simp
      · exact h

theorem getC_nonneg (bs : List UInt8) (most : Int) : 0 ≤ (getC bs most).1 := by
  unfold getC
  split
  · simp
  · split
    · simp
    · split
      · simp
      · omega

theorem add_plain (b o j : Nat) : (⟨b, o, none⟩ : Addr).add j = ⟨b, o + j, none⟩ := by
  unfold Addr.add
  split
  · simp_all
  · simp

/-- Where a slice's part begins. -/
def subBase (base : Option Addr) (cap lo : Nat) : Option Addr := if cap = lo then base else base.map (fun a => a.add lo)

theorem rowAt_sub {w : World} {base : Option Addr} {bs : List UInt8} {cap lo : Nat} (m : Nat) (hr : rowAt w base bs) (hc : bs.length ≤ cap) : rowAt w (subBase base cap lo) ((bs.drop lo).take m) := by
  rcases hr with rfl | ⟨b, o, rfl, hcell⟩
  · left; simp
  · unfold subBase
    by_cases h : cap = lo
    · left; rw [List.drop_eq_nil_of_le (by omega)]; simp
    · right
      rw [if_neg h]
      refine ⟨b, o + lo, by simp [add_plain], fun j hj => ?_⟩
      have hj2 : j < (bs.drop lo).length := by rw [List.length_take] at hj; omega
      have hj3 : lo + j < bs.length := by rw [List.length_drop] at hj2; omega
      rw [List.getElem_take, List.getElem_drop, Nat.add_assoc]
      exact hcell (lo + j) hj3

set_option maxRecDepth 100000 in
theorem conv_row (w : World) (base : Option Addr) (bs : List UInt8) (cap : Nat) (hr : rowAt w base bs) :
    (convert 30 9 (.slice base bs.length cap)).run Tryz.prog w = .ok (.string ⟨bs.toArray⟩) w := by
  rw [run_convert_bytes_string w 30 9 5 base bs.length cap Tryz.underlying30 Tryz.underlying5 Tryz.underlying9]
  cases base with
  | none =>
    rcases hr with rfl | ⟨b, o, h, _⟩
    · simp [Conv.bytesToString]; rfl
    · cases h
  | some a =>
    have hl : (loadCells a bs.length).run Tryz.prog w = .ok ((bs.map fun b => (b.toNat : Int)).map (Value.int .u8)).toArray w := by
      have h := run_loadCells_list (P := Tryz.prog) w a (Lib.byteCells bs) (fun j v hj => by
        rcases hr with rfl | ⟨b, o, h, hcell⟩
        · simp [Lib.byteCells] at hj
        · cases h
          have hjl : j < bs.length := by
            rcases Nat.lt_or_ge j bs.length with h | h
            · exact h
            · rw [List.getElem?_eq_none (by rw [Lib.byteCells_length]; exact h)] at hj; cases hj
          rw [add_plain, hcell j hjl]
          unfold Lib.byteCells at hj
          rw [List.getElem?_map, List.getElem?_eq_getElem hjl] at hj
          exact hj)
      rw [Lib.byteCells_length] at h
      rw [h]
      simp [Lib.byteCells]
    rw [run_bytesToString w a bs.length cap _ hl, foldl_push_byteCells]
    simp [ByteArray.empty, ByteArray.emptyWithCapacity]
    rfl

set_option maxRecDepth 100000 in
theorem run_sub (w : World) (base : Option Addr) (len cap lo n : Nat) (h : lo + n ≤ cap) :
    (Instr.slice 30 (.slice base len cap) (some (.int .i64 lo)) (some (.int .i64 (lo + n : Int))) none).run Tryz.prog w = .ok (.slice (subBase base cap lo) n (cap - lo)) w := by
  have h1 := run_slice_lh (P := Tryz.prog) w 30 base len cap Tryz.underlying30 .i64 .i64 (lo : Int) (lo + n : Int) (by omega) (by omega) (by omega)
  have hs : (sizeOf (Tryz.prog.elem 30)).run Tryz.prog w = .ok 1 w := by kernel_rfl
  rw [h1, hs]
  have e : ((lo : Int) + (n : Int)).toNat = lo + n := by omega
  simp [sliced, subBase, e]

set_option maxHeartbeats 2000000 in
set_option maxRecDepth 100000 in
theorem getText_any (base : Option Addr) (bs : List UInt8) (cap : Nat) (most : Int) (w : World) (hr : rowAt w base bs) (hl : bs.length ≤ cap) (hm : cap ≤ maxLen) :
    Calls Tryz.prog 91 #[.slice base bs.length cap, .int .i64 most] w fun e w' => e = .returned (.tuple #[.string ⟨(getT bs most).1.toArray⟩, .int .i64 (getT bs most).2.1, .int .i64 (getT bs most).2.2]) ∧ w = w' := by
  have hm2 := hm
  unfold maxLen at hm2
  have hC : Hid (∀ w, rowAt w base bs → Calls Tryz.prog 109 #[.slice base bs.length cap, .int .i64 most] w fun e w' => e = .returned (.tuple #[.int .i64 (getC bs most).1, .int .i64 (getC bs most).2.1, .int .i64 (getC bs most).2.2]) ∧ w = w') := fun w hr => getCount_any base bs cap most w hr (Nat.le_trans hl hm)
  have HT : Hid (getT bs most = if (getC bs most).2.2 ≠ 0 then ([], 0, (getC bs most).2.2) else if ((bs.length : Int) - (getC bs most).2.1) < (getC bs most).1 then ([], 0, 3)
    else ((bs.drop (getC bs most).2.1).take (getC bs most).1.toNat, (getC bs most).2.1 + (getC bs most).1.toNat, 0)) := rfl
  have hg1 := getC_len bs most
  have hg2 := getC_nonneg bs most
  obtain ⟨q, hq⟩ : ∃ q, q = getC bs most := ⟨_, rfl⟩
  rw [← hq] at HT hC hg1 hg2
  clear hq
  obtain ⟨n0, sz, er⟩ := q
  obtain ⟨n, rfl⟩ := Int.eq_ofNat_of_zero_le hg2
  simp only [Int.toNat_natCast] at HT
  by_cases h0 : er ≠ 0
  · have HG : Hid (getT bs most = ([], 0, er)) := by have h := HT.out; rw [if_pos h0] at h; exact h
    have t0 : ((er : Int) != 0) = true := by rw [bne_iff_ne]; omega
    clear HT h0
    go_enter Tryz.func91, Tryz.ntmps91
    go_wp2_with (go_at_call 109; refine (hC.out _ hr).mono ?_; rintro e w' ⟨rfl, rfl⟩)
    go_ret3
    exact ⟨ret3t HG.out, rfl⟩
  · have e0 : er = 0 := by omega
    subst e0
    by_cases h1 : ((bs.length : Int) - (sz : Int)) < (n : Int)
    · have HG : Hid (getT bs most = ([], 0, 3)) := by have h := HT.out; rw [if_neg h0, if_pos h1] at h; exact h
      clear HT h0
      go_enter Tryz.func91, Tryz.ntmps91
      go_wp2_with (go_at_call 109; refine (hC.out _ hr).mono ?_; rintro e w' ⟨rfl, rfl⟩)
      go_ret3
      exact ⟨ret3t HG.out, rfl⟩
    · have HG : Hid (getT bs most = ((bs.drop sz).take n, sz + n, 0)) := by have h := HT.out; rw [if_neg h0, if_neg h1] at h; exact h
      have hle : sz + n ≤ bs.length := by omega
      have hsl := fun wx => run_sub wx base bs.length cap sz n (by omega)
      have hl2 : ((bs.drop sz).take n).length = n := by rw [List.length_take, List.length_drop]; omega
      have hcv := conv_row w (subBase base cap sz) ((bs.drop sz).take n) (cap - sz) (rowAt_sub n hr hl)
      rw [hl2] at hcv
      clear HT h0 hl2
      generalize subBase base cap sz = base2 at *
      generalize (bs.drop sz).take n = ts at *
      go_enter Tryz.func91, Tryz.ntmps91
      go_wp2_with (go_at_call 109; refine (hC.out _ hr).mono ?_; rintro e w' ⟨rfl, rfl⟩)
      go_ret3
      exact ⟨ret3t HG.out, rfl⟩
end Go.Proofs.YtbdgniiafdjmiaaGreatDoor
/- A reader: what it stands for in memory, and what read does with it. -/
namespace Go.Proofs.YtbdgniiafdjmiaaGreatDoor
open Go.RowKit

/-- In the world w a reader lies in block p: of the bytes bs, it stands at at0, and its error is er. -/
structure ReaderAt (w : World) (p : Nat) (base : Option Addr) (cap : Nat) (bs : List UInt8) (at0 er : Nat) : Prop where
  made : w.cell? ⟨p, 0, none⟩ = some (.bool true)
  b : w.cell? ⟨p, 1, none⟩ = some (.slice base bs.length cap)
  at_ : w.cell? ⟨p, 2, none⟩ = some (.int .i64 at0)
  err : w.cell? ⟨p, 3, none⟩ = some (.int .i64 er)
  f2 : w.frozen? ⟨p, 2, none⟩ = false
  f3 : w.frozen? ⟨p, 3, none⟩ = false
  row : rowAt w base bs
  len : bs.length ≤ cap
  cap : cap ≤ maxLen
  at_le : at0 ≤ bs.length
  apart : ∀ a, base = some a → a.block ≠ p
  er9 : er ≤ 9

set_option maxHeartbeats 1000000 in
set_option maxRecDepth 100000 in
theorem err_any {w : World} {p : Nat} {base : Option Addr} {cap : Nat} {bs : List UInt8} {at0 er : Nat} (h : ReaderAt w p base cap bs at0 er) :
    Calls Tryz.prog 64 #[.pointer (some ⟨p, 0, none⟩)] w fun e w' => e = .returned (.int .i64 er) ∧ w = w' := by
  have h1 := h.made
  have h2 := h.err
  clear h
  go_enter Tryz.func64, Tryz.ntmps64
  go_wp2
  go_ret
  exact ⟨rfl, rfl⟩

set_option maxRecDepth 100000 in
theorem run_from (w : World) (base : Option Addr) (len cap lo : Nat) (h : lo ≤ len) :
    (Instr.slice 30 (.slice base len cap) (some (.int .i64 lo)) none none).run Tryz.prog w = .ok (.slice (subBase base cap lo) (len - lo) (cap - lo)) w := by
  have h1 := run_slice_l (P := Tryz.prog) w 30 base len cap Tryz.underlying30 .i64 (lo : Int) (by omega) (by omega)
  have hs : (sizeOf (Tryz.prog.elem 30)).run Tryz.prog w = .ok 1 w := by kernel_rfl
  rw [h1, hs]
  simp [sliced, subBase]

theorem quiet_mine {P : Program} {f : FuncId} {args : Array Value} {w : World} {n : Nat} {v : Value}
    (h : Calls P f args (w.drewN n) fun e w' => e = .returned v ∧ w.drewN n = w') : Calls P f args (w.drewN n) fun e w'' => e = .returned v ∧ ∃ m, w'' = w.drewN m :=
  h.mono fun _ _ ⟨he, hm⟩ => ⟨he, n, hm.symm⟩

theorem rowAt_drewN {w : World} {base : Option Addr} {bs : List UInt8} (n : Nat) (h : rowAt w base bs) : rowAt (w.drewN n) base bs := h

/-- The row of a slice is as it was, where the blocks are. -/
theorem rowAt_kept {w w' : World} {base : Option Addr} {bs : List UInt8} (h : rowAt w base bs) (hk : ∀ a, base = some a → a.block < w.heap.size → w'.heap[a.block]? = w.heap[a.block]?) : rowAt w' base bs := by
  rcases h with h | ⟨b, o, hb, hc⟩
  · exact .inl h
  · refine .inr ⟨b, o, hb, fun j hj => ?_⟩
    have h1 := hc j hj
    rw [World.cell?_of_block (w := w) (a := ⟨b, o + j, none⟩) (hk ⟨b, o, none⟩ hb (show b < w.heap.size from World.block_lt_of_cell? w ⟨b, o + j, none⟩ h1))]
    exact h1

/-- What was done elsewhere leaves a reader as it was. -/
theorem ReaderAt.kept {w w' : World} {p : Nat} {base : Option Addr} {cap : Nat} {bs : List UInt8} {at0 er : Nat} (h : ReaderAt w p base cap bs at0 er)
    (hk : ∀ k, k < w.heap.size → (k = p ∨ ∃ a, base = some a ∧ a.block = k) → w'.heap[k]? = w.heap[k]?) : ReaderAt w' p base cap bs at0 er := by
  have hp := hk p (World.block_lt_of_cell? w _ h.made) (.inl rfl)
  exact ⟨(World.cell?_of_block (w := w) (a := ⟨p, 0, none⟩) hp).trans h.made, (World.cell?_of_block (w := w) (a := ⟨p, 1, none⟩) hp).trans h.b,
    (World.cell?_of_block (w := w) (a := ⟨p, 2, none⟩) hp).trans h.at_, (World.cell?_of_block (w := w) (a := ⟨p, 3, none⟩) hp).trans h.err,
    (World.frozen?_of_block (w := w) (a := ⟨p, 2, none⟩) hp).trans h.f2, (World.frozen?_of_block (w := w) (a := ⟨p, 3, none⟩) hp).trans h.f3,
    rowAt_kept h.row (fun a ha hl => hk a.block hl (.inr ⟨a, ha, rfl⟩)), h.len, h.cap, h.at_le, h.apart, h.er9⟩

theorem ReaderAt.below {w w' : World} {B p : Nat} {base : Option Addr} {cap : Nat} {bs : List UInt8} {at0 er : Nat} (h : ReaderAt w p base cap bs at0 er) (hb : Below B w w') (hB : w.heap.size ≤ B) : ReaderAt w' p base cap bs at0 er :=
  h.kept fun k hk _ => hb.block k (by omega)

theorem ReaderAt.other {w w' : World} {p q : Nat} {base : Option Addr} {cap : Nat} {bs : List UInt8} {at0 er : Nat} (h : ReaderAt w p base cap bs at0 er) (hg : w.grownBy w' (some q)) (hq : p ≠ q) (ha : ∀ a, base = some a → a.block ≠ q) : ReaderAt w' p base cap bs at0 er :=
  h.kept fun k hk hor => hg.block k hk (fun e => by
    cases e
    rcases hor with h1 | ⟨a, h1, h2⟩
    · exact hq h1.symm
    · exact ha a h1 h2)

theorem setAt_grown {w : World} {p j n : Nat} {v : Value} : w.grownBy ((w.drewN n).setCell ⟨p, j, none⟩ v) (some p) :=
  ⟨rfl, rfl, rfl, by simp [World.setCell], fun k _ hk => by
    rw [Below.heap_setCell _ _ _ _ (fun e => hk (by rw [e]))]; rfl⟩

theorem ReaderAt.setErr {w : World} {p : Nat} {base : Option Addr} {cap : Nat} {bs : List UInt8} {at0 : Nat} (h : ReaderAt w p base cap bs at0 0) (n e : Nat) (he : e ≤ 9) : ReaderAt ((w.drewN n).setCell ⟨p, 3, none⟩ (.int .i64 e)) p base cap bs at0 e := by
  have ho : ∀ j, j ≠ 3 → ((w.drewN n).setCell ⟨p, 3, none⟩ (.int .i64 e)).cell? ⟨p, j, none⟩ = w.cell? ⟨p, j, none⟩ := fun j hj => by
    rw [World.cell?_setCell_other (a := ⟨p, 3, none⟩) (b := ⟨p, j, none⟩) (h := by intro h; cases h; exact hj rfl)]; rfl
  exact ⟨(ho 0 (by decide)).trans h.made, (ho 1 (by decide)).trans h.b, (ho 2 (by decide)).trans h.at_, World.cell?_setCell_same (w.drewN n) ⟨p, 3, none⟩ _ h.err,
    by rw [World.frozen?_setCell]; exact h.f2, by rw [World.frozen?_setCell]; exact h.f3,
    rowAt_kept h.row (fun a ha _ => by rw [Below.heap_setCell _ _ _ _ (h.apart a ha)]; rfl), h.len, h.cap, h.at_le, h.apart, he⟩

theorem ReaderAt.setAt {w : World} {p : Nat} {base : Option Addr} {cap : Nat} {bs : List UInt8} {at0 : Nat} (h : ReaderAt w p base cap bs at0 0) (n k : Nat) (hk : k ≤ bs.length) : ReaderAt ((w.drewN n).setCell ⟨p, 2, none⟩ (.int .i64 k)) p base cap bs k 0 := by
  have ho : ∀ j, j ≠ 2 → ((w.drewN n).setCell ⟨p, 2, none⟩ (.int .i64 k)).cell? ⟨p, j, none⟩ = w.cell? ⟨p, j, none⟩ := fun j hj => by
    rw [World.cell?_setCell_other (a := ⟨p, 2, none⟩) (b := ⟨p, j, none⟩) (h := by intro h; cases h; exact hj rfl)]; rfl
  exact ⟨(ho 0 (by decide)).trans h.made, (ho 1 (by decide)).trans h.b, World.cell?_setCell_same (w.drewN n) ⟨p, 2, none⟩ _ h.at_, (ho 3 (by decide)).trans h.err,
    by rw [World.frozen?_setCell]; exact h.f2, by rw [World.frozen?_setCell]; exact h.f3,
    rowAt_kept h.row (fun a ha _ => by rw [Below.heap_setCell _ _ _ _ (h.apart a ha)]; rfl), h.len, h.cap, hk, h.apart, Nat.zero_le _⟩

/-- What a call of a reader comes to: the answer, where it stands, what went wrong. -/
def stepR {α : Type} (zero : α) (at0 er : Nat) (g : α × Nat × Nat) : α × Nat × Nat :=
  if er ≠ 0 then (zero, at0, er) else if g.2.2 ≠ 0 then (zero, at0, g.2.2) else (g.1, at0 + g.2.1, 0)

theorem grownBy_refl (w : World) (r : Option Nat) : w.grownBy w r := ⟨rfl, rfl, rfl, Nat.le_refl _, fun _ _ _ => rfl⟩
theorem ret_of {v v' : Value} (h : v = v') : Ending.returned v = .returned v' := by rw [h]

set_option maxHeartbeats 2000000 in
set_option maxRecDepth 100000 in
theorem readInt_any {w : World} {p : Nat} {base : Option Addr} {cap : Nat} {bs : List UInt8} {at0 er : Nat} (h : ReaderAt w p base cap bs at0 er) (g : Int × Nat × Nat) (hg : g.2.1 ≤ bs.length - at0) (hg9 : g.2.2 ≤ 9)
    (hget : Hid (∀ n, Calls Tryz.prog 88 #[.slice (subBase base cap at0) (bs.length - at0) (cap - at0)] (w.drewN n) fun e w' => e = .returned (.tuple #[.int .i64 g.1, .int .i64 g.2.1, .int .i64 g.2.2]) ∧ w.drewN n = w')) :
    Calls Tryz.prog 87 #[.pointer (some ⟨p, 0, none⟩), .func (.func 88) #[] #[]] w fun e w' =>
      e = .returned (.int .i64 (stepR 0 at0 er g).1) ∧ ReaderAt w' p base cap bs (stepR 0 at0 er g).2.1 (stepR 0 at0 er g).2.2 ∧ w.grownBy w' (some p) := by
  have hE : Hid (ReaderAt w p base cap bs at0 er) := h
  have hsl := fun wx => run_from wx base bs.length cap at0 h.at_le
  have h1 := h.b
  have h2 := h.at_
  have h3 := h.err
  have h4 := h.f2
  have h5 := h.f3
  have hle := h.at_le
  have hc := h.len
  have hm := h.cap
  unfold maxLen at hm
  clear h
  generalize subBase base cap at0 = base2 at *
  obtain ⟨v, sz, e0⟩ := g
  simp only at hget hg hg9
  by_cases her : er ≠ 0
  · have HS : Hid (stepR 0 at0 er (v, sz, e0) = (0, at0, er)) := if_pos her
    have t0 : ((er : Int) != 0) = true := by rw [bne_iff_ne]; omega
    clear her
    go_enter Tryz.func87, Tryz.ntmps87
    go_wp2_with (go_at_call 64; refine (err_any hE.out).mono ?_; rintro e w' ⟨rfl, rfl⟩)
    go_ret
    rw [HS.out]
    exact ⟨rfl, hE.out, grownBy_refl _ _⟩
  · have e9 : er = 0 := by omega
    subst e9
    by_cases he0 : e0 ≠ 0
    · have HS : Hid (stepR 0 at0 0 (v, sz, e0) = (0, at0, e0)) := (if_neg her).trans (if_pos he0)
      have t0 : ((e0 : Int) != 0) = true := by rw [bne_iff_ne]; omega
      clear her he0
      go_enter Tryz.func87, Tryz.ntmps87
      go_wp2_with (go_at_call 64; refine (err_any hE.out).mono ?_; rintro e w' ⟨rfl, rfl⟩)
      go_quiet ((go_at_call 88; exact quiet_mine (hget.out _)))
      go_wp2
      go_ret
      rw [HS.out]
      exact ⟨rfl, hE.out.setErr _ _ hg9, setAt_grown⟩
    · have e8 : e0 = 0 := by omega
      subst e8
      have HS : Hid (stepR 0 at0 0 (v, sz, 0) = (v, at0 + sz, 0)) := (if_neg her).trans (if_neg he0)
      clear her he0
      go_enter Tryz.func87, Tryz.ntmps87
      go_wp2_with (go_at_call 64; refine (err_any hE.out).mono ?_; rintro e w' ⟨rfl, rfl⟩)
      go_quiet ((go_at_call 88; exact quiet_mine (hget.out _)))
      go_wp2
      go_ret
      rw [HS.out]
      exact ⟨rfl, hE.out.setAt _ _ (by omega), setAt_grown⟩

theorem bytesAt_row {w : World} {base : Option Addr} {cap len : Nat} {bs : List UInt8} (h : bytesAt w (.slice base len cap) bs) : len = bs.length ∧ rowAt w base bs ∧ bs.length ≤ cap ∧ cap ≤ maxLen := by
  obtain ⟨base', cap', hv, hn, h1, h2, hc⟩ := h
  cases hv
  refine ⟨rfl, ?_, h1, h2⟩
  by_cases h0 : bs = []
  · exact .inl h0
  · cases base with
    | none => exact absurd (hn rfl).1 h0
    | some a =>
      have hpos : 0 < bs.length := by
        rcases Nat.eq_zero_or_pos bs.length with h | h
        · exact absurd (List.length_eq_zero_iff.1 h) h0
        · exact h
      have hat : ∀ j (hj : j < bs.length), w.cell? (a.add j) = some (.int .u8 (bs[j].toNat : Int)) := fun j hj =>
        hc a rfl j _ (by unfold Lib.byteCells; rw [List.getElem?_map, List.getElem?_eq_getElem hj]; rfl)
      obtain ⟨b, o, spot⟩ := a
      have hspot : spot = none := by simpa [Addr.add] using World.cell?_spot (hat 0 hpos)
      subst hspot
      exact .inr ⟨b, o, rfl, fun j hj => by rw [← add_plain]; exact hat j hj⟩

theorem rowAt_below {w w' : World} {base : Option Addr} {bs : List UInt8} {B : Nat} (h : rowAt w base bs) (hb : Below B w w') (hB : w.heap.size ≤ B) : rowAt w' base bs :=
  rowAt_kept h (fun a _ hl => hb.block a.block (by omega))

theorem rowAt_take {w : World} {base : Option Addr} {bs : List UInt8} (c : Nat) (h : rowAt w base bs) : rowAt w base (bs.take c) := by
  rcases h with rfl | ⟨b, o, hb, hc⟩
  · left; simp
  · exact .inr ⟨b, o, hb, fun j hj => by
      have hj2 : j < bs.length := by rw [List.length_take] at hj; omega
      rw [List.getElem_take]; exact hc j hj2⟩

end Go.Proofs.YtbdgniiafdjmiaaGreatDoor
/- What read does at a truth, a count and a text. -/
namespace Go.Proofs.YtbdgniiafdjmiaaGreatDoor
open Go.RowKit

set_option maxHeartbeats 2000000 in
set_option maxRecDepth 100000 in
theorem readCount_any {w : World} {p : Nat} {base : Option Addr} {cap : Nat} {bs : List UInt8} {at0 er : Nat} (h : ReaderAt w p base cap bs at0 er) (g : Int × Nat × Nat) (hg : g.2.1 ≤ bs.length - at0) (hg9 : g.2.2 ≤ 9) (mb : Nat)
    (hget : Hid (∀ n, Calls Tryz.prog 110 #[.slice (subBase base cap at0) (bs.length - at0) (cap - at0), .pointer (some ⟨mb, 0, none⟩)] (w.drewN n) fun e w' => e = .returned (.tuple #[.int .i64 g.1, .int .i64 g.2.1, .int .i64 g.2.2]) ∧ w.drewN n = w')) :
    Calls Tryz.prog 87 #[.pointer (some ⟨p, 0, none⟩), .func (.func 110) #[] #[.pointer (some ⟨mb, 0, none⟩)]] w fun e w' =>
      e = .returned (.int .i64 (stepR 0 at0 er g).1) ∧ ReaderAt w' p base cap bs (stepR 0 at0 er g).2.1 (stepR 0 at0 er g).2.2 ∧ w.grownBy w' (some p) := by
  have hE : Hid (ReaderAt w p base cap bs at0 er) := h
  have hsl := fun wx => run_from wx base bs.length cap at0 h.at_le
  have h1 := h.b
  have h2 := h.at_
  have h3 := h.err
  have h4 := h.f2
  have h5 := h.f3
  have hle := h.at_le
  have hc := h.len
  have hm := h.cap
  unfold maxLen at hm
  clear h
  generalize subBase base cap at0 = base2 at *
  obtain ⟨v, sz, e0⟩ := g
  simp only at hget hg hg9
  by_cases her : er ≠ 0
  · have HS : Hid (stepR 0 at0 er (v, sz, e0) = (0, at0, er)) := if_pos her
    have t0 : ((er : Int) != 0) = true := by rw [bne_iff_ne]; omega
    clear her
    go_enter Tryz.func87, Tryz.ntmps87
    go_wp2_with (go_at_call 64; refine (err_any hE.out).mono ?_; rintro e w' ⟨rfl, rfl⟩)
    go_ret
    rw [HS.out]
    exact ⟨rfl, hE.out, grownBy_refl _ _⟩
  · have e9 : er = 0 := by omega
    subst e9
    by_cases he0 : e0 ≠ 0
    · have HS : Hid (stepR 0 at0 0 (v, sz, e0) = (0, at0, e0)) := (if_neg her).trans (if_pos he0)
      have t0 : ((e0 : Int) != 0) = true := by rw [bne_iff_ne]; omega
      clear her he0
      go_enter Tryz.func87, Tryz.ntmps87
      go_wp2_with (go_at_call 64; refine (err_any hE.out).mono ?_; rintro e w' ⟨rfl, rfl⟩)
      go_quiet ((go_at_call 110; exact quiet_mine (hget.out _)))
      go_wp2
      go_ret
      rw [HS.out]
      exact ⟨rfl, hE.out.setErr _ _ hg9, setAt_grown⟩
    · have e8 : e0 = 0 := by omega
      subst e8
      have HS : Hid (stepR 0 at0 0 (v, sz, 0) = (v, at0 + sz, 0)) := (if_neg her).trans (if_neg he0)
      clear her he0
      go_enter Tryz.func87, Tryz.ntmps87
      go_wp2_with (go_at_call 64; refine (err_any hE.out).mono ?_; rintro e w' ⟨rfl, rfl⟩)
      go_quiet ((go_at_call 110; exact quiet_mine (hget.out _)))
      go_wp2
      go_ret
      rw [HS.out]
      exact ⟨rfl, hE.out.setAt _ _ (by omega), setAt_grown⟩

set_option maxHeartbeats 2000000 in
set_option maxRecDepth 100000 in
theorem readText_any {w : World} {p : Nat} {base : Option Addr} {cap : Nat} {bs : List UInt8} {at0 er : Nat} (h : ReaderAt w p base cap bs at0 er) (g : List UInt8 × Nat × Nat) (hg : g.2.1 ≤ bs.length - at0) (hg9 : g.2.2 ≤ 9) (mb : Nat)
    (hget : Hid (∀ n, Calls Tryz.prog 90 #[.slice (subBase base cap at0) (bs.length - at0) (cap - at0), .pointer (some ⟨mb, 0, none⟩)] (w.drewN n) fun e w' => e = .returned (.tuple #[.string ⟨g.1.toArray⟩, .int .i64 g.2.1, .int .i64 g.2.2]) ∧ w.drewN n = w')) :
    Calls Tryz.prog 89 #[.pointer (some ⟨p, 0, none⟩), .func (.func 90) #[] #[.pointer (some ⟨mb, 0, none⟩)]] w fun e w' =>
      e = .returned (.string ⟨(stepR [] at0 er g).1.toArray⟩) ∧ ReaderAt w' p base cap bs (stepR [] at0 er g).2.1 (stepR [] at0 er g).2.2 ∧ w.grownBy w' (some p) := by
  have hE : Hid (ReaderAt w p base cap bs at0 er) := h
  have hsl := fun wx => run_from wx base bs.length cap at0 h.at_le
  have h1 := h.b
  have h2 := h.at_
  have h3 := h.err
  have h4 := h.f2
  have h5 := h.f3
  have hle := h.at_le
  have hc := h.len
  have hm := h.cap
  unfold maxLen at hm
  clear h
  generalize subBase base cap at0 = base2 at *
  obtain ⟨v, sz, e0⟩ := g
  simp only at hget hg hg9
  by_cases her : er ≠ 0
  · have HS : Hid (stepR [] at0 er (v, sz, e0) = ([], at0, er)) := if_pos her
    have t0 : ((er : Int) != 0) = true := by rw [bne_iff_ne]; omega
    clear her
    go_enter Tryz.func89, Tryz.ntmps89
    go_wp2_with (go_at_call 64; refine (err_any hE.out).mono ?_; rintro e w' ⟨rfl, rfl⟩)
    go_ret
    rw [HS.out]
    exact ⟨rfl, hE.out, grownBy_refl _ _⟩
  · have e9 : er = 0 := by omega
    subst e9
    by_cases he0 : e0 ≠ 0
    · have HS : Hid (stepR [] at0 0 (v, sz, e0) = ([], at0, e0)) := (if_neg her).trans (if_pos he0)
      have t0 : ((e0 : Int) != 0) = true := by rw [bne_iff_ne]; omega
      clear her he0
      go_enter Tryz.func89, Tryz.ntmps89
      go_wp2_with (go_at_call 64; refine (err_any hE.out).mono ?_; rintro e w' ⟨rfl, rfl⟩)
      go_quiet ((go_at_call 90; exact quiet_mine (hget.out _)))
      go_wp2
      go_ret
      rw [HS.out]
      exact ⟨rfl, hE.out.setErr _ _ hg9, setAt_grown⟩
    · have e8 : e0 = 0 := by omega
      subst e8
      have HS : Hid (stepR [] at0 0 (v, sz, 0) = (v, at0 + sz, 0)) := (if_neg her).trans (if_neg he0)
      clear her he0
      go_enter Tryz.func89, Tryz.ntmps89
      go_wp2_with (go_at_call 64; refine (err_any hE.out).mono ?_; rintro e w' ⟨rfl, rfl⟩)
      go_quiet ((go_at_call 90; exact quiet_mine (hget.out _)))
      go_wp2
      go_ret
      rw [HS.out]
      exact ⟨rfl, hE.out.setAt _ _ (by omega), setAt_grown⟩
end Go.Proofs.YtbdgniiafdjmiaaGreatDoor
/- A reader's calls: NewReader, Int, Bool, Count, Text, At, Err, End. -/
namespace Go.Proofs.YtbdgniiafdjmiaaGreatDoor
open Go.RowKit

theorem rowAt_drop {w : World} {base : Option Addr} {bs : List UInt8} {cap lo : Nat} (hr : rowAt w base bs) (hc : bs.length ≤ cap) : rowAt w (subBase base cap lo) (bs.drop lo) := by
  have h := rowAt_sub (lo := lo) bs.length hr hc
  rw [List.take_of_length_le (by rw [List.length_drop]; omega)] at h
  exact h

theorem scan_err : ∀ (l : List UInt8) (i acc : Nat), (scan i acc l).2.2 ≤ 9
  | [], i, acc => by simp [scan]
  | x :: r, i, acc => by
    unfold scan
    split
    · simp
    · split
      · simp
      · exact scan_err r _ _

theorem getI_e (bs : List UInt8) : (getI bs).2.2 ≤ 9 := by
  unfold getI
  have h := scan_err bs 0 0
  split
  · simp
  · exact h
theorem getB_e (bs : List UInt8) : (getB bs).2.2 ≤ 9 := by
  unfold getB
  split
  · simp
  · split <;> simp
theorem getB_len (bs : List UInt8) : (getB bs).2.1 ≤ bs.length := by
  unfold getB
  split
  · simp
  · split <;> simp
theorem getC_e (bs : List UInt8) (m : Int) : (getC bs m).2.2 ≤ 9 := by
  unfold getC
  have h := getI_e bs
  split
  · exact h
  · split
    · simp
    · split
      · simp
      · exact h
theorem getT_e (bs : List UInt8) (m : Int) : (getT bs m).2.2 ≤ 9 := by
  unfold getT
  have h := getC_e bs m
  split
  · exact h
  · split
    · simp
    · simp
theorem getT_len (bs : List UInt8) (m : Int) : (getT bs m).2.1 ≤ bs.length := by
  unfold getT
  have h := getC_len bs m
  have h2 := getC_nonneg bs m
  split
  · simp
  · split
    · simp
    · simp only; omega

set_option maxHeartbeats 1000000 in
set_option maxRecDepth 100000 in
theorem int_any {w : World} {p : Nat} {base : Option Addr} {cap : Nat} {bs : List UInt8} {at0 er : Nat} (h : ReaderAt w p base cap bs at0 er) :
    Calls Tryz.prog 56 #[.pointer (some ⟨p, 0, none⟩)] w fun e w' =>
      e = .returned (.int .i64 (stepR 0 at0 er (getI (bs.drop at0))).1) ∧ ReaderAt w' p base cap bs (stepR 0 at0 er (getI (bs.drop at0))).2.1 (stepR 0 at0 er (getI (bs.drop at0))).2.2 ∧ w.grownBy w' (some p) := by
  have hl : (bs.drop at0).length = bs.length - at0 := List.length_drop
  have hget : Hid (∀ n, Calls Tryz.prog 88 #[.slice (subBase base cap at0) (bs.length - at0) (cap - at0)] (w.drewN n) fun e w' => e = .returned (.tuple #[.int .i64 (getI (bs.drop at0)).1, .int .i64 (getI (bs.drop at0)).2.1, .int .i64 (getI (bs.drop at0)).2.2]) ∧ w.drewN n = w') := fun n => by
    have hc := getInt_any (subBase base cap at0) (bs.drop at0) (cap - at0) (w.drewN n) (rowAt_drewN n (rowAt_drop h.row h.len)) (by rw [hl]; have := h.len; have := h.cap; omega)
    rw [hl] at hc
    exact hc
  have H := readInt_any h (getI (bs.drop at0)) (by rw [← hl]; exact getI_len _) (getI_e _) hget
  have HH : Hid (Calls Tryz.prog 87 #[.pointer (some ⟨p, 0, none⟩), .func (.func 88) #[] #[]] w fun e w' =>
      e = .returned (.int .i64 (stepR 0 at0 er (getI (bs.drop at0))).1) ∧ ReaderAt w' p base cap bs (stepR 0 at0 er (getI (bs.drop at0))).2.1 (stepR 0 at0 er (getI (bs.drop at0))).2.2 ∧ w.grownBy w' (some p)) := H
  clear H hget hl h
  generalize stepR 0 at0 er (getI (bs.drop at0)) = q at *
  go_enter Tryz.func56, Tryz.ntmps56
  go_wp2_with fail
  refine HH.out.mono ?_
  rintro e w1 ⟨rfl, hr1, hg1⟩
  have HR : Hid (ReaderAt w1 p base cap bs q.2.1 q.2.2 ∧ w.grownBy w1 (some p)) := ⟨hr1, hg1⟩
  clear hr1 hg1
  go_wp2
  go_ret
  exact ⟨rfl, HR.out⟩

set_option maxHeartbeats 1000000 in
set_option maxRecDepth 100000 in
theorem count1_any (base : Option Addr) (bs : List UInt8) (cap mb : Nat) (most : Int) (w : World) (hr : rowAt w base bs) (hl : bs.length ≤ maxLen) (hm : w.cell? ⟨mb, 0, none⟩ = some (.int .i64 most)) :
    Calls Tryz.prog 110 #[.slice base bs.length cap, .pointer (some ⟨mb, 0, none⟩)] w fun e w' => e = .returned (.tuple #[.int .i64 (getC bs most).1, .int .i64 (getC bs most).2.1, .int .i64 (getC bs most).2.2]) ∧ w = w' := by
  have HC : Hid (Calls Tryz.prog 109 #[.slice base bs.length cap, .int .i64 most] w fun e w' => e = .returned (.tuple #[.int .i64 (getC bs most).1, .int .i64 (getC bs most).2.1, .int .i64 (getC bs most).2.2]) ∧ w = w') := getCount_any base bs cap most w hr hl
  clear hr hl
  generalize getC bs most = q at *
  go_enter Tryz.func110, Tryz.ntmps110
  go_wp2_with (go_at_call 109; refine (HC.out).mono ?_; rintro e w' ⟨rfl, rfl⟩)
  go_ret3
  exact ⟨rfl, rfl⟩

set_option maxHeartbeats 1000000 in
set_option maxRecDepth 100000 in
theorem text1_any (base : Option Addr) (bs : List UInt8) (cap mb : Nat) (most : Int) (w : World) (hr : rowAt w base bs) (hl : bs.length ≤ cap) (hcm : cap ≤ maxLen) (hm : w.cell? ⟨mb, 0, none⟩ = some (.int .i64 most)) :
    Calls Tryz.prog 90 #[.slice base bs.length cap, .pointer (some ⟨mb, 0, none⟩)] w fun e w' => e = .returned (.tuple #[.string ⟨(getT bs most).1.toArray⟩, .int .i64 (getT bs most).2.1, .int .i64 (getT bs most).2.2]) ∧ w = w' := by
  have HC : Hid (Calls Tryz.prog 91 #[.slice base bs.length cap, .int .i64 most] w fun e w' => e = .returned (.tuple #[.string ⟨(getT bs most).1.toArray⟩, .int .i64 (getT bs most).2.1, .int .i64 (getT bs most).2.2]) ∧ w = w') := getText_any base bs cap most w hr hl hcm
  clear hr hl hcm
  generalize getT bs most = q at *
  go_enter Tryz.func90, Tryz.ntmps90
  go_wp2_with (go_at_call 91; refine (HC.out).mono ?_; rintro e w' ⟨rfl, rfl⟩)
  go_ret3
  exact ⟨rfl, rfl⟩

set_option maxRecDepth 100000 in
theorem run_mf (fn : Fn) (first cap : Array Value) (w : World) : (Instr.makeFunc fn first cap).run Tryz.prog w = .ok (.func fn first cap) w := rfl

theorem grown_alloc {w w' : World} {o : Obj} {p : Nat} (hg : (w.alloc o).grownBy w' (some p)) : w.grownBy w' (some p) :=
  ⟨hg.os, hg.tape, hg.output, by have := hg.size; simp at this; omega, fun k hk hne => (hg.block k (by simp; omega) hne).trans (Below.heap_alloc _ _ _ hk)⟩

set_option maxHeartbeats 1000000 in
set_option maxRecDepth 100000 in
theorem count_any {w : World} {p : Nat} {base : Option Addr} {cap : Nat} {bs : List UInt8} {at0 er : Nat} (most : Int) (h : ReaderAt w p base cap bs at0 er) :
    Calls Tryz.prog 92 #[.pointer (some ⟨p, 0, none⟩), .int .i64 most] w fun e w' =>
      e = .returned (.int .i64 (stepR 0 at0 er (getC (bs.drop at0) most)).1) ∧ ReaderAt w' p base cap bs (stepR 0 at0 er (getC (bs.drop at0) most)).2.1 (stepR 0 at0 er (getC (bs.drop at0) most)).2.2 ∧ w.grownBy w' (some p) := by
  have hl : (bs.drop at0).length = bs.length - at0 := List.length_drop
  have h2 : ReaderAt (w.alloc (.cells #[.int .i64 most] 3)) p base cap bs at0 er := h.below ((Below.refl w.heap.size w).alloc (Nat.le_refl _) _) (Nat.le_refl _)
  have hget : Hid (∀ n, Calls Tryz.prog 110 #[.slice (subBase base cap at0) (bs.length - at0) (cap - at0), .pointer (some ⟨w.heap.size, 0, none⟩)] ((w.alloc (.cells #[.int .i64 most] 3)).drewN n) fun e w' => e = .returned (.tuple #[.int .i64 (getC (bs.drop at0) most).1, .int .i64 (getC (bs.drop at0) most).2.1, .int .i64 (getC (bs.drop at0) most).2.2]) ∧ (w.alloc (.cells #[.int .i64 most] 3)).drewN n = w') := fun n => by
    have hc := count1_any (subBase base cap at0) (bs.drop at0) (cap - at0) w.heap.size most ((w.alloc (.cells #[.int .i64 most] 3)).drewN n) (rowAt_drewN n (rowAt_drop h2.row h.len)) (by rw [hl]; have := h.len; have := h.cap; omega) (by simp)
    rw [hl] at hc
    exact hc
  have H := readCount_any h2 (getC (bs.drop at0) most) (by rw [← hl]; exact getC_len _ _) (getC_e _ _) w.heap.size hget
  have hmf := run_mf
  clear hget hl h h2
  have HH := H
  generalize stepR 0 at0 er (getC (bs.drop at0) most) = q at *
  clear H
  have HK : Hid (Calls Tryz.prog 87 #[.pointer (some ⟨p, 0, none⟩), .func (.func 110) #[] #[.pointer (some ⟨w.heap.size, 0, none⟩)]] (w.alloc (.cells #[.int .i64 most] 3)) fun e w' =>
      e = .returned (.int .i64 q.1) ∧ ReaderAt w' p base cap bs q.2.1 q.2.2 ∧ (w.alloc (.cells #[.int .i64 most] 3)).grownBy w' (some p)) := HH
  clear HH
  go_enter Tryz.func92, Tryz.ntmps92
  go_wp2_with fail
  refine HK.out.mono ?_
  rintro e w1 ⟨rfl, hr1, hg1⟩
  have HR : Hid (ReaderAt w1 p base cap bs q.2.1 q.2.2 ∧ w.grownBy w1 (some p)) := ⟨hr1, grown_alloc hg1⟩
  clear hr1 hg1
  go_wp2
  go_ret
  exact ⟨rfl, HR.out⟩

set_option maxHeartbeats 1000000 in
set_option maxRecDepth 100000 in
theorem text_any {w : World} {p : Nat} {base : Option Addr} {cap : Nat} {bs : List UInt8} {at0 er : Nat} (most : Int) (h : ReaderAt w p base cap bs at0 er) :
    Calls Tryz.prog 59 #[.pointer (some ⟨p, 0, none⟩), .int .i64 most] w fun e w' =>
      e = .returned (.string ⟨(stepR [] at0 er (getT (bs.drop at0) most)).1.toArray⟩) ∧ ReaderAt w' p base cap bs (stepR [] at0 er (getT (bs.drop at0) most)).2.1 (stepR [] at0 er (getT (bs.drop at0) most)).2.2 ∧ w.grownBy w' (some p) := by
  have hl : (bs.drop at0).length = bs.length - at0 := List.length_drop
  have h2 : ReaderAt (w.alloc (.cells #[.int .i64 most] 3)) p base cap bs at0 er := h.below ((Below.refl w.heap.size w).alloc (Nat.le_refl _) _) (Nat.le_refl _)
  have hget : Hid (∀ n, Calls Tryz.prog 90 #[.slice (subBase base cap at0) (bs.length - at0) (cap - at0), .pointer (some ⟨w.heap.size, 0, none⟩)] ((w.alloc (.cells #[.int .i64 most] 3)).drewN n) fun e w' => e = .returned (.tuple #[.string ⟨(getT (bs.drop at0) most).1.toArray⟩, .int .i64 (getT (bs.drop at0) most).2.1, .int .i64 (getT (bs.drop at0) most).2.2]) ∧ (w.alloc (.cells #[.int .i64 most] 3)).drewN n = w') := fun n => by
    have hc := text1_any (subBase base cap at0) (bs.drop at0) (cap - at0) w.heap.size most ((w.alloc (.cells #[.int .i64 most] 3)).drewN n) (rowAt_drewN n (rowAt_drop h2.row h.len)) (by rw [hl]; have := h.len; omega) (by have := h.cap; omega) (by simp)
    rw [hl] at hc
    exact hc
  have H := readText_any h2 (getT (bs.drop at0) most) (by rw [← hl]; exact getT_len _ _) (getT_e _ _) w.heap.size hget
  have hmf := run_mf
  clear hget hl h h2
  have HH := H
  generalize stepR [] at0 er (getT (bs.drop at0) most) = q at *
  clear H
  have HK : Hid (Calls Tryz.prog 89 #[.pointer (some ⟨p, 0, none⟩), .func (.func 90) #[] #[.pointer (some ⟨w.heap.size, 0, none⟩)]] (w.alloc (.cells #[.int .i64 most] 3)) fun e w' =>
      e = .returned (.string ⟨q.1.toArray⟩) ∧ ReaderAt w' p base cap bs q.2.1 q.2.2 ∧ (w.alloc (.cells #[.int .i64 most] 3)).grownBy w' (some p)) := HH
  clear HH
  go_enter Tryz.func59, Tryz.ntmps59
  go_wp2_with fail
  refine HK.out.mono ?_
  rintro e w1 ⟨rfl, hr1, hg1⟩
  have HR : Hid (ReaderAt w1 p base cap bs q.2.1 q.2.2 ∧ w.grownBy w1 (some p)) := ⟨hr1, grown_alloc hg1⟩
  clear hr1 hg1
  go_wp2
  go_ret
  exact ⟨rfl, HR.out⟩

/-- What End tells. -/
def endR (len at0 er : Nat) : Nat := if er ≠ 0 then er else if at0 < len then 5 else 0

theorem drewN_zero (w : World) : w = w.drewN 0 := rfl

set_option maxHeartbeats 1000000 in
set_option maxRecDepth 100000 in
theorem end_any {w : World} {p : Nat} {base : Option Addr} {cap : Nat} {bs : List UInt8} {at0 er : Nat} (h : ReaderAt w p base cap bs at0 er) :
    Calls Tryz.prog 31 #[.pointer (some ⟨p, 0, none⟩)] w fun e w' => e = .returned (.int .i64 (endR bs.length at0 er)) ∧ ∃ n, w' = w.drewN n := by
  have hE : Hid (ReaderAt w p base cap bs at0 er) := h
  have h1 := h.b
  have h2 := h.at_
  clear h
  by_cases her : er ≠ 0
  · have HS : Hid (endR bs.length at0 er = er) := if_pos her
    have t0 : ((er : Int) != 0) = true := by rw [bne_iff_ne]; omega
    clear her
    go_enter Tryz.func31, Tryz.ntmps31
    go_wp2_with (go_at_call 64; refine (err_any hE.out).mono ?_; rintro e w' ⟨rfl, rfl⟩)
    go_ret
    rw [HS.out]
    exact ⟨rfl, 0, rfl⟩
  · have e9 : er = 0 := by omega
    subst e9
    by_cases hlt : at0 < bs.length
    · have HS : Hid (endR bs.length at0 0 = 5) := (if_neg her).trans (if_pos hlt)
      clear her
      go_enter Tryz.func31, Tryz.ntmps31
      go_wp2_with (go_at_call 64; refine (err_any hE.out).mono ?_; rintro e w' ⟨rfl, rfl⟩)
      go_quiet (fail)
      go_wp2
      go_ret
      rw [HS.out]
      exact ⟨rfl, _, rfl⟩
    · have HS : Hid (endR bs.length at0 0 = 0) := (if_neg her).trans (if_neg hlt)
      clear her
      go_enter Tryz.func31, Tryz.ntmps31
      go_wp2_with (go_at_call 64; refine (err_any hE.out).mono ?_; rintro e w' ⟨rfl, rfl⟩)
      go_quiet (fail)
      go_wp2
      go_ret
      rw [HS.out]
      exact ⟨rfl, _, rfl⟩

theorem own_row {w : World} {B e n : Nat} {v : Value} {bs : List UInt8} (h : w.ownsRow B e 1 v n (Lib.byteCells bs)) :
    ∃ base cap, v = .slice base bs.length cap ∧ rowAt w base bs ∧ bs.length ≤ cap ∧ cap ≤ maxLen ∧ (∀ a, base = some a → B ≤ a.block ∧ a.block < w.heap.size) := by
  have hl := h.1
  rw [Lib.byteCells_length, Nat.mul_one] at hl
  have hlt := h.lt
  obtain ⟨h1, h2⟩ := h
  rcases h2 with ⟨rfl, rfl⟩ | ⟨g, cap, cur, rfl, hg, hh, hnc, hm, hs, ht⟩
  · obtain rfl : bs = [] := List.length_eq_zero_iff.1 hl
    exact ⟨none, 0, rfl, .inl rfl, Nat.le_refl _, Nat.zero_le _, fun a ha => by cases ha⟩
  · refine ⟨some ⟨g, 0, none⟩, cap, by rw [hl], ?_, by omega, hm, fun a ha => by cases ha; exact hlt g rfl⟩
    have h' : w.ownsRow B e 1 (.slice (some ⟨g, 0, none⟩) n cap) n (Lib.byteCells bs) := ⟨h1, .inr ⟨g, cap, cur, rfl, hg, hh, hnc, hm, hs, ht⟩⟩
    refine .inr ⟨g, 0, rfl, fun j hj => ?_⟩
    have hc := h'.cells rfl j (.int .u8 (bs[j].toNat : Int)) (by unfold Lib.byteCells; rw [List.getElem?_map, List.getElem?_eq_getElem hj]; rfl)
    rw [add_plain] at hc
    exact hc

set_option maxHeartbeats 1000000 in
set_option maxRecDepth 100000 in
theorem newReader_any (v : Value) (bs : List UInt8) (w : World) (hv : bytesAt w v bs) (hb : bs.length ≤ 140737488355328) :
    Calls Tryz.prog 29 #[v] w fun e w' => ∃ p base cap, e = .returned (.pointer (some ⟨p, 0, none⟩)) ∧ ReaderAt w' p base cap bs 0 0 ∧ w.heap.size ≤ p ∧ p < w'.heap.size ∧ (∀ a, base = some a → w.heap.size ≤ a.block ∧ a.block < w'.heap.size) ∧ Below w.heap.size w w' := by
  have HV : Hid (bytesAt w v bs) := hv
  obtain ⟨base0, cap0, rfl, hrest⟩ := hv
  clear hrest
  go_enter Tryz.func29, Tryz.ntmps29
  go_wp2_with fail
  refine (clone_any _ bs _ HV.out hb).mono ?_
  rintro e w1 ⟨v1, rfl, hown, hb1⟩
  obtain ⟨base, cap, rfl, hrow, hlen, hcap, hblk⟩ := own_row hown
  have hsz := hb1.size
  have HR : Hid (rowAt w1 base bs ∧ bs.length ≤ cap ∧ cap ≤ maxLen ∧ (∀ a, base = some a → w.heap.size ≤ a.block ∧ a.block < w1.heap.size) ∧ Below w.heap.size w w1) := ⟨hrow, hlen, hcap, hblk, hb1⟩
  clear hrow hlen hcap hblk hb1 hown
  go_wp2
  go_ret
  obtain ⟨hrow, hlen, hcap, hblk, hb1⟩ := HR.out
  refine ⟨w1.heap.size, base, cap, rfl, ⟨by simp, by simp, by simp, by simp, by simp, by simp, ?_, hlen, hcap, Nat.zero_le _, ?_, Nat.zero_le _⟩, hsz, by simp, ?_, hb1.alloc hsz _⟩
  · exact rowAt_kept hrow (fun a _ hl => Below.heap_alloc _ _ _ hl)
  · intro a ha; have := (hblk a ha).2; omega
  · intro a ha; have := hblk a ha; simp; omega

theorem bytesAt_lit {w : World} {bs : List UInt8} {g n : Nat} (hn : n = bs.length) (hm : n ≤ maxLen) (hc : ∀ j u, (Lib.byteCells bs)[j]? = some u → w.cell? ⟨g, j, none⟩ = some u) : bytesAt w (.slice (some ⟨g, 0, none⟩) n n) bs := by
  subst hn
  refine ⟨some ⟨g, 0, none⟩, bs.length, rfl, (fun h => by cases h), Nat.le_refl _, hm, fun a ha j u hj => ?_⟩
  cases ha
  rw [add_plain, Nat.zero_add]
  exact hc j u hj

theorem below_of_grown {B : Nat} {a w w' : World} {p : Nat} (h : Below B a w) (hg : w.grownBy w' (some p)) (hB : B ≤ w.heap.size) (hp : B ≤ p) : Below B a w' :=
  h.grown hg hB (fun k hk => by cases hk; exact hp)

end Go.Proofs.YtbdgniiafdjmiaaGreatDoor
/- append of any bytes (nil among them) onto bytes that are owned, in one law. -/
namespace Go.Proofs.YtbdgniiafdjmiaaGreatDoor
open Go.RowKit

set_option maxRecDepth 100000 in
theorem append_bytes {ops : Array Oper} {rest : List Oper} {o : Oper} {a : Act} {w : World} {Q : Exit → Act → World → Prop} (hgd : o.guard = none) (s x : Operand)
    (ho : o.op = .call { callee := .builtin .append, args := #[s, x], argTypes := #[30, 30] })
    (B : Nat) (v : Value) (us : List UInt8) (hs : a.eval s = v) (hown : w.ownsRow B 5 1 v us.length (Lib.byteCells us)) (xv : Value) (bs : List UInt8) (hx : a.eval x = xv) (hv : bytesAt w xv bs)
    (hb : us.length + bs.length ≤ 140737488355328) (hB : B ≤ w.heap.size)
    (h : ∀ v' w', w'.ownsRow B 5 1 v' (us ++ bs).length (Lib.byteCells (us ++ bs)) → w.grownBy w' v.ownBlock → wpList Tryz.prog ops Q rest (a.put o.dst v') w') : wpList Tryz.prog ops Q (o :: rest) a w := by
  obtain ⟨i0, hi, hz0, hz1, hz2⟩ := info_parts info_u8
  obtain ⟨base, cap, rfl, hn, h1, h2, hc⟩ := hv
  cases base with
  | none =>
    obtain ⟨rfl, rfl⟩ := hn rfl
    refine wpList_append_own_none hgd s x 30 ho B 5 i0 1 Tryz.underlying30 hi v us.length _ hs hown hx ?_
    refine h v w ?_ (grownBy_refl _ _)
    rw [List.append_nil]; exact hown
  | some ad =>
    refine wpList_append_own _ hgd s x 30 ho B 5 i0 (.int .u8 0) 1 1 Tryz.underlying30 hi hz0 hz1 hz2 rfl (by decide) v us.length _ hs hown ad bs.length cap (Lib.byteCells bs) hx (by rw [Lib.byteCells_length, Nat.mul_one]) (hc ad rfl) (bytes_one bs) (by unfold maxLen; omega) (by omega) hB ?_
    intro v' w' ho' hg' _
    refine h v' w' ?_ hg'
    rw [List.length_append, Lib.byteCells_append]
    exact ho'

set_option maxRecDepth 100000 in
/-- .. as a step of a region that draws its order. -/
theorem step_append_bytes {ops : Array Oper} {o : Oper} {a : Act} {w : World} {K : Act → World → Prop} {Q : Exit → Act → World → Prop} {E : Prop} (s x : Operand)
    (ho : o.op = .call { callee := .builtin .append, args := #[s, x], argTypes := #[30, 30] }) (hw : Region.wanted o (yielded ops a.tmps) = true)
    (B : Nat) (v : Value) (us : List UInt8) (hs : a.eval s = v) (hown : w.ownsRow B 5 1 v us.length (Lib.byteCells us)) (xv : Value) (bs : List UInt8) (hx : a.eval x = xv) (hv : bytesAt w xv bs)
    (hb : us.length + bs.length ≤ 140737488355328) (hB : B ≤ w.heap.size)
    (h : ∀ v' w', w'.ownsRow B 5 1 v' (us ++ bs).length (Lib.byteCells (us ++ bs)) → w.grownBy w' v.ownBlock → K (a.put o.dst v') w') :
    if Region.wanted o (yielded ops a.tmps) = true then Oper.wp Tryz.prog o a w K Q else E := by
  rw [if_pos hw]
  obtain ⟨i0, hi, hz0, hz1, hz2⟩ := info_parts info_u8
  obtain ⟨base, cap, rfl, hn, h1, h2, hc⟩ := hv
  cases base with
  | none =>
    obtain ⟨rfl, rfl⟩ := hn rfl
    have hrun := run_append_owned_none (P := Tryz.prog) (w := w) B 30 o.type 5 i0 1 Tryz.underlying30 hi _ _ _ hown
    have hx' : a.eval x = .slice none 0 0 := hx
    unfold Oper.wp
    simp [execOp, ho, resolve, invoke, builtin, hs, hx', hrun, Result.andThen]
    refine h v w ?_ (grownBy_refl _ _)
    rw [List.append_nil]; exact hown
  | some ad =>
    refine wp_append_own w s x 30 ho B 5 i0 (.int .u8 0) 1 1 Tryz.underlying30 hi hz0 hz1 hz2 rfl (by decide) v us.length _ hs hown ad bs.length cap (Lib.byteCells bs) hx (by rw [Lib.byteCells_length, Nat.mul_one]) (hc ad rfl) (bytes_one bs) (by unfold maxLen; omega) (by omega) hB ?_
    intro v' w' ho' hg' _
    refine h v' w' ?_ hg'
    rw [List.length_append, Lib.byteCells_append]
    exact ho'

theorem bytesAt_one {w : World} {g r : Nat} (hr : r < 256) (hc : w.cell? ⟨g, 0, none⟩ = some (.int .u8 (r : Int))) : bytesAt w (.slice (some ⟨g, 0, none⟩) 1 1) [r.toUInt8] :=
  bytesAt_lit rfl (by unfold maxLen; decide) (fun j u hj => by
    match j, hj with
    | 0, hj => simp [Lib.byteCells, Lib.toUInt8_toNat hr] at hj; subst hj; exact hc)
end Go.Proofs.YtbdgniiafdjmiaaGreatDoor
/- A region that draws its order, whose operations only read and whose callees may make memory, each answer the same in every grown world: walked once, in the order of the text. -/
namespace Go.Proofs.YtbdgniiafdjmiaaGreatDoor
open Go.RowKit

/-- The worlds that grew from w, below n as it was. -/
def Cls (n : Nat) (w : World) : Type := { wx : World // Below n w wx }

instance clsOne (n : Nat) (w : World) : Nonempty (Cls n w) := ⟨⟨w, Below.refl _ _⟩⟩

theorem wp_region_cls {P : Program} {id : Nat} {Q : Exit → Act → World → Prop} {a : Act} {w w0 : World} {l : List Oper} {n : Nat} (hw : Below n w0 w) (hm : P.follows .mixedOrders = true) (hB : Region.lexB .any l.toArray = true)
    (h : wpQuiet P l.toArray (fun w' => ∃ c : Cls n w0, w' = c.1) (fun a' => ∀ w', (∃ c : Cls n w0, w' = c.1) → Q .normal a' w') l a) : (Code.region id l.toArray true).wp P Q a w :=
  wp_region_quiet (C := fun w' => ∃ c : Cls n w0, w' = c.1) hm hB ⟨⟨w.drew, hw.drew⟩, rfl⟩ (by simpa using h)

theorem cls_calls {P : Program} {f : FuncId} {args : Array Value} {v : Value} {n : Nat} {w : World} (h : ∀ wx, Below n w wx → Calls P f args wx fun e w'' => e = .returned v ∧ Below n w w'') (c : Cls n w) :
    Calls P f args c.1 fun e w'' => e = .returned v ∧ ∃ c' : Cls n w, w'' = c'.1 :=
  (h c.1 c.2).mono fun _ w'' ⟨he, hb⟩ => ⟨he, ⟨w'', hb⟩, rfl⟩

theorem cls_cell {n : Nat} {w : World} {p : Addr} {v : Value} (h : w.cell? p = some v) (hp : p.block < n) (c : Cls n w) : c.1.cell? p = some v := by
  rw [c.2.cell hp]; exact h
end Go.Proofs.YtbdgniiafdjmiaaGreatDoor
