/- store: what is kept, as mathematics, and how it lies in memory. -/
import Derived.Test.YtancnmbgncofiaaWAll
import Derived.Test.YtancnmbgncofiaaCMix2
import Derived.Maps.AppendAt
import Derived.Laws.OwnMore
namespace Go.Proofs.Ytancnmbgncofiaa
open Go.RowKit

/-- All but the blocks of S is kept. -/
structure KpS (S : Nat → Prop) (w w' : World) : Prop where
  os : w'.os = w.os
  tape : w'.tape = w.tape
  output : w'.output = w.output
  size : w.heap.size ≤ w'.heap.size
  block : ∀ k, k < w.heap.size → ¬ S k → w'.heap[k]? = w.heap[k]?

theorem KpS.refl (S : Nat → Prop) (w : World) : KpS S w w := ⟨rfl, rfl, rfl, Nat.le_refl _, fun _ _ _ => rfl⟩
theorem KpS.of {S : Nat → Prop} {w w' : World} (h : Below w.heap.size w w') : KpS S w w' := ⟨h.os, h.tape, h.output, h.size, fun k hk _ => h.block k hk⟩
theorem KpS.trans {S S' : Nat → Prop} {a b c : World} (h : KpS S a b) (k : KpS S' b c) (hS : ∀ i, i < a.heap.size → S' i → S i) : KpS S a c :=
  ⟨k.os.trans h.os, k.tape.trans h.tape, k.output.trans h.output, Nat.le_trans h.size k.size, fun i hi hn => (k.block i (Nat.lt_of_lt_of_le hi h.size) fun hs => hn (hS i hi hs)).trans (h.block i hi hn)⟩
theorem KpS.wide {S S' : Nat → Prop} {a b : World} (h : KpS S a b) (hS : ∀ i, i < a.heap.size → S i → S' i) : KpS S' a b :=
  ⟨h.os, h.tape, h.output, h.size, fun k hk hn => h.block k hk fun hs => hn (hS k hk hs)⟩
theorem KpS.below {S : Nat → Prop} {a b : World} {B : Nat} (h : KpS S a b) (hB : B ≤ a.heap.size) (hS : ∀ i, S i → B ≤ i) : Below B a b :=
  ⟨h.os, h.tape, h.output, h.size, fun k hk => h.block k (Nat.lt_of_lt_of_le hk hB) fun hs => by have := hS k hs; omega⟩
theorem KpS.grown {S : Nat → Prop} {a b c : World} {row : Option Nat} (h : KpS S a b) (hg : b.grownBy c row) (hrow : ∀ k, row = some k → k < a.heap.size → S k) : KpS S a c :=
  ⟨hg.os.trans h.os, hg.tape.trans h.tape, hg.output.trans h.output, Nat.le_trans h.size hg.size, fun k hk hn => (hg.block k (Nat.lt_of_lt_of_le hk h.size) fun e => hn (hrow k e.symm hk)).trans (h.block k hk hn)⟩
theorem KpS.alloc {S : Nat → Prop} {a b : World} (h : KpS S a b) (o : Obj) : KpS S a (b.alloc o) :=
  ⟨h.os, h.tape, h.output, by have := h.size; simp; omega, fun k hk hn => (Below.heap_alloc _ _ _ (Nat.lt_of_lt_of_le hk h.size)).trans (h.block k hk hn)⟩
theorem KpS.set {S : Nat → Prop} {a b : World} (h : KpS S a b) {p : Addr} (v : Value) (hp : p.block < a.heap.size → S p.block) : KpS S a (b.setCell p v) :=
  ⟨h.os, h.tape, h.output, by have := h.size; simpa using this, fun k hk hn => (Below.heap_setCell _ _ _ _ (fun e => hn (by subst e; exact hp hk))).trans (h.block k hk hn)⟩

theorem kown_blocks {w w' : World} {B e sz n : Nat} {v : Value} {xs : List Value} (h : w.ownsRow B e sz v n xs) (hb : ∀ k, v.ownBlock = some k → k < w.heap.size → w'.heap[k]? = w.heap[k]?) : w'.ownsRow B e sz v n xs := by
  refine ⟨h.1, ?_⟩
  rcases h.2 with hn | ⟨g, cap, cur, rfl, hb1, hgg, rest⟩
  · exact .inl hn
  · exact .inr ⟨g, cap, cur, rfl, hb1, (hb g rfl (Array.getElem?_eq_some_iff.1 hgg).1).trans hgg, rest⟩
theorem kown_base {B C e sz n : Nat} {w : World} {v : Value} {xs : List Value} (h : w.ownsRow B e sz v n xs) (hC : C ≤ B) : w.ownsRow C e sz v n xs := by
  refine ⟨h.1, ?_⟩
  rcases h.2 with h2 | ⟨g, cap, cur, hv, hg, r⟩
  · exact .inl h2
  · exact .inr ⟨g, cap, cur, hv, by omega, r⟩
theorem kown_val {w : World} {B e sz n : Nat} {v : Value} {xs : List Value} (h : w.ownsRow B e sz v n xs) : ∃ base cap, v = .slice base n cap ∧ n ≤ cap ∧ cap ≤ maxLen := by
  rcases h.2 with ⟨rfl, rfl⟩ | ⟨g, cap, cur, rfl, _, _, h1, h2, _⟩
  · exact ⟨_, _, rfl, Nat.le_refl _, Nat.zero_le _⟩
  · exact ⟨_, _, rfl, h1, h2⟩
theorem kown_one {w : World} {B e sz n : Nat} {v : Value} {xs : List Value} (h : w.ownsRow B e sz v n xs) : v.oneCell' = true := by
  obtain ⟨_, _, rfl, _⟩ := kown_val h
  rfl
theorem kown_type {w : World} {B e sz n k : Nat} {v : Value} {xs : List Value} (h : w.ownsRow B e sz v n xs) (hk : v.ownBlock = some k) : ∃ cur, w.heap[k]? = some (.cells cur e (0, 0)) := by
  rcases h.2 with ⟨rfl, _⟩ | ⟨g, cap, cur, rfl, _, hh, _⟩
  · simp [Value.ownBlock] at hk
  · simp [Value.ownBlock] at hk
    subst hk
    exact ⟨cur, hh⟩
theorem ksetCell_block {w : World} {N j : Nat} {c : Array Value} {ty : TypeId} {fr : Nat × Nat} (v : Value) (h : w.heap[N]? = some (.cells c ty fr)) : (w.setCell ⟨N, j, none⟩ v).heap[N]? = some (.cells (c.setIfInBounds j v) ty fr) := by
  unfold World.setCell
  simp [Array.getElem?_modify, h]
theorem kcells2 {w : World} {N : Nat} {x0 x1 : Value} {ty : TypeId} (h : w.heap[N]? = some (.cells #[x0, x1] ty (0, 0))) :
    w.cell? ⟨N, 0, none⟩ = some x0 ∧ w.cell? ⟨N, 1, none⟩ = some x1 ∧ ∀ j, w.frozen? ⟨N, j, none⟩ = false := by
  refine ⟨?_, ?_, fun j => ?_⟩
  · simp only [World.cell?, h]; rfl
  · simp only [World.cell?, h]; rfl
  · simp only [World.frozen?, h]; simp
theorem kbelow_cell {n : Nat} {w w' : World} (h : Below n w w') {g j : Nat} (hg : g < n) : w'.cell? ⟨g, j, none⟩ = w.cell? ⟨g, j, none⟩ := World.cell?_of_block (h.block g hg)

/-- One that is kept: its position, its bytes, and the value that they are. -/
structure Kp where
  p : Int
  b : List UInt8
  v : Value

/-- What is kept, as cells. -/
def kpC (ks : List Kp) : List Value := ks.flatMap fun k => [.int .i64 k.p, k.v]
theorem kpC_nil : kpC [] = [] := rfl
theorem kpC_cons (k : Kp) (ks : List Kp) : kpC (k :: ks) = .int .i64 k.p :: k.v :: kpC ks := by unfold kpC; rw [List.flatMap_cons]; rfl
theorem kpC_app (a b : List Kp) : kpC (a ++ b) = kpC a ++ kpC b := by unfold kpC; rw [List.flatMap_append]
theorem kpC_len : ∀ ks : List Kp, (kpC ks).length = ks.length * 2
  | [] => rfl
  | k :: ks => by rw [kpC_cons, List.length_cons, List.length_cons, kpC_len, List.length_cons]; omega
theorem kpC_at : ∀ (ks : List Kp) (i : Nat) (h : i < ks.length), (kpC ks)[i * 2]? = some (.int .i64 (ks[i]).p) ∧ (kpC ks)[i * 2 + 1]? = some (ks[i]).v
  | [], _, h => by cases h
  | k :: ks, 0, _ => by rw [kpC_cons]; exact ⟨rfl, rfl⟩
  | k :: ks, i + 1, h => by
    have ih := kpC_at ks i (by simpa using h)
    rw [kpC_cons, show (i + 1) * 2 = (i * 2) + 1 + 1 by omega, show (i * 2) + 1 + 1 + 1 = (i * 2 + 1) + 1 + 1 by omega]
    simp only [List.getElem?_cons_succ, List.getElem_cons_succ]
    exact ih
theorem kpC_take (ks : List Kp) (n : Nat) : (kpC ks).take (n * 2) = kpC (ks.take n) := by
  induction ks generalizing n with
  | nil => simp [kpC_nil]
  | cons k ks ih =>
    cases n with
    | zero => simp [kpC_nil]
    | succ n => rw [kpC_cons, show (n + 1) * 2 = n * 2 + 1 + 1 by omega, List.take_succ_cons, List.take_succ_cons, ih, List.take_succ_cons, kpC_cons]
theorem kpC_drop (ks : List Kp) (n : Nat) : (kpC ks).drop (n * 2) = kpC (ks.drop n) := by
  induction ks generalizing n with
  | nil => simp [kpC_nil]
  | cons k ks ih =>
    cases n with
    | zero => simp
    | succ n => rw [kpC_cons, show (n + 1) * 2 = n * 2 + 1 + 1 by omega, List.drop_succ_cons, List.drop_succ_cons, ih, List.drop_succ_cons]

/-- The bytes of one that is kept lie in memory. -/
def KpOk (w : World) (k : Kp) : Prop := w.ownsRow 0 5 1 k.v k.b.length (Lib.byteCells k.b) ∧ k.b.length ≤ 140737488355328 ∧ 0 ≤ k.p ∧ k.p ≤ 9223372036854775807

/-- The store at block h: how many it may keep, what it keeps. -/
structure StIn (w : World) (most : Nat) (ks : List Kp) (h : Nat) (vk : Value) : Prop where
  blk : w.heap[h]? = some (.cells #[.int .i64 (most : Int), vk] 47 (0, 0))
  row : w.ownsRow 0 52 2 vk ks.length (kpC ks)
  its : ∀ k ∈ ks, KpOk w k
  m1 : 1 ≤ most
  m64 : most ≤ 64
  few : ks.length ≤ 65
  rise : ks.Pairwise fun a b => a.p < b.p

theorem StIn.lt {w : World} {most : Nat} {ks : List Kp} {h : Nat} {vk : Value} (H : StIn w most ks h vk) : h < w.heap.size := (Array.getElem?_eq_some_iff.1 H.blk).1
theorem StIn.kept {w w' : World} {most : Nat} {ks : List Kp} {h : Nat} {vk : Value} (H : StIn w most ks h vk) (hb : ∀ k, k < w.heap.size → w'.heap[k]? = w.heap[k]?) : StIn w' most ks h vk :=
  { H with blk := (hb h H.lt).trans H.blk, row := kown_blocks H.row fun k _ hlt => hb k hlt, its := fun k hk => ⟨kown_blocks (H.its k hk).1 fun q _ hlt => hb q hlt, (H.its k hk).2⟩ }
theorem StIn.below {w w' : World} {most : Nat} {ks : List Kp} {h : Nat} {vk : Value} (H : StIn w most ks h vk) (hb : Below w.heap.size w w') : StIn w' most ks h vk := H.kept fun k hk => hb.block k hk
/-- What another store does is nothing to it. -/
theorem StIn.other {w w' : World} {most : Nat} {ks : List Kp} {h : Nat} {vk : Value} (H : StIn w most ks h vk) {S : Nat → Prop} (hk : KpS S w w') (h1 : ¬ S h) (h2 : ∀ q, vk.ownBlock = some q → ¬ S q)
    (h3 : ∀ q cur, w.heap[q]? = some (.cells cur 5 (0, 0)) → ¬ S q) : StIn w' most ks h vk :=
  { H with blk := (hk.block h H.lt h1).trans H.blk, row := kown_blocks H.row fun k e hlt => hk.block k hlt (h2 k e), its := fun k hkm => ⟨kown_blocks (H.its k hkm).1 fun q e hlt => hk.block q hlt (by obtain ⟨cur, hc⟩ := kown_type (H.its k hkm).1 e; exact h3 q cur hc), (H.its k hkm).2⟩ }
theorem StIn.apart {w : World} {most : Nat} {ks : List Kp} {h : Nat} {vk : Value} (H : StIn w most ks h vk) : vk.ownBlock ≠ some h := fun e => by
  obtain ⟨cur, hc⟩ := kown_type H.row e
  rw [H.blk] at hc
  simp at hc

set_option maxRecDepth 100000 in
theorem info_kp : (Try.prog.info? 52).map (fun i => (i.zero, i.size, i.bytes)) = some (some (.agg #[.int .i64 0, .slice none 0 0]), 2, 32) := by kernel_rfl
set_option maxRecDepth 100000 in
theorem info_kint : (Try.prog.info? 3).map (fun i => (i.zero, i.size, i.bytes)) = some (some (.int .i64 0), 1, 8) := by kernel_rfl
end Go.Proofs.Ytancnmbgncofiaa
