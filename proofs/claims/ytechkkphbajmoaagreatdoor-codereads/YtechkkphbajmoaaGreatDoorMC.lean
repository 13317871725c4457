import Derived.Test.YtechkkphbajmoaaGreatDoorCIns
import Derived.Test.YtechkkphbajmoaaGreatDoorCUnit
import Derived.Maps.Own
import Derived.Maps.OwnOps
import Derived.Maps.OwnSet
import Derived.Maps.AppendAt
import Derived.Deep.LoopGhost
import Derived.Test.YtechkkphbajmoaaGreatDoorMB
/- code: which heights are reached: the mathematics. -/
namespace Go.Proofs.YtechkkphbajmoaaGreatDoor
open Go.RowKit Go.Shelf

/-- What an instruction takes, and puts. -/
def effR (c : Cd) (x : In7) : Int × Int :=
  match opsL[x.op.toNat]? with
  | none => (0, 0)
  | some r =>
    if r.2.1 = 6 then
      match c.units[x.a.toNat]? with
      | some u => (u.params, oneR u.result)
      | none => (0, 0)
    else if r.2.1 = 7 then
      match c.shapes[x.a.toNat]? with
      | some s => ((s.fields.length : Int), r.2.2.2)
      | none => (0, 0)
    else if r.2.1 = 8 ∨ r.2.1 = 9 then (x.a, r.2.2.2)
    else (r.2.2.1, r.2.2.2)
/-- May it not be reached at this height? -/
def LeaveBad (c : Cd) (st : Int) (x : In7) (h : Int) : Prop := h < (effR c x).1 ∨ st < h - (effR c x).1 + (effR c x).2 ∨ (x.op = 0 ∧ h ≠ 0) ∨ (x.op = 23 ∧ h ≠ x.a)
instance (c : Cd) (st : Int) (x : In7) (h : Int) : Decidable (LeaveBad c st x h) := by unfold LeaveBad; exact inferInstance
/-- What it leaves. -/
def leaveR (c : Cd) (st : Int) (x : In7) (h : Int) : Int × Bool := if LeaveBad c st x h then (0, false) else (h - (effR c x).1 + (effR c x).2, true)
/-- What comes behind. -/
def behindR (at0 : Nat) (x : In7) : List Nat := if x.op = 20 then [x.a.toNat] else if x.op = 21 then [at0 + 1, x.a.toNat] else if x.op = 23 then [] else [at0 + 1]

/-- An instruction is reached at a height. -/
inductive Rch (c : Cd) (u : Un) : Nat → Int → Prop
  | zero : Rch c u 0 0
  | step {i n : Nat} {h left : Int} {x : In7} (hr : Rch c u i h) (hx : u.ins[i]? = some x) (hl : leaveR c u.stack x h = (left, true)) (hn : n ∈ behindR i x) : Rch c u n left

/-- The heights are right. -/
def RightH (c : Cd) (u : Un) : Prop := (∀ i h, Rch c u i h → ∃ x, u.ins[i]? = some x ∧ (leaveR c u.stack x h).2 = true) ∧ ∀ i h h', Rch c u i h → Rch c u i h' → h = h'
noncomputable def rchR (c : Cd) (u : Un) : Bool := @decide (RightH c u) (Classical.propDecidable _)
theorem rchR_true {c : Cd} {u : Un} (h : RightH c u) : rchR c u = true := @decide_eq_true _ (Classical.propDecidable _) h
theorem rchR_false {c : Cd} {u : Un} (h : ¬ RightH c u) : rchR c u = false := @decide_eq_false _ (Classical.propDecidable _) h
theorem rchR_iff {c : Cd} {u : Un} : rchR c u = true ↔ RightH c u := @decide_eq_true_iff _ (Classical.propDecidable _)

/-- Between two rounds: of those that are done, all that comes behind is reached; those in todo are reached. -/
structure RInv (c : Cd) (u : Un) (m : Nat → Option Int) (done todo : List Nat) : Prop where
  sound : ∀ i h, m i = some h → Rch c u i h
  dom : ∀ i, (m i).isSome = true ↔ i ∈ done ++ todo
  nodup : (done ++ todo).Nodup
  lt : ∀ i, i ∈ done ++ todo → i < u.ins.length
  closed : ∀ i, i ∈ done → ∃ h x left, m i = some h ∧ u.ins[i]? = some x ∧ leaveR c u.stack x h = (left, true) ∧ ∀ n, n ∈ behindR i x → m n = some left
  zero : m 0 = some 0

/-- Within a round: the one that was taken, i, is asked for what comes behind it, of which rest is left. -/
structure RMid (c : Cd) (u : Un) (m : Nat → Option Int) (done todo : List Nat) (i : Nat) (x : In7) (left : Int) (rest : List Nat) : Prop where
  sound : ∀ i h, m i = some h → Rch c u i h
  dom : ∀ j, (m j).isSome = true ↔ j ∈ (i :: done) ++ todo
  nodup : ((i :: done) ++ todo).Nodup
  lt : ∀ j, j ∈ (i :: done) ++ todo → j < u.ins.length
  closed : ∀ i, i ∈ done → ∃ h x left, m i = some h ∧ u.ins[i]? = some x ∧ leaveR c u.stack x h = (left, true) ∧ ∀ n, n ∈ behindR i x → m n = some left
  zero : m 0 = some 0
  here : ∃ h, m i = some h ∧ u.ins[i]? = some x ∧ leaveR c u.stack x h = (left, true)
  mem : ∀ n, n ∈ rest → n ∈ behindR i x
  past : ∀ n, n ∈ behindR i x → n ∈ rest ∨ m n = some left

theorem nodup_le : ∀ (n : Nat) (l : List Nat), l.Nodup → (∀ i, i ∈ l → i < n) → l.length ≤ n
  | 0, l, _, h => by
    cases l with
    | nil => simp
    | cons a t => exact absurd (h a (by simp)) (by omega)
  | n + 1, l, hn, h => by
    have h1 : (l.erase n).length ≤ n := nodup_le n (l.erase n) (hn.erase n) fun i hi => by
      have hm := List.mem_of_mem_erase hi
      have hne : i ≠ n := fun e => by
        subst e
        exact absurd hi (by rw [hn.mem_erase_iff]; simp)
      have := h i hm
      omega
    have h2 : l.length ≤ (l.erase n).length + 1 := by
      by_cases hm : n ∈ l
      · rw [List.length_erase_of_mem hm]; omega
      · rw [List.erase_of_not_mem hm]; omega
    omega

theorem RInv.start (c : Cd) (u : Un) (hn : 0 < u.ins.length) : RInv c u (fun i => if i = 0 then some 0 else none) [] [0] where
  sound := fun i h e => by
    by_cases hi : i = 0
    · rw [if_pos hi] at e; cases e; subst hi; exact .zero
    · rw [if_neg hi] at e; cases e
  dom := fun i => by by_cases hi : i = 0 <;> simp [hi]
  nodup := by simp
  lt := fun i hi => by simp at hi; omega
  closed := fun i hi => by cases hi
  zero := rfl
theorem RInv.few {c : Cd} {u : Un} {m : Nat → Option Int} {done todo : List Nat} (h : RInv c u m done todo) : done.length + todo.length ≤ u.ins.length := by
  have := nodup_le _ _ h.nodup h.lt
  rw [List.length_append] at this
  exact this
theorem RMid.few {c : Cd} {u : Un} {m : Nat → Option Int} {done todo : List Nat} {i : Nat} {x : In7} {left : Int} {rest : List Nat} (h : RMid c u m done todo i x left rest) : done.length + 1 + todo.length ≤ u.ins.length := by
  have := nodup_le _ _ h.nodup h.lt
  rw [List.length_append, List.length_cons] at this
  exact this
/-- One is taken off the end of todo. -/
theorem RInv.take {c : Cd} {u : Un} {m : Nat → Option Int} {done todo : List Nat} {i : Nat} (h : RInv c u m done (todo ++ [i])) : ∃ x hh, u.ins[i]? = some x ∧ m i = some hh ∧ Rch c u i hh ∧ ∀ left, leaveR c u.stack x hh = (left, true) → RMid c u m done todo i x left (behindR i x) := by
  have hil : i < u.ins.length := h.lt i (by simp)
  have hs : (m i).isSome = true := (h.dom i).2 (by simp)
  obtain ⟨hh, hm⟩ := Option.isSome_iff_exists.1 hs
  have hp : (done ++ (todo ++ [i])).Perm ((i :: done) ++ todo) := by
    rw [← List.append_assoc]
    exact (List.perm_append_comm (l₁ := done ++ todo) (l₂ := [i]))
  refine ⟨u.ins[i], hh, List.getElem?_eq_getElem hil, hm, h.sound _ _ hm, fun left hl => ?_⟩
  exact ⟨h.sound, fun j => (h.dom j).trans hp.mem_iff, hp.nodup_iff.1 h.nodup, fun j hj => h.lt j (hp.mem_iff.2 hj), h.closed, h.zero, ⟨hh, hm, List.getElem?_eq_getElem hil, hl⟩, fun _ hn => hn, fun _ hn => .inl hn⟩
/-- One that cannot be left: the heights are not right. -/
theorem RInv.stuck {c : Cd} {u : Un} {i : Nat} {x : In7} {hh : Int} (hr : Rch c u i hh) (hx : u.ins[i]? = some x) (hl : (leaveR c u.stack x hh).2 = false) : ¬ RightH c u := fun h => by
  obtain ⟨y, hy, ht⟩ := h.1 i hh hr
  rw [hx] at hy
  cases hy
  rw [hl] at ht
  cases ht
/-- What comes behind is reached. -/
theorem RMid.reach {c : Cd} {u : Un} {m : Nat → Option Int} {done todo : List Nat} {i : Nat} {x : In7} {left : Int} {n : Nat} {rest : List Nat} (h : RMid c u m done todo i x left (n :: rest)) : Rch c u n left := by
  obtain ⟨hh, hm, hx, hl⟩ := h.here
  exact .step (h.sound _ _ hm) hx hl (h.mem n (by simp))
theorem RMid.beyond {c : Cd} {u : Un} {m : Nat → Option Int} {done todo : List Nat} {i : Nat} {x : In7} {left : Int} {n : Nat} {rest : List Nat} (h : RMid c u m done todo i x left (n :: rest)) (hn : u.ins.length ≤ n) : ¬ RightH c u := fun hr => by
  obtain ⟨y, hy, _⟩ := hr.1 n left h.reach
  rw [List.getElem?_eq_none hn] at hy
  cases hy
theorem RMid.clash {c : Cd} {u : Un} {m : Nat → Option Int} {done todo : List Nat} {i : Nat} {x : In7} {left : Int} {n : Nat} {rest : List Nat} (h : RMid c u m done todo i x left (n :: rest)) {hh : Int} (hm : m n = some hh) (hne : hh ≠ left) : ¬ RightH c u := fun hr =>
  hne (hr.2 n _ _ (h.sound _ _ hm) h.reach)
theorem RMid.again {c : Cd} {u : Un} {m : Nat → Option Int} {done todo : List Nat} {i : Nat} {x : In7} {left : Int} {n : Nat} {rest : List Nat} (h : RMid c u m done todo i x left (n :: rest)) (hm : m n = some left) : RMid c u m done todo i x left rest :=
  ⟨h.sound, h.dom, h.nodup, h.lt, h.closed, h.zero, h.here, fun k hk => h.mem k (by simp [hk]), fun k hk => by
    rcases h.past k hk with h1 | h1
    · rcases List.mem_cons.1 h1 with rfl | h2
      · exact .inr hm
      · exact .inl h2
    · exact .inr h1⟩
theorem RMid.new {c : Cd} {u : Un} {m : Nat → Option Int} {done todo : List Nat} {i : Nat} {x : In7} {left : Int} {n : Nat} {rest : List Nat} (h : RMid c u m done todo i x left (n :: rest)) (hn : n < u.ins.length) (hm : m n = none) : RMid c u (fun j => if j = n then some left else m j) done (todo ++ [n]) i x left rest := by
  have hk : ∀ j v, m j = some v → (if j = n then some left else m j) = some v := fun j v hj => by
    rw [if_neg (fun e => by subst e; rw [hm] at hj; cases hj)]; exact hj
  have hp : ((i :: done) ++ (todo ++ [n])).Perm (n :: ((i :: done) ++ todo)) := by
    rw [← List.append_assoc]
    exact List.perm_append_comm (l₁ := (i :: done) ++ todo) (l₂ := [n])
  have hnot : n ∉ (i :: done) ++ todo := fun hin => by
    have := (h.dom n).2 hin
    rw [hm] at this; cases this
  refine ⟨fun j v hj => ?_, fun j => ?_, hp.nodup_iff.2 (List.nodup_cons.2 ⟨hnot, h.nodup⟩), fun j hj => ?_, fun j hj => ?_, hk _ _ h.zero, ?_, fun k hkk => h.mem k (by simp [hkk]), fun k hkk => ?_⟩
  · by_cases e : j = n
    · rw [if_pos e] at hj; cases hj; subst e; exact h.reach
    · rw [if_neg e] at hj; exact h.sound _ _ hj
  · rw [hp.mem_iff, List.mem_cons]
    by_cases e : j = n
    · simp [e]
    · rw [if_neg e, h.dom j]; simp [e]
  · rcases List.mem_cons.1 (hp.mem_iff.1 hj) with rfl | h1
    · exact hn
    · exact h.lt j h1
  · obtain ⟨hh, y, l, a, b, d, e⟩ := h.closed j hj
    exact ⟨hh, y, l, hk _ _ a, b, d, fun k hkk => hk _ _ (e k hkk)⟩
  · obtain ⟨hh, a, b, d⟩ := h.here
    exact ⟨hh, hk _ _ a, b, d⟩
  · rcases h.past k hkk with h1 | h1
    · rcases List.mem_cons.1 h1 with rfl | h2
      · exact .inr (if_pos rfl)
      · exact .inl h2
    · exact .inr (hk _ _ h1)
theorem RMid.done {c : Cd} {u : Un} {m : Nat → Option Int} {done todo : List Nat} {i : Nat} {x : In7} {left : Int} (h : RMid c u m done todo i x left []) : RInv c u m (i :: done) todo :=
  ⟨h.sound, h.dom, h.nodup, h.lt, fun j hj => by
    rcases List.mem_cons.1 hj with rfl | h1
    · obtain ⟨hh, a, b, d⟩ := h.here
      exact ⟨hh, x, left, a, b, d, fun k hk => (h.past k hk).resolve_left (by simp)⟩
    · exact h.closed j h1, h.zero⟩
/-- Nothing is left to be done: what is reached is what is noted. -/
theorem RInv.all {c : Cd} {u : Un} {m : Nat → Option Int} {done : List Nat} (h : RInv c u m done []) : ∀ i hh, Rch c u i hh → m i = some hh := fun i hh hr => by
  induction hr with
  | zero => exact h.zero
  | @step i n hh left x hr hx hl hn ih =>
    have hi : i ∈ done := by
      have := (h.dom i).1 (by rw [ih]; rfl)
      simpa using this
    obtain ⟨h2, y, l2, a, b, d, e⟩ := h.closed i hi
    rw [ih] at a
    cases a
    rw [hx] at b
    cases b
    rw [hl] at d
    cases d
    exact e n hn
theorem RInv.right {c : Cd} {u : Un} {m : Nat → Option Int} {done : List Nat} (h : RInv c u m done []) : RightH c u := by
  refine ⟨fun i hh hr => ?_, fun i a b ha hb => ?_⟩
  · have hm := h.all i hh hr
    have hi : i ∈ done := by
      have := (h.dom i).1 (by rw [hm]; rfl)
      simpa using this
    obtain ⟨h2, y, l2, a, b, d, e⟩ := h.closed i hi
    rw [hm] at a
    cases a
    exact ⟨y, b, by rw [d]⟩
  · have h1 := h.all i a ha
    rw [h.all i b hb] at h1
    cases h1
    rfl
end Go.Proofs.YtechkkphbajmoaaGreatDoor
/- code: what an instruction takes and puts. -/
namespace Go.Proofs.YtechkkphbajmoaaGreatDoor
open Go.RowKit Go.Shelf

/-- An instruction names what is there. -/
def InsOk (c : Cd) (x : In7) : Prop := ∃ n r, x.op = (n : Nat) ∧ opsL[n]? = some r ∧ (r.2.1 = 6 → 0 ≤ x.a ∧ x.a < (c.units.length : Int)) ∧ (r.2.1 = 7 → 0 ≤ x.a ∧ x.a < (c.shapes.length : Int))

theorem effR_of {c : Cd} {n : Nat} {a : Int} {nm : List UInt8} {o tk pu : Int} (h : opsL[n]? = some (nm, o, tk, pu)) : effR c ⟨n, a⟩ = (if o = 6 then
      match c.units[a.toNat]? with
      | some u => (u.params, oneR u.result)
      | none => (0, 0)
    else if o = 7 then
      match c.shapes[a.toNat]? with
      | some s => ((s.fields.length : Int), pu)
      | none => (0, 0)
    else if o = 8 ∨ o = 9 then (a, pu)
    else (tk, pu)) := by
  unfold effR
  simp only [Int.toNat_natCast, h] <;> rfl

set_option maxRecDepth 100000 in
set_option maxHeartbeats 4000000 in
theorem cEffect_any (S : Nat → Prop) (c : Cd) (bs bh bu : Option Addr) (ns cs nh ch nu cu : Nat) (m : Int) (x : In7) (w : World) (hsh : shapesIn S w (.slice bh nh ch) c.shapes) (hun : unitsIn S w (.slice bu nu cu) c.units) (ht : OpT w) (hok : InsOk c x) :
    Calls Tryz.prog 116 #[cdV (.slice bs ns cs) (.slice bh nh ch) (.slice bu nu cu) m, inV x] w fun e w' => e = .returned (.tuple #[.int .i64 (effR c x).1, .int .i64 (effR c x).2]) ∧ Below w.heap.size w w' := by
  obtain ⟨op, a⟩ := x
  obtain ⟨n, ⟨nm, o, tk, pu⟩, he, hr, h6, h7⟩ := hok
  simp only at he h6 h7
  subst he
  have hn : n < opsL.length := (List.getElem?_eq_some_iff.1 hr).1
  have hre : opsL[n]'hn = (nm, o, tk, pu) := (List.getElem?_eq_some_iff.1 hr).2
  obtain ⟨w2, hw2, hb2, HZ2, h0, h1⟩ := box2 w (.cells #[.slice bs ns cs, .slice bh nh ch, .slice bu nu cu, .int .i64 m] 26) (.cells #[.int .i64 n, .int .i64 a] 62)
  have HW2 : Hid (w2 = (w.alloc (.cells #[.slice bs ns cs, .slice bh nh ch, .slice bu nu cu, .int .i64 m] 26)).alloc (.cells #[.int .i64 n, .int .i64 a] 62)) := hw2
  have HB2 : Hid (Below w.heap.size w w2) := hb2
  obtain ⟨w3, hw3, hb3, HZ3, h2⟩ := box1 w2 (.cells #[.string (strB nm), .int .i64 o, .int .i64 tk, .int .i64 pu] 129)
  have HW3 : Hid (w3 = w2.alloc (.cells #[.string (strB nm), .int .i64 o, .int .i64 tk, .int .i64 pu] 129)) := hw3
  have HB3 : Hid (Below w.heap.size w w3) := hb2.trans (hb3.mono hb2.size)
  obtain ⟨q0, q1, q2, q3⟩ := (ht.below hb2 (Nat.le_refl _)) n hn
  rw [hre] at q0 q1 q2 q3
  simp only at q0 q1 q2 q3
  have hgl := (ht.below hb2 (Nat.le_refl _)).lt
  obtain ⟨i0, i1⟩ := bcells2 h1
  have hn35 : (n : Int) < 35 := by have : n < 35 := hn
                                   omega
  obtain ⟨E, hE⟩ : ∃ E, E = effR c ⟨n, a⟩ := ⟨_, rfl⟩
  have HE : Hid (E = (if o = 6 then
      match c.units[a.toNat]? with
      | some u => (u.params, oneR u.result)
      | none => (0, 0)
    else if o = 7 then
      match c.shapes[a.toNat]? with
      | some s => ((s.fields.length : Int), pu)
      | none => (0, 0)
    else if o = 8 ∨ o = 9 then (a, pu)
    else (tk, pu))) := hE.trans (effR_of hr)
  rw [← hE]
  have HN : Hid (n < 35) := hn
  clear hE hr hre hn hw2 hw3 ht
  by_cases o6 : o = 6
  · subst o6
    obtain ⟨ha0, ha1⟩ := h6 rfl
    obtain ⟨i, rfl⟩ : ∃ i : Nat, a = i := ⟨a.toNat, by omega⟩
    have hi : i < c.units.length := by omega
    obtain ⟨base, cap, hv, hc1, -, hat⟩ := hun.at
    cases hv
    obtain ⟨b, off, rfl, -, hbl, hc⟩ := hat i hi
    obtain ⟨e0, e1, e2, e3, e4, ⟨vi, e5, hvi⟩, vv, e6, hvv⟩ := hc
    obtain ⟨bi, ci, rfl, -⟩ := hvi.at
    obtain ⟨bv, cv, rfl, -⟩ := hvv.at
    obtain ⟨ni, hni⟩ : ∃ n, n = c.units[i].ins.length := ⟨_, rfl⟩
    obtain ⟨nv, hnv⟩ : ∃ n, n = c.units[i].vars.length := ⟨_, rfl⟩
    rw [← hni] at e5
    rw [← hnv] at e6
    rw [if_pos rfl, Int.toNat_natCast, List.getElem?_eq_getElem hi] at HE
    obtain ⟨u, hu⟩ : ∃ u, u = c.units[i] := ⟨_, rfl⟩
    rw [← hu] at e0 e1 e2 e3 e4 HE
    obtain ⟨name, params, slots, stack, result, ins, vars⟩ := u
    simp only at e0 e1 e2 e3 e4 HE
    have hcap3 : (i : Int) < c.units.length := by omega
    have hcc : ∀ q, w3.cell? ⟨b, q, none⟩ = w.cell? ⟨b, q, none⟩ := fun q => below_cell HB3.out hbl
    rw [← hcc] at e0 e1 e2 e3 e4 e5 e6
    have hbl3 : b < w3.heap.size := Nat.lt_of_lt_of_le hbl HB3.out.size
    have a0 : w3.cell? ⟨w.heap.size, 2, none⟩ = some (.slice (some ⟨b, off, none⟩) c.units.length cu) := (bcells4 ((hb3.block _ (by have := HZ2.out; omega)).trans h0)).2.2.1
    obtain ⟨a1, a2⟩ := bcells2 ((hb3.block _ (by have := HZ2.out; omega)).trans h1)
    obtain ⟨p0, p1, p2, p3⟩ := bcells4 h2
    obtain ⟨w4, hw4, hb4, HZ4, h4⟩ := box1 w3 (.cells #[.string (strB name), .int .i64 params, .int .i64 slots, .int .i64 stack, .bool result, .slice bi ni ci, .slice bv nv cv] 58)
    have HW4 : Hid (w4 = w3.alloc (.cells #[.string (strB name), .int .i64 params, .int .i64 slots, .int .i64 stack, .bool result, .slice bi ni ci, .slice bv nv cv] 58)) := hw4
    have HB4 : Hid (Below w.heap.size w w4) := HB3.out.trans (hb4.mono HB3.out.size)
    obtain ⟨y0, y1, y2, y3, y4, y5, y6⟩ := cells7 h4
    have x0 := cls_cell (n := w4.heap.size) y0 (by have := HZ4.out; simp only; omega)
    have x1 := cls_cell (n := w4.heap.size) y1 (by have := HZ4.out; simp only; omega)
    have x2 := cls_cell (n := w4.heap.size) y2 (by have := HZ4.out; simp only; omega)
    have x3 := cls_cell (n := w4.heap.size) y3 (by have := HZ4.out; simp only; omega)
    have x4 := cls_cell (n := w4.heap.size) y4 (by have := HZ4.out; simp only; omega)
    have x5 := cls_cell (n := w4.heap.size) y5 (by have := HZ4.out; simp only; omega)
    have x6 := cls_cell (n := w4.heap.size) y6 (by have := HZ4.out; simp only; omega)
    obtain ⟨R, hR⟩ : ∃ R, R = oneR result := ⟨_, rfl⟩
    rw [← hR] at HE
    have HC : Hid (∀ W, Below w4.heap.size w4 W → Calls Tryz.prog 145 #[.agg #[.string (strB name), .int .i64 params, .int .i64 slots, .int .i64 stack, .bool result, .slice bi ni ci, .slice bv nv cv]] W fun e w' => e = .returned (.int .i64 R) ∧ Below w4.heap.size w4 w') := fun W hW => by
      rw [hR]
      exact (cResults_any ⟨name, params, slots, stack, result, ins, vars⟩ bi bv ni ci nv cv W).mono fun e w' ⟨he, hb⟩ => ⟨he, hW.trans (hb.mono hW.size)⟩
    clear hsh hun h0 h1 h2 h4 h6 h7 hat hvi hvv hni hnv hu hb2 hb3 hb4 hw4 hR hcc y0 y1 y2 y3 y4 y5 y6 hc1 hi HZ2 HZ3 HZ4 ha0 ha1
    go_enter Tryz.func116, Tryz.ntmps116
    go_upto_region 1 with fail
    rw [← HW2.out]
    go_upto_region 2 with fail
    rw [← HW3.out]
    clear q0 q1 q2 q3 i0 i1
    go_upto_region 5 with fail
    rw [← HW4.out]
    refine wp_region_cls (n := w4.heap.size) (w0 := w4) (Below.refl _ _) (by kernel_rfl) (by kernel_rfl) ?_
    iterate 3 (go_big_quiet_step (fail))
    go_big_quiet_step (exact cls_calls HC.out _)
    iterate 2 (go_big_quiet_step (fail))
    refine wpQuiet_nil ?_
    rintro _ ⟨c, rfl⟩
    obtain ⟨w5, hb5⟩ := c
    dsimp only
    have HB5 : Hid (Below w.heap.size w w5) := HB4.out.trans (hb5.mono HB4.out.size)
    clear hb5
    go_wp2
    go_ret2
    rw [HE.out]
    exact ⟨rfl, HB5.out⟩
  · have hb6 : (o == 6) = false := by rw [beq_eq_false_iff_ne]; exact o6
    rw [if_neg o6] at HE
    by_cases o7 : o = 7
    · subst o7
      obtain ⟨ha0, ha1⟩ := h7 rfl
      obtain ⟨i, rfl⟩ : ∃ i : Nat, a = i := ⟨a.toNat, by omega⟩
      have hi : i < c.shapes.length := by omega
      obtain ⟨base, cap, hv, hc1, -, hat⟩ := hsh.at
      cases hv
      obtain ⟨b, off, rfl, -, hbl, hc⟩ := hat i hi
      obtain ⟨e0, vf, e1, hf⟩ := hc
      obtain ⟨bf, cf, rfl, -⟩ := hf.at
      rw [if_pos rfl, Int.toNat_natCast, List.getElem?_eq_getElem hi] at HE
      obtain ⟨nf, hnf⟩ : ∃ n, n = c.shapes[i].fields.length := ⟨_, rfl⟩
      simp only at HE
      rw [← hnf] at e1 HE
      have hcap3 : (i : Int) < c.shapes.length := by omega
      have hcc : ∀ q, w3.cell? ⟨b, q, none⟩ = w.cell? ⟨b, q, none⟩ := fun q => below_cell HB3.out hbl
      rw [← hcc] at e0 e1
      have hbl3 : b < w3.heap.size := Nat.lt_of_lt_of_le hbl HB3.out.size
      have a0 : w3.cell? ⟨w.heap.size, 1, none⟩ = some (.slice (some ⟨b, off, none⟩) c.shapes.length ch) := (bcells4 ((hb3.block _ (by have := HZ2.out; omega)).trans h0)).2.1
      obtain ⟨a1, a2⟩ := bcells2 ((hb3.block _ (by have := HZ2.out; omega)).trans h1)
      obtain ⟨p0, p1, p2, p3⟩ := bcells4 h2
      clear hsh hun h0 h1 h2 h6 h7 hat hf hnf hb2 hb3 hcc hc1 hi HZ2 HZ3 ha0 ha1 o6 e0
      go_enter Tryz.func116, Tryz.ntmps116
      go_upto_region 1 with fail
      rw [← HW2.out]
      go_upto_region 2 with fail
      rw [← HW3.out]
      clear q0 q1 q2 q3 i0 i1
      go_upto_region 7 with fail
      go_quiet (fail)
      go_wp2
      go_ret2
      rw [HE.out]
      exact ⟨rfl, ⟨HB3.out.os, HB3.out.tape, HB3.out.output, HB3.out.size, HB3.out.block⟩⟩
    · have hb7 : (o == 7) = false := by rw [beq_eq_false_iff_ne]; exact o7
      rw [if_neg o7] at HE
      obtain ⟨a1, a2⟩ := bcells2 ((hb3.block _ (by have := HZ2.out; omega)).trans h1)
      obtain ⟨p0, p1, p2, p3⟩ := bcells4 h2
      clear hsh hun h0 h1 h2 h6 h7 hb2 hb3 HZ2 HZ3 o6 o7
      by_cases o8 : o = 8
      · subst o8
        rw [if_pos (.inl rfl)] at HE
        go_enter Tryz.func116, Tryz.ntmps116
        go_upto_region 1 with fail
        rw [← HW2.out]
        go_upto_region 2 with fail
        rw [← HW3.out]
        clear q0 q1 q2 q3 i0 i1
        go_upto_region 10 with fail
        go_quiet (fail)
        go_wp2
        go_ret2
        rw [HE.out]
        exact ⟨rfl, ⟨HB3.out.os, HB3.out.tape, HB3.out.output, HB3.out.size, HB3.out.block⟩⟩
      · have hb8 : (o == 8) = false := by rw [beq_eq_false_iff_ne]; exact o8
        by_cases o9 : o = 9
        · subst o9
          rw [if_pos (.inr rfl)] at HE
          clear o8
          go_enter Tryz.func116, Tryz.ntmps116
          go_upto_region 1 with fail
          rw [← HW2.out]
          go_upto_region 2 with fail
          rw [← HW3.out]
          clear q0 q1 q2 q3 i0 i1
          go_upto_region 10 with fail
          go_quiet (fail)
          go_wp2
          go_ret2
          rw [HE.out]
          exact ⟨rfl, ⟨HB3.out.os, HB3.out.tape, HB3.out.output, HB3.out.size, HB3.out.block⟩⟩
        · have hb9 : (o == 9) = false := by rw [beq_eq_false_iff_ne]; exact o9
          rw [if_neg (fun h => h.elim o8 o9)] at HE
          clear o8 o9
          go_enter Tryz.func116, Tryz.ntmps116
          go_upto_region 1 with fail
          rw [← HW2.out]
          go_upto_region 2 with fail
          rw [← HW3.out]
          clear q0 q1 q2 q3 i0 i1
          go_upto_region 11 with fail
          go_quiet (fail)
          go_wp2
          go_ret2
          rw [HE.out]
          exact ⟨rfl, ⟨HB3.out.os, HB3.out.tape, HB3.out.output, HB3.out.size, HB3.out.block⟩⟩
end Go.Proofs.YtechkkphbajmoaaGreatDoor
/- code: the height that an instruction leaves. -/
namespace Go.Proofs.YtechkkphbajmoaaGreatDoor
open Go.RowKit Go.Shelf

set_option maxRecDepth 100000 in
set_option maxHeartbeats 4000000 in
theorem cLeave_any (S : Nat → Prop) (c : Cd) (bs bh bu bi bv : Option Addr) (ns cs nh ch nu cu ni ci nv cv : Nat) (m : Int) (u : Un) (x : In7) (h : Int) (w : World) (hsh : shapesIn S w (.slice bh nh ch) c.shapes) (hun : unitsIn S w (.slice bu nu cu) c.units) (ht : OpT w) (hok : InsOk c x)
    (hh : 0 ≤ h ∧ h ≤ 1048576) (ht1 : 0 ≤ (effR c x).1 ∧ (effR c x).1 ≤ 1048576) (hp1 : 0 ≤ (effR c x).2 ∧ (effR c x).2 ≤ 1048576) :
    Calls Tryz.prog 66 #[cdV (.slice bs ns cs) (.slice bh nh ch) (.slice bu nu cu) m, unV u (.slice bi ni ci) (.slice bv nv cv), inV x, .int .i64 h] w fun e w' => e = .returned (.tuple #[.int .i64 (leaveR c u.stack x h).1, .bool (leaveR c u.stack x h).2]) ∧ Below w.heap.size w w' := by
  obtain ⟨name, params, slots, stack, result, ins, vars⟩ := u
  obtain ⟨op, a⟩ := x
  simp only
  obtain ⟨w3, hw3, hb3, HZ3, hbc, hbu, hbi⟩ := box3 w (.cells #[.slice bs ns cs, .slice bh nh ch, .slice bu nu cu, .int .i64 m] 26) (.cells #[.string (strB name), .int .i64 params, .int .i64 slots, .int .i64 stack, .bool result, .slice bi ni ci, .slice bv nv cv] 58) (.cells #[.int .i64 op, .int .i64 a] 62)
  have HW3 : Hid (w3 = ((w.alloc (.cells #[.slice bs ns cs, .slice bh nh ch, .slice bu nu cu, .int .i64 m] 26)).alloc (.cells #[.string (strB name), .int .i64 params, .int .i64 slots, .int .i64 stack, .bool result, .slice bi ni ci, .slice bv nv cv] 58)).alloc (.cells #[.int .i64 op, .int .i64 a] 62)) := hw3
  have HB3 : Hid (Below w.heap.size w w3) := hb3
  have ce := cEffect_any S c bs bh bu ns cs nh ch nu cu m ⟨op, a⟩ w3 (rowIn.kept hsh (shE_keeps S) hb3.size fun q _ hq => hb3.block q hq) (rowIn.kept hun (unE_keeps S) hb3.size fun q _ hq => hb3.block q hq) (ht.below hb3 (Nat.le_refl _)) hok
  have HF : Hid (∀ W, Below w3.heap.size w3 W → W.cell? ⟨w.heap.size + 1, 3, none⟩ = some (.int .i64 stack) ∧ W.cell? ⟨w.heap.size + 2, 0, none⟩ = some (.int .i64 op) ∧ W.cell? ⟨w.heap.size + 2, 1, none⟩ = some (.int .i64 a)) := fun W hW => by
    have hz := HZ3.out
    exact ⟨(cells7 ((hW.block (w.heap.size + 1) (by omega)).trans hbu)).2.2.2.1, bcells2 ((hW.block (w.heap.size + 2) (by omega)).trans hbi)⟩
  obtain ⟨R, hR⟩ : ∃ R, R = leaveR c stack ⟨op, a⟩ h := ⟨_, rfl⟩
  rw [← hR]
  obtain ⟨tk, htk⟩ : ∃ tk, tk = (effR c ⟨op, a⟩).1 := ⟨_, rfl⟩
  obtain ⟨pu, hpu⟩ : ∃ pu, pu = (effR c ⟨op, a⟩).2 := ⟨_, rfl⟩
  have hR2 : R = if (h < tk ∨ stack < h - tk + pu ∨ (op = 0 ∧ h ≠ 0) ∨ (op = 23 ∧ h ≠ a)) then (0, false) else (h - tk + pu, true) := by
    rw [hR, htk, hpu]
    unfold leaveR LeaveBad
    rfl
  rw [← htk] at ce ht1
  rw [← hpu] at ce hp1
  have t0 : 0 ≤ tk := ht1.1
  have t1 : tk ≤ 1048576 := ht1.2
  have p0 : 0 ≤ pu := hp1.1
  have p1 : pu ≤ 1048576 := hp1.2
  have h0 : 0 ≤ h := hh.1
  have h1 : h ≤ 1048576 := hh.2
  clear hw3 hb3 hbc hbu hbi hsh hun ht hok HZ3 ht1 hp1 hh htk hpu hR
  have done : ∀ (e : Int) (f : Bool), R = (e, f) → True := fun _ _ _ => trivial
  clear done
  by_cases b1 : h < tk
  · have HR : Hid (R = (0, false)) := by rw [hR2, if_pos (.inl b1)]; exact rfl
    clear hR2
    go_enter Tryz.func66, Tryz.ntmps66
    go_wp2_with fail
    rw [← HW3.out]
    refine ce.mono ?_
    clear ce
    rintro e w4 ⟨rfl, hb4⟩
    obtain ⟨a3, a0, a1⟩ := HF.out w4 hb4
    have HB4 : Hid (Below w.heap.size w w4) := HB3.out.trans (hb4.mono HB3.out.size)
    clear hb4
    go_wp2
    go_ret2
    rw [HR.out]
    exact ⟨rfl, HB4.out⟩
  obtain ⟨left, hleft⟩ : ∃ left, left = h - tk + pu := ⟨_, rfl⟩
  have HLF : Hid (left = h - tk + pu) := hleft
  by_cases b2 : stack < h - tk + pu
  · have HR : Hid (R = (0, false)) := by rw [hR2, if_pos (.inr (.inl b2))]; exact rfl
    clear hR2 hleft
    go_enter Tryz.func66, Tryz.ntmps66
    go_wp2_with fail
    rw [← HW3.out]
    refine ce.mono ?_
    clear ce
    rintro e w4 ⟨rfl, hb4⟩
    obtain ⟨a3, a0, a1⟩ := HF.out w4 hb4
    have HB4 : Hid (Below w.heap.size w w4) := HB3.out.trans (hb4.mono HB3.out.size)
    clear hb4
    go_wp2
    go_ret2
    rw [HR.out]
    exact ⟨rfl, HB4.out⟩
  by_cases b3 : op = 0
  · subst b3
    by_cases b4 : h = 0
    · subst b4
      have HR : Hid (R = (0 - tk + pu, true)) := by rw [hR2, if_neg (by omega)]; exact rfl
      clear hR2 hleft
      go_enter Tryz.func66, Tryz.ntmps66
      go_wp2_with fail
      rw [← HW3.out]
      refine ce.mono ?_
      clear ce
      rintro e w4 ⟨rfl, hb4⟩
      obtain ⟨a3, a0, a1⟩ := HF.out w4 hb4
      have HB4 : Hid (Below w.heap.size w w4) := HB3.out.trans (hb4.mono HB3.out.size)
      clear hb4
      go_wp2
      go_ret2
      rw [HR.out]
      exact ⟨by simp, HB4.out⟩
    · have HR : Hid (R = (0, false)) := by rw [hR2, if_pos (.inr (.inr (.inl ⟨rfl, b4⟩)))]; exact rfl
      have hb4e : (h == 0) = false := by rw [beq_eq_false_iff_ne]; exact b4
      clear hR2 hleft
      go_enter Tryz.func66, Tryz.ntmps66
      go_wp2_with fail
      rw [← HW3.out]
      refine ce.mono ?_
      clear ce
      rintro e w4 ⟨rfl, hb4⟩
      obtain ⟨a3, a0, a1⟩ := HF.out w4 hb4
      have HB4 : Hid (Below w.heap.size w w4) := HB3.out.trans (hb4.mono HB3.out.size)
      clear hb4
      go_wp2
      go_ret2
      rw [HR.out]
      exact ⟨rfl, HB4.out⟩
  have hb3e : (op == 0) = false := by rw [beq_eq_false_iff_ne]; exact b3
  by_cases b5 : op = 23
  · subst b5
    by_cases b6 : h = a
    · subst b6
      have HR : Hid (R = (h - tk + pu, true)) := by rw [hR2, if_neg (by omega)]; exact rfl
      clear hR2 hleft b3
      go_enter Tryz.func66, Tryz.ntmps66
      go_wp2_with fail
      rw [← HW3.out]
      refine ce.mono ?_
      clear ce
      rintro e w4 ⟨rfl, hb4⟩
      obtain ⟨a3, a0, a1⟩ := HF.out w4 hb4
      have HB4 : Hid (Below w.heap.size w w4) := HB3.out.trans (hb4.mono HB3.out.size)
      clear hb4
      go_wp2
      go_ret2
      rw [HR.out]
      exact ⟨rfl, HB4.out⟩
    · have HR : Hid (R = (0, false)) := by rw [hR2, if_pos (.inr (.inr (.inr ⟨rfl, b6⟩)))]; exact rfl
      have hb6e : (h == a) = false := by rw [beq_eq_false_iff_ne]; exact b6
      clear hR2 hleft b3
      go_enter Tryz.func66, Tryz.ntmps66
      go_wp2_with fail
      rw [← HW3.out]
      refine ce.mono ?_
      clear ce
      rintro e w4 ⟨rfl, hb4⟩
      obtain ⟨a3, a0, a1⟩ := HF.out w4 hb4
      have HB4 : Hid (Below w.heap.size w w4) := HB3.out.trans (hb4.mono HB3.out.size)
      clear hb4
      go_wp2
      go_ret2
      rw [HR.out]
      exact ⟨rfl, HB4.out⟩
  have hb5e : (op == 23) = false := by rw [beq_eq_false_iff_ne]; exact b5
  have HR : Hid (R = (h - tk + pu, true)) := by rw [hR2, if_neg (by omega)]; exact rfl
  clear hR2 hleft b3 b5
  go_enter Tryz.func66, Tryz.ntmps66
  go_wp2_with fail
  rw [← HW3.out]
  refine ce.mono ?_
  clear ce
  rintro e w4 ⟨rfl, hb4⟩
  obtain ⟨a3, a0, a1⟩ := HF.out w4 hb4
  have HB4 : Hid (Below w.heap.size w w4) := HB3.out.trans (hb4.mono HB3.out.size)
  clear hb4
  go_wp2
  go_ret2
  rw [HR.out]
  exact ⟨rfl, HB4.out⟩
end Go.Proofs.YtechkkphbajmoaaGreatDoor
/- code: what comes behind an instruction. -/
namespace Go.Proofs.YtechkkphbajmoaaGreatDoor
open Go.RowKit Go.Shelf

def natE (w : World) (b o : Nat) (x : Nat) : Prop := w.cell? ⟨b, o, none⟩ = some (.int .i64 (x : Int))
/-- A row of numbers is handed back, in new memory. -/
def RetNats (N : Nat) (e : Ending) (w' : World) (l : List Nat) : Prop := ∃ v, e = .returned v ∧ rowIn (fun b => N ≤ b) w' v 1 natE l

theorem nats_one {w : World} {N : Nat} {a : Nat} {ty : TypeId} (h : w.heap[N]? = some (.cells #[.int .i64 (a : Int)] ty (0, 0))) {M : Nat} (hM : M ≤ N) : rowIn (fun b => M ≤ b) w (.slice (some ⟨N, 0, none⟩) 1 1) 1 natE [a] :=
  ⟨some ⟨N, 0, none⟩, 1, rfl, Nat.le_refl _, by decide, .inr ⟨N, 0, rfl, hM, heap_lt h, fun j hj => by
    have : j = 0 := by simp at hj; exact hj
    subst this
    show w.cell? ⟨N, 0, none⟩ = _
    simp only [World.cell?, h]; rfl⟩⟩
theorem nats_two {w : World} {N : Nat} {a b : Nat} {ty : TypeId} (h : w.heap[N]? = some (.cells #[.int .i64 (a : Int), .int .i64 (b : Int)] ty (0, 0))) {M : Nat} (hM : M ≤ N) : rowIn (fun b => M ≤ b) w (.slice (some ⟨N, 0, none⟩) 2 2) 1 natE [a, b] :=
  ⟨some ⟨N, 0, none⟩, 2, rfl, Nat.le_refl _, by decide, .inr ⟨N, 0, rfl, hM, heap_lt h, fun j hj => by
    have : j = 0 ∨ j = 1 := by simp at hj; omega
    rcases this with rfl | rfl
    · show w.cell? ⟨N, 0, none⟩ = _
      simp only [World.cell?, h]; rfl
    · show w.cell? ⟨N, 1, none⟩ = _
      simp only [World.cell?, h]; rfl⟩⟩

set_option maxRecDepth 100000 in
set_option maxHeartbeats 4000000 in
theorem cBehind_any (i : Nat) (x : In7) (w : World) (hi : i ≤ 1048576) (ha : x.op = 20 ∨ x.op = 21 → 0 ≤ x.a) :
    Calls Tryz.prog 67 #[.int .i64 i, inV x] w fun e w' => RetNats w.heap.size e w' (behindR i x) ∧ Below w.heap.size w w' := by
  obtain ⟨op, a⟩ := x
  obtain ⟨L, hL⟩ : ∃ L, L = behindR i ⟨op, a⟩ := ⟨_, rfl⟩
  rw [← hL]
  have hiI : (i : Int) ≤ 1048576 := by omega
  have hi0 : (0 : Int) ≤ i := by omega
  simp only at ha
  by_cases o20 : op = 20
  · subst o20
    obtain ⟨n, rfl⟩ : ∃ n : Nat, a = n := ⟨a.toNat, by have := ha (.inl rfl); omega⟩
    have HL : Hid (L = [n]) := by rw [hL]; show _ = _; simp [behindR]
    obtain ⟨w2, hw2, hb2, -, -, h1⟩ := box2 w (.cells #[.int .i64 20, .int .i64 n] 62) (.cells #[.int .i64 n] 3)
    have HB : Hid (Below w.heap.size w ((w.alloc (.cells #[.int .i64 20, .int .i64 n] 62)).alloc (.cells #[.int .i64 n] 3))) := hw2 ▸ hb2
    have HR : Hid (rowIn (fun b => w.heap.size ≤ b) ((w.alloc (.cells #[.int .i64 20, .int .i64 n] 62)).alloc (.cells #[.int .i64 n] 3)) (.slice (some ⟨w.heap.size + 1, 0, none⟩) 1 1) 1 natE [n]) := hw2 ▸ nats_one h1 (by omega)
    clear hw2 hb2 h1 hL ha
    go_enter Tryz.func67, Tryz.ntmps67
    go_wp2
    go_ret
    rw [HL.out]
    exact ⟨⟨_, rfl, HR.out⟩, HB.out⟩
  have hb20 : (op == 20) = false := by rw [beq_eq_false_iff_ne]; exact o20
  by_cases o21 : op = 21
  · subst o21
    obtain ⟨n, rfl⟩ : ∃ n : Nat, a = n := ⟨a.toNat, by have := ha (.inr rfl); omega⟩
    have HL : Hid (L = [i + 1, n]) := by rw [hL]; show _ = _; simp [behindR]
    obtain ⟨w2, hw2, hb2, -, -, h1⟩ := box2 w (.cells #[.int .i64 21, .int .i64 n] 62) (.cells #[.int .i64 ((i + 1 : Nat) : Int), .int .i64 n] 3)
    have HB : Hid (Below w.heap.size w ((w.alloc (.cells #[.int .i64 21, .int .i64 n] 62)).alloc (.cells #[.int .i64 ((i : Int) + 1), .int .i64 n] 3))) := by
      have := hw2 ▸ hb2
      rw [Int.natCast_add] at this
      exact this
    have HR : Hid (rowIn (fun b => w.heap.size ≤ b) ((w.alloc (.cells #[.int .i64 21, .int .i64 n] 62)).alloc (.cells #[.int .i64 ((i : Int) + 1), .int .i64 n] 3)) (.slice (some ⟨w.heap.size + 1, 0, none⟩) 2 2) 1 natE [i + 1, n]) := by
      have := hw2 ▸ nats_two h1 (M := w.heap.size) (by omega)
      rw [Int.natCast_add] at this
      exact this
    clear hw2 hb2 h1 hL ha o20
    go_enter Tryz.func67, Tryz.ntmps67
    go_wp2
    go_ret
    rw [HL.out]
    exact ⟨⟨_, rfl, HR.out⟩, HB.out⟩
  have hb21 : (op == 21) = false := by rw [beq_eq_false_iff_ne]; exact o21
  by_cases o23 : op = 23
  · subst o23
    have HL : Hid (L = []) := by rw [hL]; show _ = _; simp [behindR]
    have HB : Hid (Below w.heap.size w (w.alloc (.cells #[.int .i64 23, .int .i64 a] 62))) := (Below.refl _ _).alloc (Nat.le_refl _) _
    clear hL ha o20 o21
    go_enter Tryz.func67, Tryz.ntmps67
    go_wp2
    go_ret
    rw [HL.out]
    exact ⟨⟨_, rfl, none, 0, rfl, Nat.le_refl _, by decide, .inl rfl⟩, HB.out⟩
  have hb23 : (op == 23) = false := by rw [beq_eq_false_iff_ne]; exact o23
  have HL : Hid (L = [i + 1]) := by rw [hL]; show _ = _; simp [behindR, o20, o21, o23]
  obtain ⟨w2, hw2, hb2, -, -, h1⟩ := box2 w (.cells #[.int .i64 op, .int .i64 a] 62) (.cells #[.int .i64 ((i + 1 : Nat) : Int)] 3)
  have HB : Hid (Below w.heap.size w ((w.alloc (.cells #[.int .i64 op, .int .i64 a] 62)).alloc (.cells #[.int .i64 ((i : Int) + 1)] 3))) := by
    have := hw2 ▸ hb2
    rw [Int.natCast_add] at this
    exact this
  have HR : Hid (rowIn (fun b => w.heap.size ≤ b) ((w.alloc (.cells #[.int .i64 op, .int .i64 a] 62)).alloc (.cells #[.int .i64 ((i : Int) + 1)] 3)) (.slice (some ⟨w.heap.size + 1, 0, none⟩) 1 1) 1 natE [i + 1]) := by
    have := hw2 ▸ nats_one h1 (M := w.heap.size) (by omega)
    rw [Int.natCast_add] at this
    exact this
  clear hw2 hb2 h1 hL ha o20 o21 o23
  go_enter Tryz.func67, Tryz.ntmps67
  go_wp2
  go_ret
  rw [HL.out]
  exact ⟨⟨_, rfl, HR.out⟩, HB.out⟩
end Go.Proofs.YtechkkphbajmoaaGreatDoor
/- code: which instructions are reached, and at which heights: what the walk needs. -/
namespace Go.Proofs.YtechkkphbajmoaaGreatDoor
open Go.RowKit Go.Shelf Go.Maps

theorem und_map : Tryz.prog.underlying 64 = some (.map 3 3) := by kernel_rfl
theorem und_int : Tryz.prog.underlying 3 = some (.int .i64) := by kernel_rfl
theorem und_ints : Tryz.prog.underlying 29 = some (.slice 3) := by kernel_rfl
theorem zero_int (w : World) : (zeroValue 3).run Tryz.prog w = .ok (.int .i64 0) w := by kernel_rfl
theorem law_int : Keyed Tryz.prog 3 := int_keyed und_int
theorem info_int : (Tryz.prog.info? 3).map (fun i => (i.zero, i.size, i.bytes)) = some (some (.int .i64 0), 1, 8) := by kernel_rfl

theorem wf_nat {i : Nat} (h : i ≤ 1048577) : (Lit.int .i64 (i : Int)).wf = true := WalkArith.wf_i64 (by omega)
theorem key_nat {i : Nat} (h : i ≤ 1048577) : keyOf Tryz.prog 3 (.int .i64 (i : Int)) = some (.int .i64 (i : Int)) := keyOf_int_mk und_int (wf_nat h)

/-- A map of heights, as read, is this one. -/
def MapIs (D : DataW Unit) (m : Nat → Option Int) : Prop := IsMap D ∧ ∀ i : Nat, Maps.has D (.int .i64 (i : Int)) = (m i).isSome ∧ ∀ h, m i = some h → D.atKey (.int .i64 (i : Int)) (.lit (.int .i64 0)) = .lit (.int .i64 h)
theorem MapIs.put {D : DataW Unit} {m : Nat → Option Int} (h : MapIs D m) (n : Nat) (v : Int) : MapIs (D.put (.int .i64 (n : Int)) (.lit (.int .i64 v))) (fun j => if j = n then some v else m j) := by
  refine ⟨h.1.put _ _, fun i => ?_⟩
  dsimp only
  by_cases e : i = n
  · subst e
    rw [if_pos rfl]
    refine ⟨has_put_same h.1 (k := .int .i64 (i : Int)) trivial _, fun w hw => ?_⟩
    cases hw
    exact atKey_put_same h.1 (k := .int .i64 (i : Int)) trivial _ _
  · rw [if_neg e]
    have hne : (Lit.int .i64 (i : Int)) ≠ .int .i64 (n : Int) := fun hh => e (by injection hh with _ h2; omega)
    exact ⟨(has_put_other hne _).trans (h.2 i).1, fun w hw => (atKey_put_other hne _ _).trans ((h.2 i).2 w hw)⟩
theorem MapIs.empty : MapIs (.map []) (fun _ => none) := ⟨⟨[], rfl⟩, fun i => ⟨rfl, fun h e => by cases e⟩⟩
theorem MapIs.start : MapIs ((DataW.map []).put (.int .i64 0) (.lit (.int .i64 0))) (fun i => if i = 0 then some 0 else none) := by
  have := MapIs.empty.put 0 0
  exact this

/-- Numbers as cells. -/
def natC (l : List Nat) : List Value := l.map fun (i : Nat) => Value.int .i64 (i : Int)
theorem natC_len (l : List Nat) : (natC l).length = l.length := List.length_map _
theorem natC_snoc (l : List Nat) (n : Nat) : natC (l ++ [n]) = natC l ++ [.int .i64 (n : Int)] := by simp [natC]
theorem own_pop {w : World} {B e g cap n : Nat} {l : List Nat} {i : Nat} (h : w.ownsRow B e 1 (.slice (some ⟨g, 0, none⟩) n cap) (l ++ [i]).length (natC (l ++ [i]))) : w.ownsRow B e 1 (.slice (some ⟨g, 0, none⟩) l.length cap) l.length (natC l) := by
  obtain ⟨h1, h2⟩ := h
  rcases h2 with ⟨h0, _⟩ | ⟨g', cap', cur, hv, hg, hh, hn, hcap, hsz, htake⟩
  · cases h0
  · cases hv
    rw [List.length_append] at hn htake
    refine ⟨by rw [natC_len]; omega, .inr ⟨g, cap, cur, rfl, hg, hh, by omega, hcap, hsz, ?_⟩⟩
    have h3 : (cur.toList.take ((l.length + [i].length) * 1)).take (l.length * 1) = (natC (l ++ [i])).take (l.length * 1) := by rw [htake]
    rw [List.take_take, Nat.min_eq_left (by omega)] at h3
    rw [h3, natC_snoc, Nat.mul_one, ← natC_len l]
    exact List.take_left
theorem own_last {w : World} {B e g cap n : Nat} {l : List Nat} {i : Nat} (h : w.ownsRow B e 1 (.slice (some ⟨g, 0, none⟩) n cap) (l ++ [i]).length (natC (l ++ [i]))) : w.cell? ⟨g, l.length, none⟩ = some (.int .i64 (i : Int)) := by
  have := h.cells (g := g) rfl l.length (.int .i64 (i : Int)) (by rw [natC_snoc, ← natC_len l]; simp)
  by_cases hl : l = []
  · subst hl
    simpa [Addr.add] using this
  · simpa [Addr.add, hl] using this
theorem own_shape {w : World} {B e : Nat} {v : Value} {l : List Nat} {i : Nat} (h : w.ownsRow B e 1 v (l ++ [i]).length (natC (l ++ [i]))) : ∃ g cap, v = .slice (some ⟨g, 0, none⟩) (l.length + 1) cap ∧ B ≤ g ∧ g < w.heap.size ∧ l.length + 1 ≤ cap ∧ cap ≤ maxLen := by
  rcases h.2 with ⟨h0, h1⟩ | ⟨g, cap, cur, hv, hg, hh, hn, hcap, -⟩
  · rw [List.length_append] at h1; simp at h1
  · rw [List.length_append] at hv hn
    exact ⟨g, cap, hv, hg, heap_lt hh, hn, hcap⟩
theorem own_none {w : World} {B e : Nat} {v : Value} (h : w.ownsRow B e 1 v 0 (natC [])) : ∃ base cap, v = .slice base 0 cap := by
  rcases h.2 with ⟨h0, h1⟩ | ⟨g, cap, cur, hv, -⟩
  · exact ⟨none, 0, h0⟩
  · exact ⟨_, _, hv⟩
theorem own_fresh0 (w : World) : (w.alloc (.cells #[.int .i64 0] 3)).ownsRow w.heap.size 3 1 (.slice (some ⟨w.heap.size, 0, none⟩) 1 1) [0].length (natC [0]) :=
  ⟨rfl, .inr ⟨w.heap.size, 1, #[.int .i64 0], rfl, Nat.le_refl _, World.alloc_heap_new _ _, Nat.le_refl _, by decide, rfl, rfl⟩⟩

theorem own_base0' {w : World} {B C e sz n : Nat} {v : Value} {xs : List Value} (h : w.ownsRow B e sz v n xs) (hC : C ≤ B) : w.ownsRow C e sz v n xs := by
  obtain ⟨h1, h2⟩ := h
  refine ⟨h1, ?_⟩
  rcases h2 with h2 | ⟨g, cap, cur, hv, hg, h3⟩
  · exact .inl h2
  · exact .inr ⟨g, cap, cur, hv, Nat.le_trans hC hg, h3⟩

/-- Each instruction is as a right code has it. -/
def InsAll (c : Cd) (u : Un) : Prop := ∀ x ∈ u.ins, InsOk c x ∧ (x.op = 20 ∨ x.op = 21 → 0 ≤ x.a ∧ x.a < (u.ins.length : Int)) ∧ (0 ≤ (effR c x).1 ∧ (effR c x).1 ≤ 1048576) ∧ 0 ≤ (effR c x).2 ∧ (effR c x).2 ≤ 1048576

theorem rch_range {c : Cd} {u : Un} (ha : InsAll c u) (hs : 0 ≤ u.stack ∧ u.stack ≤ 256) {i : Nat} {h : Int} (hr : Rch c u i h) : 0 ≤ h ∧ h ≤ 256 := by
  cases hr with
  | zero => omega
  | @step i n hh left x hr hx hl hn =>
    have hx' := ha x (List.mem_of_getElem? hx)
    unfold leaveR at hl
    split at hl
    · cases hl
    · rename_i hb
      unfold LeaveBad at hb
      simp only [Prod.mk.injEq, and_true] at hl
      have := hx'.2.2
      omega
theorem behind_le {c : Cd} {u : Un} (ha : InsAll c u) {i : Nat} {x : In7} (hx : u.ins[i]? = some x) {n : Nat} (hn : n ∈ behindR i x) : n ≤ u.ins.length := by
  have hi : i < u.ins.length := (List.getElem?_eq_some_iff.1 hx).1
  have hx' := (ha x (List.mem_of_getElem? hx)).2.1
  unfold behindR at hn
  split at hn
  · rename_i h
    simp at hn
    have := hx' (.inl h)
    omega
  · split at hn
    · rename_i h
      simp at hn
      have := hx' (.inr h)
      omega
    · split at hn
      · simp at hn
      · simp at hn; omega
theorem behind_few (i : Nat) (x : In7) : (behindR i x).length ≤ 2 := by
  unfold behindR
  split
  · simp
  · split
    · simp
    · split <;> simp

/-- What reach hands back. -/
def ReachRet (N : Nat) (c : Cd) (u : Un) (e : Ending) (w' : World) : Prop :=
  (RightH c u ∧ ∃ B m D n, e = .returned (.tuple #[.map (some B), .bool true]) ∧ N ≤ B ∧ w'.ownsMap Tryz.prog 3 (plainElem Tryz.prog 3) B n D ∧ MapIs D m ∧ ∀ i h, m i = some h ↔ Rch c u i h) ∨ (¬ RightH c u ∧ e = .returned (.tuple #[.map none, .bool false]))

/-- Between two rounds. -/
structure ReachJ (c : Cd) (u : Un) (MB : Nat) (w2 : World) (v : Value) (wr : World) (done todo : List Nat) (m : Nat → Option Int) (D : DataW Unit) : Prop where
  inv : RInv c u m done todo
  map : wr.ownsMap Tryz.prog 3 (plainElem Tryz.prog 3) MB (done.length + todo.length) D
  is : MapIs D m
  row : wr.ownsRow (MB + 1) 3 1 v todo.length (natC todo)
  below : Below MB w2 wr
/-- Within a round. -/
structure ReachK (c : Cd) (u : Un) (MB : Nat) (w2 : World) (v : Value) (wr : World) (done todo : List Nat) (m : Nat → Option Int) (D : DataW Unit) (i : Nat) (x : In7) (left : Int) (base : Option Addr) (cap : Nat) (L : List Nat) (k : Nat) : Prop where
  mid : RMid c u m done todo i x left (L.drop k)
  map : wr.ownsMap Tryz.prog 3 (plainElem Tryz.prog 3) MB (done.length + 1 + todo.length) D
  is : MapIs D m
  row : wr.ownsRow (MB + 1) 3 1 v todo.length (natC todo)
  below : Below MB w2 wr
  nx : rowIn (fun b => MB < b) wr (.slice base L.length cap) 1 natE L
  apart : L ≠ [] → ∀ g, v.ownBlock = some g → ∀ a, base = some a → a.block ≠ g
theorem own_to {w w' : World} {B e n : Nat} {v : Value} {xs : List Value} (h : w.ownsRow B e 1 v n xs) (hb : ∀ k, v.ownBlock = some k → w'.heap[k]? = w.heap[k]?) : w'.ownsRow B e 1 v n xs := by
  obtain ⟨h1, h2⟩ := h
  refine ⟨h1, ?_⟩
  rcases h2 with h2 | ⟨g, cap, cur, hv, hg, hh, h3⟩
  · exact .inl h2
  · exact .inr ⟨g, cap, cur, hv, hg, (hb g (by rw [hv]; rfl)).trans hh, h3⟩
theorem map_to {w w' : World} {b n : Nat} {D : DataW Unit} {k e : TypeId} (h : w.ownsMap Tryz.prog k (plainElem Tryz.prog e) b n D) (hb : w'.heap[b]? = w.heap[b]?) : w'.ownsMap Tryz.prog k (plainElem Tryz.prog e) b n D := by
  obtain ⟨es, clock, h1, h2⟩ := h
  exact ⟨es, clock, hb.trans h1, h2⟩
theorem nats_to {S : Nat → Prop} {w w' : World} {base : Option Addr} {n cap : Nat} {l : List Nat} (h : rowIn S w (.slice base n cap) 1 natE l) (hs : w.heap.size ≤ w'.heap.size) (hb : ∀ a, base = some a → S a.block → w'.heap[a.block]? = w.heap[a.block]?) : rowIn S w' (.slice base n cap) 1 natE l := by
  obtain ⟨b1, c1, hv, h1, h2, h3⟩ := h
  cases hv
  refine ⟨base, cap, rfl, h1, h2, ?_⟩
  rcases h3 with h3 | ⟨b, o, e, hS, hlt, hc⟩
  · exact .inl h3
  · exact .inr ⟨b, o, e, hS, Nat.lt_of_lt_of_le hlt hs, fun j hj => (World.cell?_of_block (w := w) (w' := w') (a := ⟨b, o + j * 1, none⟩) (hb ⟨b, o, none⟩ e hS)).trans (hc j hj)⟩
/-- What comes next is noted already. -/
theorem ReachK.again {c : Cd} {u : Un} {MB : Nat} {w2 : World} {v : Value} {wr : World} {done todo : List Nat} {m : Nat → Option Int} {D : DataW Unit} {i : Nat} {x : In7} {left : Int} {base : Option Addr} {cap : Nat} {L : List Nat} {k : Nat} (h : ReachK c u MB w2 v wr done todo m D i x left base cap L k) (hk : k < L.length) (hm : m L[k] = some left) : ReachK c u MB w2 v wr done todo m D i x left base cap L (k + 1) := by
  have hd : L.drop k = L[k] :: L.drop (k + 1) := List.drop_eq_getElem_cons hk
  have := h.mid
  rw [hd] at this
  exact ⟨this.again hm, h.map, h.is, h.row, h.below, h.nx, h.apart⟩
/-- It is new: it is noted, and to be done. -/
theorem ReachK.new {c : Cd} {u : Un} {MB : Nat} {w2 : World} {v v' : Value} {wr w3 w4 w5 : World} {done todo : List Nat} {m : Nat → Option Int} {D : DataW Unit} {i : Nat} {x : In7} {left : Int} {base : Option Addr} {cap : Nat} {L : List Nat} {k : Nat} (h : ReachK c u MB w2 v wr done todo m D i x left base cap L k) (hk : k < L.length) (hlt : L[k] < u.ins.length) (hm : m L[k] = none) (hMB : MB < wr.heap.size)
    (h3 : w3.ownsMap Tryz.prog 3 (plainElem Tryz.prog 3) MB (done.length + 1 + todo.length + 1) (D.put (.int .i64 (L[k] : Int)) (.lit (.int .i64 left)))) (g3 : wr.grownBy w3 (some MB))
    (h4 : w4 = w3.alloc (.cells #[.int .i64 (L[k] : Int)] 3)) (h5 : w5.ownsRow (MB + 1) 3 1 v' (todo.length + 1) (natC todo ++ [.int .i64 (L[k] : Int)])) (g5 : w4.grownBy w5 v.ownBlock) (hloc : v'.ownBlock = v.ownBlock ∨ v'.ownBlock = some w4.heap.size) :
    ReachK c u MB w2 v' w5 done (todo ++ [L[k]]) (fun j => if j = L[k] then some left else m j) (D.put (.int .i64 (L[k] : Int)) (.lit (.int .i64 left))) i x left base cap L (k + 1) := by
  have hd : L.drop k = L[k] :: L.drop (k + 1) := List.drop_eq_getElem_cons hk
  have hmid := h.mid
  rw [hd] at hmid
  have hs3 := g3.size
  have hs4 : w4.heap.size = w3.heap.size + 1 := by rw [h4]; simp
  have hs5 := g5.size
  have hvlt := h.row.lt
  have hkeep : ∀ q, q < wr.heap.size → q ≠ MB → v.ownBlock ≠ some q → w5.heap[q]? = wr.heap[q]? := fun q hq hne hv => by
    rw [g5.block q (by omega) (fun e => hv e.symm), h4, Below.heap_alloc _ _ _ (by omega), g3.block q hq (by simpa using hne)]
  refine ⟨hmid.new hlt hm, ?_, h.is.put _ _, ?_, ?_, ?_, ?_⟩
  · have : done.length + 1 + (todo ++ [L[k]]).length = done.length + 1 + todo.length + 1 := by rw [List.length_append]; rfl
    rw [this]
    refine map_to h3 ?_
    rw [g5.block MB (by omega) (fun e => by have := hvlt MB e.symm; omega), h4, Below.heap_alloc _ _ _ (by omega)]
  · rw [natC_snoc, List.length_append]
    exact h5
  · refine ⟨g5.os.trans ?_, g5.tape.trans ?_, g5.output.trans ?_, ?_, fun q hq => ?_⟩
    · rw [h4]; exact g3.os.trans h.below.os
    · rw [h4]; exact g3.tape.trans h.below.tape
    · rw [h4]; exact g3.output.trans h.below.output
    · have := h.below.size; omega
    · exact (hkeep q (by omega) (by omega) (fun e => by have := hvlt q e; omega)).trans (h.below.block q hq)
  · refine nats_to h.nx (by omega) fun a ha hS => ?_
    have hnx := h.nx
    obtain ⟨b1, c1, hv, _, _, h3⟩ := hnx
    cases hv
    rcases h3 with h3 | ⟨b, o, e, _, hblt, _⟩
    · rw [h3] at hk; simp at hk
    · rw [ha] at e
      cases e
      exact hkeep b hblt (by have : MB < b := hS; omega) fun e => h.apart (by rintro rfl; simp at hk) b e _ ha rfl
  · intro hne g hg a ha
    rcases hloc with e | e
    · exact h.apart hne g (e ▸ hg) a ha
    · rw [e] at hg
      cases hg
      have hnx := h.nx
      obtain ⟨b1, c1, hv, _, _, h3⟩ := hnx
      cases hv
      rcases h3 with h3 | ⟨b, o, e2, _, hblt, _⟩
      · rw [h3] at hk; simp at hk
      · rw [ha] at e2
        cases e2
        show b ≠ _
        omega
end Go.Proofs.YtechkkphbajmoaaGreatDoor
/- code: which instructions are reached, and at which heights. -/
namespace Go.Proofs.YtechkkphbajmoaaGreatDoor
open Go.RowKit Go.Shelf Go.Maps

set_option maxRecDepth 100000 in
set_option maxHeartbeats 8000000 in
theorem cReach_any (S : Nat → Prop) (c : Cd) (bs bh bu bi bv : Option Addr) (ns cs nh ch nu cu ni ci nv cv : Nat) (m0 : Int) (u : Un) (w : World) (hsh : shapesIn S w (.slice bh nh ch) c.shapes) (hun : unitsIn S w (.slice bu nu cu) c.units) (hii : insIn S w (.slice bi ni ci) u.ins) (ht : OpT w)
    (hall : InsAll c u) (hst : 0 ≤ u.stack ∧ u.stack ≤ 256) (hlen : 1 ≤ u.ins.length ∧ u.ins.length ≤ 4096) :
    Calls Tryz.prog 24 #[cdV (.slice bs ns cs) (.slice bh nh ch) (.slice bu nu cu) m0, unV u (.slice bi ni ci) (.slice bv nv cv)] w fun e w' => ReachRet w.heap.size c u e w' ∧ Below w.heap.size w w' := by
  obtain ⟨name, params, slots, stack, result, ins, vars⟩ := u
  obtain ⟨U, hU⟩ : ∃ U : Un, U = ⟨name, params, slots, stack, result, ins, vars⟩ := ⟨_, rfl⟩
  have HUI : Hid (U.ins = ins) := by rw [hU]; exact rfl
  have HUS : Hid (U.stack = stack) := by rw [hU]; exact rfl
  simp only at hst hlen hii
  obtain rfl : ni = ins.length := by obtain ⟨b, cc, e, -⟩ := hii.at; cases e; rfl
  show Calls Tryz.prog 24 #[cdV (.slice bs ns cs) (.slice bh nh ch) (.slice bu nu cu) m0, .agg #[.string (strB name), .int .i64 params, .int .i64 slots, .int .i64 stack, .bool result, .slice bi ins.length ci, .slice bv nv cv]] w fun e w' => ReachRet w.heap.size c ⟨name, params, slots, stack, result, ins, vars⟩ e w' ∧ Below w.heap.size w w'
  rw [← hU] at hall ⊢
  have HALL : Hid (InsAll c U) := hall
  have HST : Hid (0 ≤ U.stack ∧ U.stack ≤ 256) := by rw [HUS.out]; exact hst
  obtain ⟨hcap, hat⟩ : ins.length ≤ ci ∧ ∀ i (hi : i < ins.length), ∃ b o, bi = some ⟨b, o, none⟩ ∧ S b ∧ b < w.heap.size ∧ insE w b (o + i * 2) ins[i] := by
    obtain ⟨b, cc, e, h1, _, h⟩ := hii.at
    cases e
    exact ⟨h1, h⟩
  have HAT : Hid (∀ i (hi : i < ins.length), ∃ b o, bi = some ⟨b, o, none⟩ ∧ S b ∧ b < w.heap.size ∧ insE w b (o + i * 2) ins[i]) := hat
  have HLEN : Hid (1 ≤ ins.length ∧ ins.length ≤ 4096) := hlen
  have hl0 : (ins.length : Int) ≤ 4096 := by omega
  obtain ⟨w2, hw2, hb2, HZ2, h0, h1⟩ := box2 w (.cells #[.slice bs ns cs, .slice bh nh ch, .slice bu nu cu, .int .i64 m0] 26) (.cells #[.string (strB name), .int .i64 params, .int .i64 slots, .int .i64 stack, .bool result, .slice bi ins.length ci, .slice bv nv cv] 58)
  have HW2 : Hid (w2 = (w.alloc (.cells #[.slice bs ns cs, .slice bh nh ch, .slice bu nu cu, .int .i64 m0] 26)).alloc (.cells #[.string (strB name), .int .i64 params, .int .i64 slots, .int .i64 stack, .bool result, .slice bi ins.length ci, .slice bv nv cv] 58)) := hw2
  have HB2 : Hid (Below w.heap.size w w2) := hb2
  -- the boxes, and what they lead to, in every later world
  have HF : Hid (∀ W, Below w2.heap.size w2 W → (W.cell? ⟨w.heap.size, 0, none⟩ = some (.slice bs ns cs) ∧ W.cell? ⟨w.heap.size, 1, none⟩ = some (.slice bh nh ch) ∧ W.cell? ⟨w.heap.size, 2, none⟩ = some (.slice bu nu cu) ∧ W.cell? ⟨w.heap.size, 3, none⟩ = some (.int .i64 m0)) ∧
      (W.cell? ⟨w.heap.size + 1, 0, none⟩ = some (.string (strB name)) ∧ W.cell? ⟨w.heap.size + 1, 1, none⟩ = some (.int .i64 params) ∧ W.cell? ⟨w.heap.size + 1, 2, none⟩ = some (.int .i64 slots) ∧ W.cell? ⟨w.heap.size + 1, 3, none⟩ = some (.int .i64 stack) ∧ W.cell? ⟨w.heap.size + 1, 4, none⟩ = some (.bool result) ∧ W.cell? ⟨w.heap.size + 1, 5, none⟩ = some (.slice bi ins.length ci) ∧ W.cell? ⟨w.heap.size + 1, 6, none⟩ = some (.slice bv nv cv))) := fun W hW => by
    have hz := HZ2.out
    exact ⟨bcells4 ((hW.block w.heap.size (by omega)).trans h0), cells7 ((hW.block (w.heap.size + 1) (by omega)).trans h1)⟩
  have HL : Hid (∀ W (x : In7) (h : Int), Below w2.heap.size w2 W → x ∈ ins → 0 ≤ h ∧ h ≤ 256 → Calls Tryz.prog 66 #[.agg #[.slice bs ns cs, .slice bh nh ch, .slice bu nu cu, .int .i64 m0], .agg #[.string (strB name), .int .i64 params, .int .i64 slots, .int .i64 stack, .bool result, .slice bi ins.length ci, .slice bv nv cv], .agg #[.int .i64 x.op, .int .i64 x.a], .int .i64 h] W fun e w' => e = .returned (.tuple #[.int .i64 (leaveR c stack x h).1, .bool (leaveR c stack x h).2]) ∧ Below W.heap.size W w') := fun W x h hW hx hh => by
    have hWw : Below w.heap.size w W := hb2.trans (hW.mono hb2.size)
    have hx' := hall x (by rw [HUI.out]; exact hx)
    exact cLeave_any S c bs bh bu bi bv ns cs nh ch nu cu ins.length ci nv cv m0 ⟨name, params, slots, stack, result, ins, vars⟩ x h W (rowIn.kept hsh (shE_keeps S) hWw.size fun q _ hq => hWw.block q hq) (rowIn.kept hun (unE_keeps S) hWw.size fun q _ hq => hWw.block q hq) (ht.below hWw (Nat.le_refl _)) hx'.1 (by omega) hx'.2.2.1 hx'.2.2.2
  have hmm := @run_makeMap Tryz.prog
  -- the map with its first entry
  obtain ⟨w3, hrun3, hown3, hgrow3⟩ := (World.ownsMap_made w2 Tryz.prog 3 (plainElem (H := Unit) Tryz.prog 3)).update (t := 64) (e := 3) law_int und_map (by decide) (key := .int .i64 0) (val := .int .i64 0) (kl := .int .i64 0) (key_nat (i := 0) (by omega)) (plainElem_int und_int (wf_nat (i := 0) (by omega)))
  have hsz3 := hgrow3.size
  have hsz3' : w2.heap.size < w3.heap.size := by simp at hsz3; omega
  have HSZ3 : Hid (w2.heap.size < w3.heap.size) := hsz3'
  have HB3 : Hid (Below w2.heap.size w2 w3) := ((Below.refl _ _).alloc (Nat.le_refl _) _).grown hgrow3 (by simp) (fun k hk => by cases hk; exact Nat.le_refl _)
  obtain ⟨w4, hw4, hb4, HZ4, h4⟩ := box1 w3 (.cells #[.int .i64 0] 3)
  have HW4 : Hid (w4 = w3.alloc (.cells #[.int .i64 0] 3)) := hw4
  have HJ0 : Hid (ReachJ c U w2.heap.size w2 (.slice (some ⟨w3.heap.size, 0, none⟩) 1 1) w4 [] [0] (fun i => if i = 0 then some 0 else none) ((DataW.map []).put (.int .i64 0) (.lit (.int .i64 0)))) := by
    refine ⟨RInv.start c U (by rw [HUI.out]; omega), ?_, MapIs.start, ?_, ?_⟩
    · rw [hw4]
      exact hown3.alloc _
    · have := own_fresh0 w3
      rw [hw4]
      exact own_base0' this (by omega)
    · rw [hw4]
      exact HB3.out.alloc (by omega) _
  obtain ⟨i0, hinf, hz0, hz1, hz2⟩ := info_parts info_int
  clear hw2 hb2 h0 h1 hall hst hii hsh hun ht hat hown3 hgrow3 hsz3 hsz3' hw4 hb4 h4 HZ4 hU hlen
  go_enter Tryz.func24, Tryz.ntmps24
  go_upto_region 1 with fail
  rw [← HW2.out]
  go_upto_region 3 with fail
  rw [← HW4.out]
  go_loopg [7] ins.length (fun k v wr => ∃ done todo m D, k = ins.length - done.length ∧ ReachJ c U w2.heap.size w2 v wr done todo m D)
  case atStart => exact ⟨[], [0], _, _, rfl, HJ0.out⟩
  case round =>
    obtain ⟨done, todo, m, D, hk, hJ⟩ := hrel
    have HK : Hid (gk = ins.length - done.length) := hk
    have HBr : Hid (Below w2.heap.size w2 wr) := hJ.below
    have HBw : Hid (Below w.heap.size w wr) := HB2.out.trans (hJ.below.mono HB2.out.size)
    rcases List.eq_nil_or_concat todo with rfl | ⟨td, i, rfl⟩
    · obtain ⟨base, cap, rfl⟩ := own_none hJ.row
      have HJ : Hid (ReachJ c U w2.heap.size w2 (.slice base 0 cap) wr done [] m D) := hJ
      clear hk hJ hrun3 HJ0
      go_wp2
      go_ret2
      refine ⟨.inl ⟨HJ.out.inv.right, w2.heap.size, m, D, _, rfl, HB2.out.size, HJ.out.map, HJ.out.is, fun i h => ⟨HJ.out.inv.sound i h, HJ.out.inv.all i h⟩⟩, HBw.out⟩
    · rw [List.concat_eq_append] at hJ
      obtain ⟨g, cap, rfl, hg, hglt, hcap1, hcap2⟩ := own_shape hJ.row
      have hcell := own_last hJ.row
      obtain ⟨x, hh, hx, hm, hrch, hmid⟩ := hJ.inv.take
      have HJ : Hid (ReachJ c U w2.heap.size w2 (.slice (some ⟨g, 0, none⟩) (td.length + 1) cap) wr done (td ++ [i]) m D) := hJ
      rw [HUI.out] at hx
      have hil : i < ins.length := (List.getElem?_eq_some_iff.1 hx).1
      have hxe : ins[i] = x := (List.getElem?_eq_some_iff.1 hx).2
      obtain ⟨bi', oi, rfl, -, hbl, hc⟩ := HAT.out i hil
      rw [hxe] at hc
      have hcc : ∀ q, wr.cell? ⟨bi', q, none⟩ = w.cell? ⟨bi', q, none⟩ := fun q => below_cell HBw.out hbl
      obtain ⟨e0, e1⟩ := hc
      rw [← hcc] at e0 e1
      have hrange := rch_range HALL.out HST.out hrch
      obtain ⟨⟨c0, c1, c2, c3⟩, p0, p1, p2, p3, p4, p5, p6⟩ := HF.out wr HBr.out
      have hbox : w.heap.size + 2 ≤ wr.heap.size := by have := HZ2.out; have := HBr.out.size; omega
      have hil32 : i ≤ 1048577 := by have := HLEN.out; omega
      have hlk := fun (cc : Cls wr.heap.size wr) => (map_to HJ.out.map (cc.2.block w2.heap.size HJ.out.map.lt)).lookup_int law_int und_map und_int (zero_int cc.1) (key_nat hil32)
      have hlk2 : ∀ cc : Cls wr.heap.size wr, (Instr.lookup 64 (.map (some w2.heap.size)) (.int .i64 (i : Int)) false).run Tryz.prog cc.1 = .ok (.int .i64 hh) cc.1 := fun cc => by
        obtain ⟨v, h1, h2, -⟩ := hlk cc
        rw [(HJ.out.is.2 i).2 hh hm] at h2
        injection h2 with h3
        injection h3 with _ h4
        rw [h4]
        exact h1
      have z0 := cls_cell (n := wr.heap.size) c0 (by simp only; omega)
      have z1 := cls_cell (n := wr.heap.size) c1 (by simp only; omega)
      have z2 := cls_cell (n := wr.heap.size) c2 (by simp only; omega)
      have z3 := cls_cell (n := wr.heap.size) c3 (by simp only; omega)
      have y0 := cls_cell (n := wr.heap.size) p0 (by simp only; omega)
      have y1 := cls_cell (n := wr.heap.size) p1 (by simp only; omega)
      have y2 := cls_cell (n := wr.heap.size) p2 (by simp only; omega)
      have y3 := cls_cell (n := wr.heap.size) p3 (by simp only; omega)
      have y4 := cls_cell (n := wr.heap.size) p4 (by simp only; omega)
      have y5 := cls_cell (n := wr.heap.size) p5 (by simp only; omega)
      have y6 := cls_cell (n := wr.heap.size) p6 (by simp only; omega)
      have v0 := cls_cell (n := wr.heap.size) e0 (by have := HBw.out.size; simp only; omega)
      have v1 := cls_cell (n := wr.heap.size) e1 (by have := HBw.out.size; simp only; omega)
      obtain ⟨R, hR⟩ : ∃ R, R = leaveR c stack x hh := ⟨_, rfl⟩
      have HC : Hid (∀ W, Below wr.heap.size wr W → Calls Tryz.prog 66 #[.agg #[.slice bs ns cs, .slice bh nh ch, .slice bu nu cu, .int .i64 m0], .agg #[.string (strB name), .int .i64 params, .int .i64 slots, .int .i64 stack, .bool result, .slice (some ⟨bi', oi, none⟩) ins.length ci, .slice bv nv cv], .agg #[.int .i64 x.op, .int .i64 x.a], .int .i64 hh] W fun e w' => e = .returned (.tuple #[.int .i64 R.1, .bool R.2]) ∧ Below wr.heap.size wr w') := fun W hW => by
        rw [hR]
        exact (HL.out W x hh (HBr.out.trans (hW.mono HBr.out.size)) (hxe ▸ List.getElem_mem hil) hrange).mono fun e w' ⟨he, hb⟩ => ⟨he, hW.trans (hb.mono hW.size)⟩
      obtain ⟨left, right, hRe⟩ : ∃ left right, R = (left, right) := ⟨_, _, rfl⟩
      have HRE : Hid (leaveR c U.stack x hh = (left, right)) := by rw [HUS.out, ← hR]; exact hRe
      rw [hRe] at HC
      simp only at HC
      have HMID : Hid (leaveR c U.stack x hh = (left, true) → RMid c U m done td i x left (behindR i x)) := fun h => hmid left h
      have HX : Hid (U.ins[i]? = some x) := by rw [HUI.out]; exact hx
      have HRCH : Hid (Rch c U i hh) := hrch
      have htd : td.length ≤ 4096 := by have h1 := HJ.out.inv.few; have h2 := HLEN.out; rw [HUI.out, List.length_append] at h1; omega
      have hi0 : (i : Int) < ins.length := by omega
      have ht1 : (((td.length + 1 : Nat) : Int) - 1) = (td.length : Int) := by omega
      have HE0 : Hid (wr.cell? ⟨bi', oi + i * 2, none⟩ = some (.int .i64 x.op)) := e0
      have HE1 : Hid (wr.cell? ⟨bi', oi + i * 2 + 1, none⟩ = some (.int .i64 x.a)) := e1
      clear hk hJ hrun3 HJ0 hx hm hrch hmid hxe hcc c0 c1 c2 c3 p0 p1 p2 p3 p4 p5 p6 e0 e1 hlk hR hRe hrange
      go_upto_region 6 with fail
      refine wp_region_cls (n := wr.heap.size) (w0 := wr) (Below.refl _ _) (by kernel_rfl) (by kernel_rfl) ?_
      iterate 10 (go_big_quiet_step (fail))
      go_big_quiet_step (exact cls_calls HC.out _)
      iterate 5 (go_big_quiet_step (fail))
      refine wpQuiet_nil ?_
      rintro _ ⟨cc, rfl⟩
      obtain ⟨w5, hb5⟩ := cc
      dsimp only
      have HB5 : Hid (Below wr.heap.size wr w5) := hb5
      have HBr5 : Hid (Below w2.heap.size w2 w5) := HBr.out.trans (hb5.mono HBr.out.size)
      have HBw5 : Hid (Below w.heap.size w w5) := HBw.out.trans (hb5.mono HBw.out.size)
      clear hb5 z0 z1 z2 z3 y0 y1 y2 y3 y4 y5 y6 v0 v1 hlk2
      cases right with
      | false =>
        have HBAD : Hid (¬ RightH c U) := RInv.stuck HRCH.out HX.out (by rw [HRE.out])
        go_wp2
        go_ret2
        exact ⟨.inr ⟨HBAD.out, rfl⟩, HBw5.out⟩
      | true =>
        have HM0 : Hid (RMid c U m done td i x left (behindR i x)) := HMID.out HRE.out
        obtain ⟨-, p0, p1, p2, p3, p4, p5, p6⟩ := HF.out w5 HBr5.out
        have hcc : ∀ q, w5.cell? ⟨bi', q, none⟩ = wr.cell? ⟨bi', q, none⟩ := fun q => below_cell HB5.out (Nat.lt_of_lt_of_le hbl HBw.out.size)
        have e0 := HE0.out
        have e1 := HE1.out
        rw [← hcc] at e0 e1
        have cb := cBehind_any i x w5 (by omega) (fun h => ((HALL.out x (List.mem_of_getElem? HX.out)).2.1 h).1)
        clear hcc
        go_wp2_with fail
        refine cb.mono ?_
        clear cb
        rintro e w6 ⟨⟨vx, rfl, hrow⟩, hb6⟩
        obtain ⟨L, hL⟩ : ∃ L, L = behindR i x := ⟨_, rfl⟩
        rw [← hL] at hrow
        obtain ⟨base, capx, rfl, hx1, hx2, -⟩ := hrow.at
        have HLL : Hid (∀ n, n ∈ L → n ≤ ins.length) := fun n hn => by
          have := behind_le HALL.out HX.out (hL ▸ hn)
          rwa [HUI.out] at this
        have hLf : L.length ≤ 2 := hL ▸ behind_few i x
        have HB6 : Hid (Below wr.heap.size wr w6) := HB5.out.trans (hb6.mono HB5.out.size)
        have HK0 : Hid (ReachK c U w2.heap.size w2 (.slice (some ⟨g, 0, none⟩) td.length cap) w6 done td m D i x left base capx L 0) := by
          have hlt := HJ.out.map.lt
          refine ⟨by rw [List.drop_zero, hL]; exact HM0.out, ?_, HJ.out.is, own_to (own_pop HJ.out.row) (fun k hk => by cases hk; exact HB6.out.block g hglt), HBr.out.trans (HB6.out.mono HBr.out.size), rowIn.wide hrow (fun q _ (hq : w5.heap.size ≤ q) => show w2.heap.size < q by have := HB5.out.size; omega) (fun _ _ _ h => h), ?_⟩
          · have e : done.length + 1 + td.length = done.length + (td ++ [i]).length := by rw [List.length_append]; simp; omega
            rw [e]
            exact map_to HJ.out.map (HB6.out.block _ hlt)
          · intro hne k hk a ha
            cases hk
            intro hag
            obtain ⟨b1, c1, hv, _, _, h3⟩ := hrow
            cases hv
            rcases h3 with h3 | ⟨b, o, e, hS, _, _⟩
            · exact absurd h3 hne
            · rw [ha] at e
              cases e
              have h5 : w5.heap.size ≤ b := hS
              have := HB5.out.size
              have : b = g := hag
              omega
        clear hrow hb6 hL p0 p1 p2 p3 p4 p5 p6 e0 e1
        go_wp2
        go_loopw [7, 56] (fun v vi wr2 => ∃ k todo m2 D2, k ≤ L.length ∧ vi = .int .i64 (k : Int) ∧ ReachK c U w2.heap.size w2 v wr2 done todo m2 D2 i x left base capx L k) (fun _ vi _ => L.length - (intOf vi).toNat)
        case atStart => exact ⟨0, td, m, D, Nat.zero_le _, rfl, HK0.out⟩
        case round =>
          obtain ⟨k, todo, m2, D2, hk2, rfl, hKK⟩ := hrel
          have HKK : Hid (ReachK c U w2.heap.size w2 u7 wr done todo m2 D2 i x left base capx L k) := hKK
          have HBr2 : Hid (Below w2.heap.size w2 wr) := hKK.below
          have HBw2 : Hid (Below w.heap.size w wr) := HB2.out.trans (hKK.below.mono HB2.out.size)
          by_cases hlt : k < L.length
          · have hlt2 : (k : Int) < L.length := by omega
            obtain ⟨b1, c1, hv, _, _, hnat⟩ := hKK.nx.at
            cases hv
            obtain ⟨bx, ox, rfl, hMBx, hbx, hcx⟩ := hnat k hlt
            have hcx2 : wr.cell? ⟨bx, ox + k, none⟩ = some (.int .i64 (L[k] : Int)) := by have := hcx; rw [Nat.mul_one] at this; exact this
            obtain ⟨n, hn⟩ : ∃ n, n = L[k] := ⟨_, rfl⟩
            have HN : Hid (n = L[k]) := hn
            rw [← hn] at hcx2
            have hnle : n ≤ ins.length := HLL.out n (hn ▸ List.getElem_mem hlt)
            have hn32 : n ≤ 1048577 := by have := HLEN.out; omega
            obtain ⟨-, p0, p1, p2, p3, p4, p5, p6⟩ := HF.out wr HBr2.out
            obtain ⟨vl, ps, hlk, hvl⟩ := hKK.map.look_ok law_int und_map (zero_int wr) (plainElem_int und_int (by decide)) (key_nat hn32)
            obtain ⟨cv, rfl, hcv, -⟩ := plainElem_int_inv und_int hvl
            have hcv2 : D2.atKey (.int .i64 (n : Int)) (.lit (.int .i64 0)) = .lit (.int .i64 cv) := congrArg Prod.fst hcv
            have hhas : Maps.has D2 (.int .i64 (n : Int)) = (m2 n).isSome := (hKK.is.2 n).1
            rw [hhas] at hlk
            have hMBlt := hKK.map.lt
            have HMBL : Hid (w2.heap.size < wr.heap.size) := hMBlt
            have hd : L.drop k = L[k] :: L.drop (k + 1) := List.drop_eq_getElem_cons hlt
            have hmd := hKK.mid
            rw [hd, ← hn] at hmd
            have HMD : Hid (RMid c U m2 done todo i x left (n :: L.drop (k + 1))) := hmd
            by_cases hnl : n = ins.length
            · have hnb : ((n : Int) == (ins.length : Int)) = true := by rw [hnl]; simp
              have hnb2 : (n == ins.length) = true := by rw [hnl]; simp
              have HBAD : Hid (¬ RightH c U) := hmd.beyond (by rw [HUI.out, hnl]; exact Nat.le_refl _)
              clear hKK hnat hcx hn hvl hcv hcv2 hhas hd hmd hMBlt hnle hnl
              go_wp2
              go_ret2
              exact ⟨.inr ⟨HBAD.out, rfl⟩, HBw2.out⟩
            · have hnb : ((n : Int) == (ins.length : Int)) = false := by rw [beq_eq_false_iff_ne]; omega
              have hnb2 : (n == ins.length) = false := by rw [beq_eq_false_iff_ne]; exact hnl
              have HNL : Hid (n < ins.length) := by show _ < _; omega
              cases hmn : m2 n with
              | some hv =>
                rw [hmn] at hlk
                have hcvv : cv = hv := by
                  have := (hKK.is.2 n).2 hv hmn
                  rw [hcv2] at this
                  injection this with h3
                  injection h3 with _ h4
                subst hcvv
                by_cases hle : cv = left
                · subst hle
                  have HNX : Hid (ReachK c U w2.heap.size w2 u7 wr done todo m2 D2 i x cv (some ⟨bx, ox, none⟩) capx L (k + 1)) := hKK.again hlt (by rw [← hn]; exact hmn)
                  clear hKK hnat hcx hn hvl hcv hcv2 hhas hd hmd hMBlt hnle hnl hmn
                  simp only [Option.isSome_some] at hlk
                  go_wp2
                  exact ⟨⟨k + 1, todo, m2, D2, by omega, by go_num, HNX.out⟩, by simp [intOf]; omega⟩
                · have hbe : (cv == left) = false := by rw [beq_eq_false_iff_ne]; exact hle
                  have HBAD : Hid (¬ RightH c U) := hmd.clash hmn hle
                  clear hKK hnat hcx hn hvl hcv hcv2 hhas hd hmd hMBlt hnle hnl hmn hle
                  simp only [Option.isSome_some] at hlk
                  go_wp2
                  go_ret2
                  exact ⟨.inr ⟨HBAD.out, rfl⟩, HBw2.out⟩
              | none =>
                rw [hmn] at hlk
                simp only [Option.isSome_none] at hlk
                have HMN : Hid (m2 n = none) := hmn
                have hfew := hmd.few
                rw [HUI.out] at hfew
                have hleft : (Lit.int .i64 left).wf = true := by
                  have := rch_range HALL.out HST.out hmd.reach
                  exact WalkArith.wf_i64 (by omega)
                obtain ⟨w7, hrun7, hown7, hgrow7⟩ := hKK.map.update (t := 64) (e := 3) law_int und_map (by have := HLEN.out; unfold maxLen; omega) (key := .int .i64 (n : Int)) (val := .int .i64 left) (kl := .int .i64 (n : Int)) (key_nat hn32) (plainElem_int und_int hleft)
                have HOWN7 : Hid (w7.ownsMap Tryz.prog 3 (plainElem Tryz.prog 3) w2.heap.size (done.length + 1 + todo.length + 1) (D2.put (.int .i64 (n : Int)) (.lit (.int .i64 left)))) := hown7
                have HG7 : Hid (wr.grownBy w7 (some w2.heap.size)) := hgrow7
                have hs7 := hgrow7.size
                have HROW7 : Hid (w7.ownsRow (w2.heap.size + 1) 3 1 u7 todo.length (natC todo)) := own_to hKK.row (fun q hq => hgrow7.block q (hKK.row.lt q hq).2 (by have := (hKK.row.lt q hq).1; simp; omega))
                have HTL : Hid (todo.length + 1 ≤ 4097) := by have := HLEN.out; show _ ≤ _; omega
                clear hKK hnat hcx hn hvl hcv hcv2 hhas hd hmd hMBlt hnle hnl hmn hfew hown7 hgrow7 hleft
                go_wp2_with (first
                  | (at_builtin; refine wpList_append_own_at _ rfl _ _ 29 rfl (w2.heap.size + 1) 3 i0 (.int .i64 0) 1 8 und_ints hinf hz0 hz1 hz2 rfl (by decide) _ _ _ rfl (HROW7.out.alloc _) ⟨w7.heap.size, 0, none⟩ 1 1 [.int .i64 (n : Int)] rfl rfl (cell_one_new _ _ _) (ints_oneCell .i64 [(n : Int)]) (by have := HTL.out; unfold maxLen; omega) (by have := HTL.out; omega) (by have := HMBL.out; simp; omega) ?_; intro v' w9 hown9 hgrow9 hnil9 hloc9)
                  | go_in)
                go_roundw
                case rel =>
                  have hN := HN.out
                  subst hN
                  exact ⟨k + 1, todo ++ [L[k]], _, _, by omega, by go_num, HKK.out.new hlt (by rw [HUI.out]; exact HNL.out) HMN.out HMBL.out HOWN7.out HG7.out rfl hown9 hgrow9 hloc9⟩
                case measure => simp [intOf]; omega
          · obtain rfl : k = L.length := by omega
            have hi2 : ¬ (L.length : Int) < L.length := by omega
            have hmd := hKK.mid
            rw [List.drop_length] at hmd
            have hfew := hmd.few
            rw [HUI.out] at hfew
            have HFEW : Hid (done.length + 1 ≤ ins.length) := by show _ ≤ _; omega
            have HJN : Hid (ReachJ c U w2.heap.size w2 u7 wr (i :: done) todo m2 D2) := ⟨hmd.done, hKK.map, hKK.is, hKK.row, hKK.below⟩
            clear hKK hmd hfew
            go_wp2
            go_roundg (ins.length - (done.length + 1))
            case measure => have h1 := HK.out; have h2 := HFEW.out; omega
            case rel => exact ⟨i :: done, todo, m2, D2, rfl, HJN.out⟩
end Go.Proofs.YtechkkphbajmoaaGreatDoor
/- code: every unit of a row. -/
namespace Go.Proofs.YtechkkphbajmoaaGreatDoor
open Go.RowKit Go.Shelf

set_option maxRecDepth 100000 in
set_option maxHeartbeats 4000000 in
theorem everyUnit1_any (S : Nat → Prop) (l : List Un) (v : Value) (k : Nat) (p : Un → Bool) (w : World) (hin : unitsIn S w v l)
    (hk : ∀ i (hi : i < l.length) bi ni ci bv nv cv W, insIn S w (.slice bi ni ci) l[i].ins → varsIn S w (.slice bv nv cv) l[i].vars → Below w.heap.size w W → Calls Tryz.prog 62 #[unV l[i] (.slice bi ni ci) (.slice bv nv cv), .pointer (some ⟨k, 0, none⟩)] W fun e w' => e = .returned (.bool (p l[i])) ∧ Below w.heap.size w w') :
    Calls Tryz.prog 61 #[v, .func (.func 62) #[] #[.pointer (some ⟨k, 0, none⟩)]] w fun e w' => e = .returned (.bool (l.all p)) ∧ Below w.heap.size w w' := by
  obtain ⟨base, cap, rfl, hc1, hc2, hat⟩ := hin.at
  have HK : Hid (∀ i (hi : i < l.length) bi ni ci bv nv cv W, insIn S w (.slice bi ni ci) l[i].ins → varsIn S w (.slice bv nv cv) l[i].vars → Below w.heap.size w W → Calls Tryz.prog 62 #[unV l[i] (.slice bi ni ci) (.slice bv nv cv), .pointer (some ⟨k, 0, none⟩)] W fun e w' => e = .returned (.bool (p l[i])) ∧ Below w.heap.size w w') := hk
  have HAT : Hid (∀ i (hi : i < l.length), ∃ b o, base = some ⟨b, o, none⟩ ∧ S b ∧ b < w.heap.size ∧ (unE S) w b (o + i * 7) l[i]) := hat
  have hln : l.length ≤ 9223372036854775807 := by have : maxLen ≤ 9223372036854775807 := by decide
                                                  omega
  clear hat hin hk
  go_enter Tryz.func61, Tryz.ntmps61
  go_wp2
  go_loopw [9] (fun vi wr => ∃ i : Nat, i ≤ l.length ∧ vi = .int .i64 i ∧ (∀ j (h : j < l.length), j < i → p l[j] = true) ∧ Below w.heap.size w wr) (fun vi _ => l.length - (intOf vi).toNat)
  case atStart => exact ⟨0, Nat.zero_le _, rfl, fun j h hj => by omega, Below.refl _ _⟩
  case round =>
    obtain ⟨i, hi, rfl, hall, hbr⟩ := hrel
    have HA : Hid (∀ j (h : j < l.length), j < i → p l[j] = true) := hall
    have HB : Hid (Below w.heap.size w wr) := hbr
    clear hall hbr
    by_cases hlt : i < l.length
    · have hi2 : (i : Int) < l.length := by omega
      obtain ⟨b, o, rfl, -, hbl, hc⟩ := HAT.out i hlt
      obtain ⟨e0, e1, e2, e3, e4, ⟨vi, e5, hvi⟩, vv, e6, hvv⟩ := hc
      obtain ⟨bi, ci, rfl, -⟩ := hvi.at
      obtain ⟨bv, cv, rfl, -⟩ := hvv.at
      obtain ⟨ni, hni⟩ : ∃ n, n = l[i].ins.length := ⟨_, rfl⟩
      obtain ⟨nv, hnv⟩ : ∃ n, n = l[i].vars.length := ⟨_, rfl⟩
      rw [← hni] at e5 hvi
      rw [← hnv] at e6 hvv
      clear hni hnv
      obtain ⟨s, hs⟩ : ∃ s, s = l[i] := ⟨_, rfl⟩
      have HS : Hid (s = l[i]) := hs
      have hcc : ∀ q, wr.cell? ⟨b, q, none⟩ = w.cell? ⟨b, q, none⟩ := fun q => below_cell HB.out hbl
      rw [← hs] at e0 e1 e2 e3 e4
      rw [← hcc] at e0 e1 e2 e3 e4 e5 e6
      obtain ⟨w1, hw1, hb1, HZ1, h1⟩ := box1 wr (.cells #[.string (strB s.name), .int .i64 s.params, .int .i64 s.slots, .int .i64 s.stack, .bool s.result, .slice bi ni ci, .slice bv nv cv] 58)
      have HW1 : Hid (w1 = wr.alloc (.cells #[.string (strB s.name), .int .i64 s.params, .int .i64 s.slots, .int .i64 s.stack, .bool s.result, .slice bi ni ci, .slice bv nv cv] 58)) := hw1
      have cis := HK.out i hlt bi ni ci bv nv cv w1 hvi hvv (HB.out.trans (hb1.mono HB.out.size))
      rw [← hs] at cis
      obtain ⟨q, hq⟩ : ∃ q, q = p s := ⟨_, rfl⟩
      rw [← hq] at cis
      have HQ : Hid (q = p s) := hq
      clear hs hq hcc hw1 hb1 HZ1 h1
      go_wp2_with fail
      rw [← HW1.out]
      refine cis.mono ?_
      clear cis
      rintro e w2 ⟨rfl, hb2⟩
      have HB1 : Hid (Below w.heap.size w w2) := hb2
      clear hb2
      cases q with
      | true =>
        go_wp2
        refine ⟨⟨i + 1, by omega, by go_num, fun j h hj => ?_, HB1.out⟩, by simp [intOf]; omega⟩
        by_cases hji : j < i
        · exact HA.out j h hji
        · obtain rfl : j = i := by omega
          rw [← HS.out]
          exact HQ.out.symm
      | false =>
        have HF : Hid (l.all p = false) := all_false hlt (by rw [← HS.out]; exact HQ.out.symm)
        go_wp2
        go_ret
        rw [HF.out]
        exact ⟨rfl, HB1.out⟩
    · obtain rfl : i = l.length := by omega
      have hi2 : ¬ (l.length : Int) < l.length := by omega
      have HF : Hid (l.all p = true) := all_true fun j hj => HA.out j hj hj
      go_wp2
      go_ret
      rw [HF.out]
      exact ⟨rfl, HB.out⟩

set_option maxRecDepth 100000 in
set_option maxHeartbeats 4000000 in
theorem everyUnit2_any (S : Nat → Prop) (l : List Un) (v : Value) (k : Nat) (p : Un → Bool) (w : World) (hin : unitsIn S w v l)
    (hk : ∀ i (hi : i < l.length) bi ni ci bv nv cv W, insIn S w (.slice bi ni ci) l[i].ins → varsIn S w (.slice bv nv cv) l[i].vars → Below w.heap.size w W → Calls Tryz.prog 64 #[unV l[i] (.slice bi ni ci) (.slice bv nv cv), .pointer (some ⟨k, 0, none⟩)] W fun e w' => e = .returned (.bool (p l[i])) ∧ Below w.heap.size w w') :
    Calls Tryz.prog 61 #[v, .func (.func 64) #[] #[.pointer (some ⟨k, 0, none⟩)]] w fun e w' => e = .returned (.bool (l.all p)) ∧ Below w.heap.size w w' := by
  obtain ⟨base, cap, rfl, hc1, hc2, hat⟩ := hin.at
  have HK : Hid (∀ i (hi : i < l.length) bi ni ci bv nv cv W, insIn S w (.slice bi ni ci) l[i].ins → varsIn S w (.slice bv nv cv) l[i].vars → Below w.heap.size w W → Calls Tryz.prog 64 #[unV l[i] (.slice bi ni ci) (.slice bv nv cv), .pointer (some ⟨k, 0, none⟩)] W fun e w' => e = .returned (.bool (p l[i])) ∧ Below w.heap.size w w') := hk
  have HAT : Hid (∀ i (hi : i < l.length), ∃ b o, base = some ⟨b, o, none⟩ ∧ S b ∧ b < w.heap.size ∧ (unE S) w b (o + i * 7) l[i]) := hat
  have hln : l.length ≤ 9223372036854775807 := by have : maxLen ≤ 9223372036854775807 := by decide
                                                  omega
  clear hat hin hk
  go_enter Tryz.func61, Tryz.ntmps61
  go_wp2
  go_loopw [9] (fun vi wr => ∃ i : Nat, i ≤ l.length ∧ vi = .int .i64 i ∧ (∀ j (h : j < l.length), j < i → p l[j] = true) ∧ Below w.heap.size w wr) (fun vi _ => l.length - (intOf vi).toNat)
  case atStart => exact ⟨0, Nat.zero_le _, rfl, fun j h hj => by omega, Below.refl _ _⟩
  case round =>
    obtain ⟨i, hi, rfl, hall, hbr⟩ := hrel
    have HA : Hid (∀ j (h : j < l.length), j < i → p l[j] = true) := hall
    have HB : Hid (Below w.heap.size w wr) := hbr
    clear hall hbr
    by_cases hlt : i < l.length
    · have hi2 : (i : Int) < l.length := by omega
      obtain ⟨b, o, rfl, -, hbl, hc⟩ := HAT.out i hlt
      obtain ⟨e0, e1, e2, e3, e4, ⟨vi, e5, hvi⟩, vv, e6, hvv⟩ := hc
      obtain ⟨bi, ci, rfl, -⟩ := hvi.at
      obtain ⟨bv, cv, rfl, -⟩ := hvv.at
      obtain ⟨ni, hni⟩ : ∃ n, n = l[i].ins.length := ⟨_, rfl⟩
      obtain ⟨nv, hnv⟩ : ∃ n, n = l[i].vars.length := ⟨_, rfl⟩
      rw [← hni] at e5 hvi
      rw [← hnv] at e6 hvv
      clear hni hnv
      obtain ⟨s, hs⟩ : ∃ s, s = l[i] := ⟨_, rfl⟩
      have HS : Hid (s = l[i]) := hs
      have hcc : ∀ q, wr.cell? ⟨b, q, none⟩ = w.cell? ⟨b, q, none⟩ := fun q => below_cell HB.out hbl
      rw [← hs] at e0 e1 e2 e3 e4
      rw [← hcc] at e0 e1 e2 e3 e4 e5 e6
      obtain ⟨w1, hw1, hb1, HZ1, h1⟩ := box1 wr (.cells #[.string (strB s.name), .int .i64 s.params, .int .i64 s.slots, .int .i64 s.stack, .bool s.result, .slice bi ni ci, .slice bv nv cv] 58)
      have HW1 : Hid (w1 = wr.alloc (.cells #[.string (strB s.name), .int .i64 s.params, .int .i64 s.slots, .int .i64 s.stack, .bool s.result, .slice bi ni ci, .slice bv nv cv] 58)) := hw1
      have cis := HK.out i hlt bi ni ci bv nv cv w1 hvi hvv (HB.out.trans (hb1.mono HB.out.size))
      rw [← hs] at cis
      obtain ⟨q, hq⟩ : ∃ q, q = p s := ⟨_, rfl⟩
      rw [← hq] at cis
      have HQ : Hid (q = p s) := hq
      clear hs hq hcc hw1 hb1 HZ1 h1
      go_wp2_with fail
      rw [← HW1.out]
      refine cis.mono ?_
      clear cis
      rintro e w2 ⟨rfl, hb2⟩
      have HB1 : Hid (Below w.heap.size w w2) := hb2
      clear hb2
      cases q with
      | true =>
        go_wp2
        refine ⟨⟨i + 1, by omega, by go_num, fun j h hj => ?_, HB1.out⟩, by simp [intOf]; omega⟩
        by_cases hji : j < i
        · exact HA.out j h hji
        · obtain rfl : j = i := by omega
          rw [← HS.out]
          exact HQ.out.symm
      | false =>
        have HF : Hid (l.all p = false) := all_false hlt (by rw [← HS.out]; exact HQ.out.symm)
        go_wp2
        go_ret
        rw [HF.out]
        exact ⟨rfl, HB1.out⟩
    · obtain rfl : i = l.length := by omega
      have hi2 : ¬ (l.length : Int) < l.length := by omega
      have HF : Hid (l.all p = true) := all_true fun j hj => HA.out j hj hj
      go_wp2
      go_ret
      rw [HF.out]
      exact ⟨rfl, HB.out⟩

end Go.Proofs.YtechkkphbajmoaaGreatDoor
/- code: is a code right. -/
namespace Go.Proofs.YtechkkphbajmoaaGreatDoor
open Go.RowKit Go.Shelf

theorem ops_bound : ∀ r ∈ opsL, (0 ≤ r.2.2.1 ∧ r.2.2.1 ≤ 3) ∧ 0 ≤ r.2.2.2 ∧ r.2.2.2 ≤ 1 := by decide
theorem oneR_bound (b : Bool) : 0 ≤ oneR b ∧ oneR b ≤ 1 := by cases b <;> decide

theorem unitR_parts {ns nh nu : Nat} {u : Un} (h : unitR ns nh nu u = true) : (0 ≤ u.params ∧ u.params ≤ 8) ∧ (u.params ≤ u.slots ∧ u.slots ≤ 32) ∧ (0 ≤ u.stack ∧ u.stack ≤ 256) ∧ (1 ≤ u.ins.length ∧ u.ins.length ≤ 4096) ∧ u.vars.all (varR u.slots u.ins.length) = true ∧ ∀ x ∈ u.ins, insR ns nh nu u.ins.length u.slots u.result x = true := by
  unfold unitR at h
  simp only [Bool.and_eq_true, decide_eq_true_eq, List.all_eq_true] at h
  obtain ⟨h1, h2, h3, h4, h5, h6⟩ := h
  refine ⟨h1, h2, h3, by omega, by rw [List.all_eq_true]; exact h5, h6⟩
theorem insR_parts {ns nh nu ni : Nat} {slots : Int} {res : Bool} {x : In7} (h : insR ns nh nu ni slots res x = true) : ∃ n r, x.op = (n : Nat) ∧ opsL[n]? = some r ∧ (bndR ns nh nu ni slots res r.2.1).1 ≤ x.a ∧ x.a ≤ (bndR ns nh nu ni slots res r.2.1).2 := by
  unfold insR at h
  split at h
  · rename_i r hr
    simp only [Bool.and_eq_true, decide_eq_true_eq] at h
    exact ⟨x.op.toNat, r, by omega, hr, h.2.1, h.2.2⟩
  · cases h
theorem shR_few {x : Sh} (h : shR x = true) : x.fields.length ≤ 8 := by
  unfold shR namesR at h
  simp only [Bool.and_eq_true, decide_eq_true_eq] at h
  omega
theorem insAll_of {c : Cd} {u : Un} (hu : unitR c.strs.length c.shapes.length c.units.length u = true) (ha : ∀ v ∈ c.units, unitR c.strs.length c.shapes.length c.units.length v = true) (hs : ∀ x ∈ c.shapes, shR x = true) : InsAll c u := by
  intro x hx
  obtain ⟨-, -, -, -, -, h6⟩ := unitR_parts hu
  obtain ⟨n, r, hop, hr, hlo, hhi⟩ := insR_parts (h6 x hx)
  have hb := ops_bound r (List.mem_of_getElem? hr)
  have hA6 : r.2.1 = 6 → 0 ≤ x.a ∧ x.a < (c.units.length : Int) := fun e => by
    rw [e] at hlo hhi
    simp only [bndR] at hlo hhi
    simp at hlo hhi
    omega
  have hA7 : r.2.1 = 7 → 0 ≤ x.a ∧ x.a < (c.shapes.length : Int) := fun e => by
    rw [e] at hlo hhi
    simp only [bndR] at hlo hhi
    simp at hlo hhi
    omega
  refine ⟨⟨n, r, hop, hr, hA6, hA7⟩, fun h => ?_, ?_⟩
  · have e5 : r.2.1 = 5 := by
      rcases h with h | h
      · have : n = 20 := by omega
        subst this
        have : opsL[20]? = some r := hr
        cases this
        rfl
      · have : n = 21 := by omega
        subst this
        have : opsL[21]? = some r := hr
        cases this
        rfl
    rw [e5] at hlo hhi
    simp only [bndR] at hlo hhi
    simp at hlo hhi
    omega
  · obtain ⟨nm, o, tk, pu⟩ := r
    obtain ⟨op, a⟩ := x
    simp only at hop hlo hhi hb hA6 hA7
    subst hop
    rw [effR_of hr]
    by_cases o6 : o = 6
    · rw [if_pos o6]
      have := hA6 o6
      have hi : a.toNat < c.units.length := by omega
      rw [List.getElem?_eq_getElem hi]
      have h1 := (unitR_parts (ha _ (List.getElem_mem hi))).1
      have h2 := oneR_bound c.units[a.toNat].result
      simp only
      omega
    · rw [if_neg o6]
      by_cases o7 : o = 7
      · rw [if_pos o7]
        have := hA7 o7
        have hi : a.toNat < c.shapes.length := by omega
        rw [List.getElem?_eq_getElem hi]
        have h1 := shR_few (hs _ (List.getElem_mem hi))
        simp only
        omega
      · rw [if_neg o7]
        by_cases o8 : o = 8
        · rw [if_pos (.inl o8)]
          rw [o8] at hlo hhi
          simp only [bndR] at hlo hhi
          have := oneR_bound u.result
          simp at hlo hhi
          simp only
          omega
        · by_cases o9 : o = 9
          · rw [if_pos (.inr o9)]
            rw [o9] at hlo hhi
            simp only [bndR] at hlo hhi
            simp at hlo hhi
            simp only
            omega
          · rw [if_neg (by omega)]
            simp only
            omega

/-- A code is right. -/
noncomputable def rightC (c : Cd) : Bool := outR c && (c.units.all (unitR c.strs.length c.shapes.length c.units.length) && c.units.all (rchR c))
theorem outR_shapes {c : Cd} (h : outR c = true) : ∀ x ∈ c.shapes, shR x = true := by
  unfold outR at h
  simp only [Bool.and_eq_true, List.all_eq_true] at h
  exact h.2.2.2.1

set_option maxRecDepth 100000 in
set_option maxHeartbeats 4000000 in
theorem cRightly_any (S : Nat → Prop) (c : Cd) (bs bh bu bi bv : Option Addr) (ns cs nh ch nu cu ni ci nv cv : Nat) (m : Int) (u : Un) (w : World) (hsh : shapesIn S w (.slice bh nh ch) c.shapes) (hun : unitsIn S w (.slice bu nu cu) c.units) (hii : insIn S w (.slice bi ni ci) u.ins) (ht : OpT w)
    (hall : InsAll c u) (hst : 0 ≤ u.stack ∧ u.stack ≤ 256) (hlen : 1 ≤ u.ins.length ∧ u.ins.length ≤ 4096) :
    Calls Tryz.prog 65 #[cdV (.slice bs ns cs) (.slice bh nh ch) (.slice bu nu cu) m, unV u (.slice bi ni ci) (.slice bv nv cv)] w fun e w' => e = .returned (.bool (rchR c u)) ∧ Below w.heap.size w w' := by
  obtain ⟨w2, hw2, hb2, HZ2, h0, h1⟩ := box2 w (.cells #[.slice bs ns cs, .slice bh nh ch, .slice bu nu cu, .int .i64 m] 26) (.cells #[.string (strB u.name), .int .i64 u.params, .int .i64 u.slots, .int .i64 u.stack, .bool u.result, .slice bi ni ci, .slice bv nv cv] 58)
  have HW2 : Hid (w2 = (w.alloc (.cells #[.slice bs ns cs, .slice bh nh ch, .slice bu nu cu, .int .i64 m] 26)).alloc (.cells #[.string (strB u.name), .int .i64 u.params, .int .i64 u.slots, .int .i64 u.stack, .bool u.result, .slice bi ni ci, .slice bv nv cv] 58)) := hw2
  have HB2 : Hid (Below w.heap.size w w2) := hb2
  have cr := cReach_any S c bs bh bu bi bv ns cs nh ch nu cu ni ci nv cv m u w2 (rowIn.kept hsh (shE_keeps S) hb2.size fun q _ hq => hb2.block q hq) (rowIn.kept hun (unE_keeps S) hb2.size fun q _ hq => hb2.block q hq) (rowIn.kept hii (insE_keeps S) hb2.size fun q _ hq => hb2.block q hq) (ht.below hb2 (Nat.le_refl _)) hall hst hlen
  have HRR : Hid ((RightH c u → rchR c u = true) ∧ (¬ RightH c u → rchR c u = false)) := ⟨rchR_true, rchR_false⟩
  obtain ⟨R, hR⟩ : ∃ R, R = rchR c u := ⟨_, rfl⟩
  rw [← hR] at HRR ⊢
  clear hw2 hb2 h0 h1 hsh hun hii ht hall hst hlen HZ2 hR
  go_enter Tryz.func65, Tryz.ntmps65
  go_wp2_with fail
  rw [← HW2.out]
  refine cr.mono ?_
  clear cr
  rintro e w3 ⟨hret, hb3⟩
  have HB3 : Hid (Below w.heap.size w w3) := HB2.out.trans (hb3.mono HB2.out.size)
  clear hb3
  rcases hret with ⟨hr, B, mm, D, n, rfl, -⟩ | ⟨hr, rfl⟩
  · have HT : Hid (R = true) := HRR.out.1 hr
    clear hr
    go_wp2
    go_ret
    rw [HT.out]
    exact ⟨rfl, HB3.out⟩
  · have HT : Hid (R = false) := HRR.out.2 hr
    clear hr
    go_wp2
    go_ret
    rw [HT.out]
    exact ⟨rfl, HB3.out⟩

set_option maxRecDepth 100000 in
set_option maxHeartbeats 4000000 in
theorem cRight1_any (S : Nat → Prop) (k : Nat) (_c : Cd) (bs bh bu bi bv : Option Addr) (ns cs nh ch nu cu ni ci nv cv : Nat) (m : Int) (u : Un) (w : World) (h1 : ns ≤ 1048576) (h2 : nh ≤ 1048576) (h3 : nu ≤ 1048576) (hii : insIn S w (.slice bi ni ci) u.ins) (hvv : varsIn S w (.slice bv nv cv) u.vars) (hl : ∀ v ∈ u.vars, v.name.length ≤ 1048576) (ht : TabsP w) (hot : OpT w)
    (hk : w.heap[k]? = some (.cells #[.slice bs ns cs, .slice bh nh ch, .slice bu nu cu, .int .i64 m] 26 (0, 0))) :
    Calls Tryz.prog 62 #[unV u (.slice bi ni ci) (.slice bv nv cv), .pointer (some ⟨k, 0, none⟩)] w fun e w' => e = .returned (.bool (unitR ns nh nu u)) ∧ Below w.heap.size w w' := by
  obtain ⟨w1, hw1, hb1, HZ1, hq1⟩ := box1 w (.cells #[.string (strB u.name), .int .i64 u.params, .int .i64 u.slots, .int .i64 u.stack, .bool u.result, .slice bi ni ci, .slice bv nv cv] 58)
  have HW1 : Hid (w1 = w.alloc (.cells #[.string (strB u.name), .int .i64 u.params, .int .i64 u.slots, .int .i64 u.stack, .bool u.result, .slice bi ni ci, .slice bv nv cv] 58)) := hw1
  have HB1 : Hid (Below w.heap.size w w1) := hb1
  have cr := cRightUnit_any S bs bh bu bi bv ns cs nh ch nu cu ni ci nv cv m u h1 h2 h3 w1 (rowIn.kept hii (insE_keeps S) hb1.size fun q _ hq => hb1.block q hq) (rowIn.kept hvv (varE_keeps S) hb1.size fun q _ hq => hb1.block q hq) hl (ht.below hb1 (Nat.le_refl _)) (hot.below hb1 (Nat.le_refl _))
  obtain ⟨R, hR⟩ : ∃ R, R = unitR ns nh nu u := ⟨_, rfl⟩
  rw [← hR] at cr ⊢
  obtain ⟨b0, b1, b2, b3⟩ := bcells4 hk
  have hkl := heap_lt hk
  clear hw1 hb1 hq1 hR hk HZ1 hii hvv hl ht hot
  go_enter Tryz.func62, Tryz.ntmps62
  go_wp2_with fail
  rw [← HW1.out]
  refine cr.mono ?_
  clear cr
  rintro e w2 ⟨rfl, hb2⟩
  have HB2 : Hid (Below w.heap.size w w2) := HB1.out.trans (hb2.mono HB1.out.size)
  clear hb2
  go_wp2
  go_ret
  exact ⟨rfl, HB2.out⟩

set_option maxRecDepth 100000 in
set_option maxHeartbeats 4000000 in
theorem cRight2_any (S : Nat → Prop) (k : Nat) (c : Cd) (bs bh bu bi bv : Option Addr) (ns cs nh ch nu cu ni ci nv cv : Nat) (m : Int) (u : Un) (w : World) (hsh : shapesIn S w (.slice bh nh ch) c.shapes) (hun : unitsIn S w (.slice bu nu cu) c.units) (hii : insIn S w (.slice bi ni ci) u.ins) (hot : OpT w) (hall : InsAll c u) (hst : 0 ≤ u.stack ∧ u.stack ≤ 256) (hlen : 1 ≤ u.ins.length ∧ u.ins.length ≤ 4096)
    (hk : w.heap[k]? = some (.cells #[.slice bs ns cs, .slice bh nh ch, .slice bu nu cu, .int .i64 m] 26 (0, 0))) :
    Calls Tryz.prog 64 #[unV u (.slice bi ni ci) (.slice bv nv cv), .pointer (some ⟨k, 0, none⟩)] w fun e w' => e = .returned (.bool (rchR c u)) ∧ Below w.heap.size w w' := by
  obtain ⟨w1, hw1, hb1, HZ1, h1⟩ := box1 w (.cells #[.string (strB u.name), .int .i64 u.params, .int .i64 u.slots, .int .i64 u.stack, .bool u.result, .slice bi ni ci, .slice bv nv cv] 58)
  have HW1 : Hid (w1 = w.alloc (.cells #[.string (strB u.name), .int .i64 u.params, .int .i64 u.slots, .int .i64 u.stack, .bool u.result, .slice bi ni ci, .slice bv nv cv] 58)) := hw1
  have HB1 : Hid (Below w.heap.size w w1) := hb1
  have cr := cRightly_any S c bs bh bu bi bv ns cs nh ch nu cu ni ci nv cv m u w1 (rowIn.kept hsh (shE_keeps S) hb1.size fun q _ hq => hb1.block q hq) (rowIn.kept hun (unE_keeps S) hb1.size fun q _ hq => hb1.block q hq) (rowIn.kept hii (insE_keeps S) hb1.size fun q _ hq => hb1.block q hq) (hot.below hb1 (Nat.le_refl _)) hall hst hlen
  obtain ⟨R, hR⟩ : ∃ R, R = rchR c u := ⟨_, rfl⟩
  rw [← hR] at cr ⊢
  obtain ⟨b0, b1, b2, b3⟩ := bcells4 hk
  have hkl := heap_lt hk
  clear hw1 hb1 h1 hR hk HZ1 hsh hun hii hot hall hst hlen
  go_enter Tryz.func64, Tryz.ntmps64
  go_wp2_with fail
  rw [← HW1.out]
  refine cr.mono ?_
  clear cr
  rintro e w2 ⟨rfl, hb2⟩
  have HB2 : Hid (Below w.heap.size w w2) := HB1.out.trans (hb2.mono HB1.out.size)
  clear hb2
  go_wp2
  go_ret
  exact ⟨rfl, HB2.out⟩

set_option maxRecDepth 100000 in
set_option maxHeartbeats 4000000 in
theorem cIsRight_any (S : Nat → Prop) (c : Cd) (bs bh bu : Option Addr) (ns cs nh ch nu cu : Nat) (w : World) (hin : CodeIn S w c (.slice bs ns cs) (.slice bh nh ch) (.slice bu nu cu)) (hsm : SmallC c) (ht : TabsP w) (hot : OpT w) :
    Calls Tryz.prog 22 #[cdV (.slice bs ns cs) (.slice bh nh ch) (.slice bu nu cu) c.main] w fun e w' => e = .returned (.bool (rightC c)) ∧ Below w.heap.size w w' := by
  obtain ⟨m, hm⟩ : ∃ m, m = c.main := ⟨_, rfl⟩
  rw [← hm]
  obtain ⟨w2, hw2, hb2, HZ2, h0⟩ := box1 w (.cells #[.slice bs ns cs, .slice bh nh ch, .slice bu nu cu, .int .i64 m] 26)
  have HW2 : Hid (w2 = w.alloc (.cells #[.slice bs ns cs, .slice bh nh ch, .slice bu nu cu, .int .i64 m] 26)) := hw2
  have HB2 : Hid (Below w.heap.size w w2) := hb2
  have HF : Hid (∀ W, Below w2.heap.size w2 W → W.cell? ⟨w.heap.size, 0, none⟩ = some (.slice bs ns cs) ∧ W.cell? ⟨w.heap.size, 1, none⟩ = some (.slice bh nh ch) ∧ W.cell? ⟨w.heap.size, 2, none⟩ = some (.slice bu nu cu) ∧ W.cell? ⟨w.heap.size, 3, none⟩ = some (.int .i64 m)) := fun W hW => by
    have hz := HZ2.out
    exact bcells4 ((hW.block w.heap.size (by omega)).trans h0)
  have hns : ns = c.strs.length := by obtain ⟨b, c, e, -⟩ := hin.strs.at; cases e; rfl
  have hnh : nh = c.shapes.length := by obtain ⟨b, c, e, -⟩ := hin.shapes.at; cases e; rfl
  have hnu : nu = c.units.length := by obtain ⟨b, c, e, -⟩ := hin.units.at; cases e; rfl
  obtain ⟨q1, hq1⟩ : ∃ q, q = outR c := ⟨_, rfl⟩
  obtain ⟨q2, hq2⟩ : ∃ q, q = c.units.all (unitR c.strs.length c.shapes.length c.units.length) := ⟨_, rfl⟩
  obtain ⟨q3, hq3⟩ : ∃ q, q = c.units.all (rchR c) := ⟨_, rfl⟩
  have HR : Hid (rightC c = (q1 && (q2 && q3))) := by
    show _ = _
    rw [hq1, hq2, hq3]; rfl
  obtain ⟨R, hR⟩ : ∃ R, R = rightC c := ⟨_, rfl⟩
  rw [← hR] at HR ⊢
  have c1 : Calls Tryz.prog 60 #[.agg #[.slice bs ns cs, .slice bh nh ch, .slice bu nu cu, .int .i64 m]] w2 fun e w' => e = .returned (.bool q1) ∧ Below w2.heap.size w2 w' := by
    rw [hq1, hm]; exact cOutside_any S c bs bh bu ns cs nh ch nu cu w2 (hin.below hb2) hsm (ht.below hb2 (Nat.le_refl _))
  have C2 : Hid (∀ W, Below w2.heap.size w2 W → Calls Tryz.prog 61 #[.slice bu nu cu, .func (.func 62) #[] #[.pointer (some ⟨w.heap.size, 0, none⟩)]] W fun e w' => e = .returned (.bool q2) ∧ Below W.heap.size W w') := fun W hW => by
    rw [hq2]
    have hz := HZ2.out
    have hWw : Below w.heap.size w W := hb2.trans (hW.mono hb2.size)
    refine everyUnit1_any S c.units _ w.heap.size _ W (hin.below hWw).units fun i hi bi ni ci bv nv cv W' h5 h6 hW' => ?_
    have hWw' : Below w.heap.size w W' := hWw.trans (hW'.mono hWw.size)
    have := cRight1_any S w.heap.size c bs bh bu bi bv ns cs nh ch nu cu ni ci nv cv m c.units[i] W' (by rw [hns]; exact hsm.nstrs) (by rw [hnh]; exact hsm.nshapes) (by rw [hnu]; exact hsm.nunits) (rowIn.kept h5 (insE_keeps S) hW'.size fun q _ hq => hW'.block q hq) (rowIn.kept h6 (varE_keeps S) hW'.size fun q _ hq => hW'.block q hq) (hsm.var _ (List.getElem_mem hi)) (ht.below hWw' (Nat.le_refl _)) (hot.below hWw' (Nat.le_refl _)) ((hW'.block _ (by have := hW.size; omega)).trans ((hW.block _ (by omega)).trans h0))
    rw [hns, hnh, hnu] at this
    rw [hns, hnh, hnu] at h0
    exact this.mono fun e w' ⟨he, hb⟩ => ⟨he, hW'.trans (hb.mono hW'.size)⟩
  have C3 : Hid (∀ W, Below w2.heap.size w2 W → q1 = true → q2 = true → Calls Tryz.prog 61 #[.slice bu nu cu, .func (.func 64) #[] #[.pointer (some ⟨w.heap.size, 0, none⟩)]] W fun e w' => e = .returned (.bool q3) ∧ Below W.heap.size W w') := fun W hW e1 e2 => by
    rw [hq3]
    have hz := HZ2.out
    have hWw : Below w.heap.size w W := hb2.trans (hW.mono hb2.size)
    have ha := List.all_eq_true.1 (hq2 ▸ e2)
    have hs := outR_shapes (hq1 ▸ e1)
    refine everyUnit2_any S c.units _ w.heap.size _ W (hin.below hWw).units fun i hi bi ni ci bv nv cv W' h5 h6 hW' => ?_
    have hWw' : Below w.heap.size w W' := hWw.trans (hW'.mono hWw.size)
    have hu := ha _ (List.getElem_mem hi)
    have hp := unitR_parts hu
    exact (cRight2_any S w.heap.size c bs bh bu bi bv ns cs nh ch nu cu ni ci nv cv m c.units[i] W' (hin.below hWw').shapes (hin.below hWw').units (rowIn.kept h5 (insE_keeps S) hW'.size fun q _ hq => hW'.block q hq) (hot.below hWw' (Nat.le_refl _)) (insAll_of hu ha hs) hp.2.2.1 hp.2.2.2.1 ((hW'.block _ (by have := hW.size; omega)).trans ((hW.block _ (by omega)).trans h0))).mono fun e w' ⟨he, hb⟩ => ⟨he, hW'.trans (hb.mono hW'.size)⟩
  clear hw2 hb2 h0 hR hin hsm ht hot hns hnh hnu HZ2 hm hq1 hq2 hq3
  go_enter Tryz.func22, Tryz.ntmps22
  go_wp2_with fail
  rw [← HW2.out]
  refine c1.mono ?_
  clear c1
  rintro e v1 ⟨rfl, hb1⟩
  have HV1 : Hid (Below w2.heap.size w2 v1) := hb1
  clear hb1
  cases q1 with
  | false =>
    go_wp2
    go_ret
    rw [HR.out]
    exact ⟨rfl, HB2.out.trans (HV1.out.mono HB2.out.size)⟩
  | true =>
    obtain ⟨a0, a1, a2, a3⟩ := HF.out v1 HV1.out
    have c2 := C2.out v1 HV1.out
    go_wp2_with fail
    refine c2.mono ?_
    clear c2 a0 a1 a2 a3
    rintro e v2 ⟨rfl, hb2⟩
    have HV2 : Hid (Below w2.heap.size w2 v2) := HV1.out.trans (hb2.mono HV1.out.size)
    clear hb2
    cases q2 with
    | false =>
      go_wp2
      go_ret
      rw [HR.out]
      exact ⟨rfl, HB2.out.trans (HV2.out.mono HB2.out.size)⟩
    | true =>
      obtain ⟨a0, a1, a2, a3⟩ := HF.out v2 HV2.out
      have c3 := C3.out v2 HV2.out (by simp) (by simp)
      go_wp2_with fail
      refine c3.mono ?_
      clear c3 a0 a1 a2 a3
      rintro e v3 ⟨rfl, hb3⟩
      have HV3 : Hid (Below w2.heap.size w2 v3) := HV2.out.trans (hb3.mono HV2.out.size)
      clear hb3
      go_wp2
      go_ret
      rw [HR.out]
      exact ⟨rfl, HB2.out.trans (HV3.out.mono HB2.out.size)⟩

set_option maxRecDepth 100000 in
set_option maxHeartbeats 4000000 in
theorem cCheck_any (S : Nat → Prop) (c : Cd) (bs bh bu : Option Addr) (ns cs nh ch nu cu : Nat) (w : World) (hin : CodeIn S w c (.slice bs ns cs) (.slice bh nh ch) (.slice bu nu cu)) (hsm : SmallC c) (ht : TabsP w) (hot : OpT w) :
    Calls Tryz.prog 10 #[cdV (.slice bs ns cs) (.slice bh nh ch) (.slice bu nu cu) c.main] w fun e w' => e = .returned (.int .i64 (if rightC c then 0 else 2)) ∧ Below w.heap.size w w' := by
  obtain ⟨m, hm⟩ : ∃ m, m = c.main := ⟨_, rfl⟩
  rw [← hm]
  obtain ⟨w2, hw2, hb2, HZ2, h0⟩ := box1 w (.cells #[.slice bs ns cs, .slice bh nh ch, .slice bu nu cu, .int .i64 m] 26)
  have HW2 : Hid (w2 = w.alloc (.cells #[.slice bs ns cs, .slice bh nh ch, .slice bu nu cu, .int .i64 m] 26)) := hw2
  have HB2 : Hid (Below w.heap.size w w2) := hb2
  have c1 : Calls Tryz.prog 22 #[.agg #[.slice bs ns cs, .slice bh nh ch, .slice bu nu cu, .int .i64 m]] w2 fun e w' => e = .returned (.bool (rightC c)) ∧ Below w2.heap.size w2 w' := by
    rw [hm]; exact cIsRight_any S c bs bh bu ns cs nh ch nu cu w2 (hin.below hb2) hsm (ht.below hb2 (Nat.le_refl _)) (hot.below hb2 (Nat.le_refl _))
  obtain ⟨R, hR⟩ : ∃ R, R = rightC c := ⟨_, rfl⟩
  rw [← hR] at c1 ⊢
  clear hw2 hb2 h0 hR hin hsm ht hot HZ2 hm
  cases R with
  | true =>
    go_enter Tryz.func10, Tryz.ntmps10
    go_wp2_with fail
    rw [← HW2.out]
    refine c1.mono ?_
    clear c1
    rintro e v1 ⟨rfl, hb1⟩
    have HV1 : Hid (Below w.heap.size w v1) := HB2.out.trans (hb1.mono HB2.out.size)
    clear hb1
    go_wp2
    go_ret
    exact ⟨rfl, HV1.out⟩
  | false =>
    go_enter Tryz.func10, Tryz.ntmps10
    go_wp2_with fail
    rw [← HW2.out]
    refine c1.mono ?_
    clear c1
    rintro e v1 ⟨rfl, hb1⟩
    have HV1 : Hid (Below w.heap.size w v1) := HB2.out.trans (hb1.mono HB2.out.size)
    clear hb1
    go_wp2
    go_ret
    exact ⟨rfl, HV1.out⟩
end Go.Proofs.YtechkkphbajmoaaGreatDoor
