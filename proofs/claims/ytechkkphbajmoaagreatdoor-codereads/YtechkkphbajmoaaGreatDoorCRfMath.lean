/- code: the document's own heights, gone through again and again: the mathematics. -/
import Derived.Test.YtechkkphbajmoaaGreatDoorCHeights
namespace Go.Proofs.YtechkkphbajmoaaGreatDoor
open Go.RowKit Go.Shelf

def negN (L : List Int) : Nat := L.countP fun x => decide (x < 0)
theorem negN_set {L : List Int} {n : Nat} {a b : Int} (h : L[n]? = some a) (ha : a < 0) (hb : 0 ≤ b) : negN (L.set n b) + 1 = negN L := by
  obtain ⟨hn, e⟩ := List.getElem?_eq_some_iff.1 h
  have h1 : 0 < L.countP (fun x => decide (x < 0)) := List.countP_pos_iff.2 ⟨a, List.mem_of_getElem? h, decide_eq_true ha⟩
  unfold negN
  rw [List.countP_set hn, e]
  have h2 : decide (b < 0) = false := decide_eq_false (by omega)
  have h3 : decide (a < 0) = true := decide_eq_true ha
  simp only [h2, h3, if_true, if_false, Bool.false_eq_true]
  omega

/-- What is noted is reached. -/
structure HgInv (c : Cd) (u : Un) (L : List Int) : Prop where
  len : L.length = u.ins.length
  sound : ∀ j v, L[j]? = some v → v = -1 ∨ (0 ≤ v ∧ Rch c u j v)
  zero : L[0]? = some 0
/-- What comes behind an instruction is noted. -/
def HgCl (c : Cd) (u : Un) (L : List Int) (j : Nat) : Prop := ∀ v, L[j]? = some v → 0 ≤ v → ∃ x left, u.ins[j]? = some x ∧ leaveR c u.stack x v = (left, true) ∧ ∀ n, n ∈ behindR j x → L[n]? = some left
/-- In a going through, ahead of the instruction i. -/
structure HgIn (c : Cd) (u : Un) (L : List Int) (i : Nat) (b : Bool) (k0 : Nat) : Prop where
  inv : HgInv c u L
  cl : b = false → ∀ j, j < i → HgCl c u L j
  few : negN L ≤ k0
  less : b = true → negN L < k0
/-- At the instruction i, so many of those behind it are noted. -/
structure HgMid (c : Cd) (u : Un) (L : List Int) (i : Nat) (x : In7) (v left : Int) (k : Nat) (b : Bool) (k0 : Nat) : Prop where
  inv : HgInv c u L
  here : L[i]? = some v
  ge : 0 ≤ v
  ins : u.ins[i]? = some x
  lv : leaveR c u.stack x v = (left, true)
  past : ∀ j, j < k → ∀ n, (behindR i x)[j]? = some n → L[n]? = some left
  cl : b = false → ∀ j, j < i → HgCl c u L j
  few : negN L ≤ k0
  less : b = true → negN L < k0
theorem HgInv.reach {c : Cd} {u : Un} {L : List Int} (h : HgInv c u L) {j : Nat} {v : Int} (hv : L[j]? = some v) (h0 : 0 ≤ v) : Rch c u j v := by
  rcases h.sound j v hv with h1 | h1
  · omega
  · exact h1.2
theorem HgIn.skip {c : Cd} {u : Un} {L : List Int} {i : Nat} {b : Bool} {k0 : Nat} (h : HgIn c u L i b k0) {a : Int} (ha : L[i]? = some a) (h0 : a < 0) : HgIn c u L (i + 1) b k0 :=
  ⟨h.inv, fun e j hj => by
    by_cases he : j = i
    · subst he
      intro v hv hv0
      rw [ha] at hv
      cases hv
      omega
    · exact h.cl e j (by omega), h.few, h.less⟩
theorem HgIn.take {c : Cd} {u : Un} {L : List Int} {i : Nat} {b : Bool} {k0 : Nat} (h : HgIn c u L i b k0) {v left : Int} {x : In7} (hv : L[i]? = some v) (h0 : 0 ≤ v) (hx : u.ins[i]? = some x) (hl : leaveR c u.stack x v = (left, true)) : HgMid c u L i x v left 0 b k0 :=
  ⟨h.inv, hv, h0, hx, hl, fun j hj => by omega, h.cl, h.few, h.less⟩
theorem HgIn.bad {c : Cd} {u : Un} {L : List Int} {i : Nat} {b : Bool} {k0 : Nat} (h : HgIn c u L i b k0) {v : Int} {x : In7} (hv : L[i]? = some v) (h0 : 0 ≤ v) (hx : u.ins[i]? = some x) (hl : LeaveBad c u.stack x v) : ¬ RightH c u := fun hr => by
  obtain ⟨y, hy, hly⟩ := hr.1 i v (h.inv.reach hv h0)
  rw [hx] at hy
  cases hy
  unfold leaveR at hly
  rw [if_pos hl] at hly
  cases hly
theorem HgMid.reach {c : Cd} {u : Un} {L : List Int} {i : Nat} {x : In7} {v left : Int} {k : Nat} {b : Bool} {k0 : Nat} (h : HgMid c u L i x v left k b k0) {n : Nat} (hn : (behindR i x)[k]? = some n) : Rch c u n left :=
  .step (h.inv.reach h.here h.ge) h.ins h.lv (List.mem_of_getElem? hn)
theorem HgMid.far {c : Cd} {u : Un} {L : List Int} {i : Nat} {x : In7} {v left : Int} {k : Nat} {b : Bool} {k0 : Nat} (h : HgMid c u L i x v left k b k0) {n : Nat} (hn : (behindR i x)[k]? = some n) (hf : u.ins.length ≤ n) : ¬ RightH c u := fun hr => by
  obtain ⟨y, hy, -⟩ := hr.1 n left (h.reach hn)
  rw [List.getElem?_eq_none hf] at hy
  cases hy
theorem HgMid.two {c : Cd} {u : Un} {L : List Int} {i : Nat} {x : In7} {v left : Int} {k : Nat} {b : Bool} {k0 : Nat} (h : HgMid c u L i x v left k b k0) {n : Nat} (hn : (behindR i x)[k]? = some n) {a : Int} (ha : L[n]? = some a) (h0 : 0 ≤ a) (hne : a ≠ left) : ¬ RightH c u := fun hr =>
  hne (hr.2 n _ _ (h.inv.reach ha h0) (h.reach hn))
theorem HgMid.same {c : Cd} {u : Un} {L : List Int} {i : Nat} {x : In7} {v left : Int} {k : Nat} {b : Bool} {k0 : Nat} (h : HgMid c u L i x v left k b k0) {n : Nat} (hn : (behindR i x)[k]? = some n) (ha : L[n]? = some left) : HgMid c u L i x v left (k + 1) b k0 :=
  ⟨h.inv, h.here, h.ge, h.ins, h.lv, fun j hj m hm => by
    by_cases e : j = k
    · subst e
      rw [hn] at hm
      cases hm
      exact ha
    · exact h.past j (by omega) m hm, h.cl, h.few, h.less⟩
theorem HgMid.new {c : Cd} {u : Un} {L : List Int} {i : Nat} {x : In7} {v left : Int} {k : Nat} {b : Bool} {k0 : Nat} (h : HgMid c u L i x v left k b k0) {n : Nat} (hn : (behindR i x)[k]? = some n) {a : Int} (ha : L[n]? = some a) (h0 : a < 0) (hl : 0 ≤ left) : HgMid c u (L.set n left) i x v left (k + 1) true k0 := by
  obtain ⟨hnl, -⟩ := List.getElem?_eq_some_iff.1 ha
  have hself : (L.set n left)[n]? = some left := List.getElem?_set_self hnl
  have hot : ∀ (j : Nat) (w : Int), L[j]? = some w → 0 ≤ w → (L.set n left)[j]? = some w := fun j w hj hw => by
    have hne : n ≠ j := fun e => by subst e; rw [ha] at hj; cases hj; omega
    rw [List.getElem?_set_ne hne]; exact hj
  have hc := negN_set ha h0 hl
  have hf := h.few
  refine ⟨⟨by rw [List.length_set]; exact h.inv.len, fun j w hj => ?_, hot 0 0 h.inv.zero (by omega)⟩, hot i v h.here h.ge, h.ge, h.ins, h.lv, fun j hj m hm => ?_, (fun e => by cases e), by omega, fun _ => by omega⟩
  · by_cases e : n = j
    · subst e
      rw [hself] at hj
      cases hj
      exact .inr ⟨hl, h.reach hn⟩
    · rw [List.getElem?_set_ne e] at hj
      exact h.inv.sound j w hj
  · by_cases e : j = k
    · subst e
      rw [hn] at hm
      cases hm
      exact hself
    · exact hot m left (h.past j (by omega) m hm) hl
theorem HgMid.done {c : Cd} {u : Un} {L : List Int} {i : Nat} {x : In7} {v left : Int} {b : Bool} {k0 : Nat} (h : HgMid c u L i x v left (behindR i x).length b k0) : HgIn c u L (i + 1) b k0 :=
  ⟨h.inv, fun e j hj => by
    by_cases he : j = i
    · subst he
      intro w hw _
      have := h.here
      rw [hw] at this
      cases this
      refine ⟨x, left, h.ins, h.lv, fun n hn => ?_⟩
      obtain ⟨m, hm, e2⟩ := List.getElem_of_mem hn
      exact h.past m hm n (by rw [List.getElem?_eq_getElem hm, e2])
    · exact h.cl e j (by omega), h.few, h.less⟩
theorem HgIn.all {c : Cd} {u : Un} {L : List Int} {k0 : Nat} (h : HgIn c u L u.ins.length false k0) (ha : InsAll c u) (hs : 0 ≤ u.stack ∧ u.stack ≤ 256) : ∀ j v, Rch c u j v → L[j]? = some v := fun j v hr => by
  induction hr with
  | zero => exact h.inv.zero
  | @step i n hh left x hr hx hl hn ih =>
    have hi : i < u.ins.length := (List.getElem?_eq_some_iff.1 hx).1
    obtain ⟨y, l2, hy, hl2, hb⟩ := h.cl rfl i hi hh ih (rch_range ha hs hr).1
    rw [hx] at hy
    cases hy
    rw [hl] at hl2
    cases hl2
    exact hb n hn
theorem HgIn.right {c : Cd} {u : Un} {L : List Int} {k0 : Nat} (h : HgIn c u L u.ins.length false k0) (ha : InsAll c u) (hs : 0 ≤ u.stack ∧ u.stack ≤ 256) : RightH c u := by
  refine ⟨fun i v hr => ?_, fun i a b h1 h2 => ?_⟩
  · have hv := h.all ha hs i v hr
    have hi : i < u.ins.length := by rw [← h.inv.len]; exact (List.getElem?_eq_some_iff.1 hv).1
    obtain ⟨y, l2, hy, hl2, -⟩ := h.cl rfl i hi v hv (rch_range ha hs hr).1
    exact ⟨y, hy, by rw [hl2]⟩
  · have e1 := h.all ha hs i a h1
    rw [h.all ha hs i b h2] at e1
    cases e1
    rfl
theorem HgIn.hts {c : Cd} {u : Un} {L : List Int} {k0 : Nat} (h : HgIn c u L u.ins.length false k0) (ha : InsAll c u) (hs : 0 ≤ u.stack ∧ u.stack ≤ 256) : L = hts c u := by
  have hR := h.right ha hs
  refine List.ext_getElem (by rw [hts_len, h.inv.len]) fun j h1 h2 => ?_
  rw [hts_at h2]
  rcases h.inv.sound j L[j] (List.getElem?_eq_getElem h1) with e | ⟨-, e⟩
  · rw [e, htR_no fun ⟨v, hv⟩ => by
      have := h.all ha hs j v hv
      rw [List.getElem?_eq_getElem h1, e] at this
      cases this
      have := (rch_range ha hs hv).1
      omega]
  · rw [htR_of hR e]
theorem hg_start {c : Cd} {u : Un} (h1 : 1 ≤ u.ins.length) : HgInv c u ((List.replicate u.ins.length (-1)).set 0 0) := by
  refine ⟨by rw [List.length_set, List.length_replicate], fun j v hj => ?_, List.getElem?_set_self (by rw [List.length_replicate]; omega)⟩
  by_cases e : 0 = j
  · subst e
    rw [List.getElem?_set_self (by rw [List.length_replicate]; omega)] at hj
    cases hj
    exact .inr ⟨by omega, .zero⟩
  · rw [List.getElem?_set_ne e] at hj
    have := List.mem_of_getElem? hj
    exact .inl (List.eq_of_mem_replicate this)
theorem HgInv.begin {c : Cd} {u : Un} {L : List Int} (h : HgInv c u L) : HgIn c u L 0 false (negN L) := ⟨h, fun _ j hj => by omega, Nat.le_refl _, (fun e => by cases e)⟩
end Go.Proofs.YtechkkphbajmoaaGreatDoor
