/- heap: a heap behind calls. -/
import Derived.Test.YtchpmnmngeebjaaGreatDoorHAll
import Derived.Test.YtchpmnmngeebjaaGreatDoorHLives
namespace Go.Proofs.YtchpmnmngeebjaaGreatDoor
open Go.RowKit Go.Shelf

/-- What Set answers. -/
def setE (os : List Ob) (v : Vl) (i : Int) (x : Vl) : Int :=
  if refB os v = true then (if cellV x os.length = true then (if hasB i ((os[v.n.toNat]?).getD ([], [])).2.length = true then 0 else 10) else 2) else 2
/-- The objects then. -/
def setR (os : List Ob) (v : Vl) (i : Int) (x : Vl) : List Ob := if setE os v i x = 0 then setOs os v.n.toNat i.toNat x else os

theorem set_any {S : Nat → Prop} {most : Nat} {os : List Ob} {h : Nat} {vo vc : Value} (v x : Vl) (i : Int) (w : World) (H : HpIn S w most os h vo vc) (hv : smallV v) (hx : smallV x) (ht : TabsP w) :
    Calls Tryz.prog 16 #[.pointer (some ⟨h, 0, none⟩), vlV v, .int .i64 i, vlV x] w fun e w' => e = .returned (.int .i64 (setE os v i x)) ∧ KeptS S w w' ∧ HpIn S w' most (setR os v i x) h vo vc := by
  cases hr : refB os v with
  | false =>
    have e : setE os v i x = 2 := by unfold setE; rw [hr]; rfl
    have e' : setR os v i x = os := by unfold setR; rw [e]; rfl
    rw [e, e']
    exact (set_no v x i w H hv ht hr).mono fun e w' ⟨he, hb⟩ => ⟨he, KeptS.of hb, H.below hb⟩
  | true =>
    obtain ⟨j, hj, rfl⟩ := refB_form hr
    have eo : ((os[((j : Int)).toNat]?).getD ([], [])) = os[j] := by simp [hj]
    cases hc : cellV x os.length with
    | false =>
      have e : setE os ⟨4, j, []⟩ i x = 2 := by unfold setE; rw [hr, hc]; rfl
      have e' : setR os ⟨4, j, []⟩ i x = os := by unfold setR; rw [e]; rfl
      rw [e, e']
      refine (set_bad j hj x i w H hx ht (.inl hc)).mono fun e w' ⟨he, hb⟩ => ⟨?_, KeptS.of hb, H.below hb⟩
      rw [he, hc]; rfl
    | true =>
      cases hh : hasB i (os[j]).2.length with
      | false =>
        have e : setE os ⟨4, j, []⟩ i x = 10 := by unfold setE; simp only [hr, hc, eo, hh]; rfl
        have e' : setR os ⟨4, j, []⟩ i x = os := by unfold setR; rw [e]; rfl
        rw [e, e']
        refine (set_bad j hj x i w H hx ht (.inr ⟨hc, hh⟩)).mono fun e w' ⟨he, hb⟩ => ⟨?_, KeptS.of hb, H.below hb⟩
        rw [he, hc]; rfl
      | true =>
        have hi : 0 ≤ i ∧ i < (os[j]).2.length := by unfold hasB at hh; exact of_decide_eq_true hh
        obtain ⟨q, rfl⟩ : ∃ q : Nat, i = q := ⟨i.toNat, by omega⟩
        have e : setE os ⟨4, j, []⟩ q x = 0 := by unfold setE; simp only [hr, hc, eo, hh]; rfl
        have e' : setR os ⟨4, j, []⟩ q x = setOs os j q x := by unfold setR; rw [e]; rfl
        rw [e, e']
        exact set_ok j hj x q (by omega) w H hx ht hc

/-- A call that came in. -/
structure Ac where
  kind : Int
  tag : List UInt8
  cells : List Vl
  v : Vl
  x : Vl
  i : Int
/-- The objects behind a call, behind calls. -/
def actR (os : List Ob) (a : Ac) : List Ob := if a.kind = 1 then setR os a.v a.i a.x else if a.kind = 0 then (allocR 4096 os (a.tag, a.cells)).2.2 else os
def doneR (l : List Ac) : List Ob := l.foldl actR []
def smallA (a : Ac) : Prop := smallO (a.tag, a.cells) ∧ a.cells.length ≤ 1048576 ∧ smallV a.v ∧ smallV a.x ∧ (-9223372036854775808 ≤ a.i ∧ a.i ≤ 9223372036854775807)

/-- Calls that came in lie there. -/
def actsIn (w : World) (base : Option Addr) (l : List Ac) : Prop :=
  l = [] ∨ ∃ b o, base = some ⟨b, o, none⟩ ∧ b < w.heap.size ∧ ∀ j (hj : j < l.length), ∃ u, (u = .slice none 0 0 ∨ ∃ ad n c, u = .slice (some ad) n c) ∧ w.cell? ⟨b, o + j * 10, none⟩ = some (.int .i64 (l[j]).kind) ∧ w.cell? ⟨b, o + j * 10 + 1, none⟩ = some (.string (strB (l[j]).tag)) ∧ w.cell? ⟨b, o + j * 10 + 2, none⟩ = some u ∧ valsIn (fun _ => True) w u (l[j]).cells ∧
    (w.cell? ⟨b, o + j * 10 + 3, none⟩ = some (.int .i64 (l[j]).v.k) ∧ w.cell? ⟨b, o + j * 10 + 4, none⟩ = some (.int .i64 (l[j]).v.n) ∧ w.cell? ⟨b, o + j * 10 + 5, none⟩ = some (.string (strB (l[j]).v.s))) ∧
    (w.cell? ⟨b, o + j * 10 + 6, none⟩ = some (.int .i64 (l[j]).x.k) ∧ w.cell? ⟨b, o + j * 10 + 7, none⟩ = some (.int .i64 (l[j]).x.n) ∧ w.cell? ⟨b, o + j * 10 + 8, none⟩ = some (.string (strB (l[j]).x.s))) ∧ w.cell? ⟨b, o + j * 10 + 9, none⟩ = some (.int .i64 (l[j]).i)

theorem actsIn_below {w w' : World} {base : Option Addr} {l : List Ac} (h : actsIn w base l) (hb : Below w.heap.size w w') : actsIn w' base l := by
  rcases h with h | ⟨b, o, e, hlt, hall⟩
  · exact .inl h
  · refine .inr ⟨b, o, e, Nat.lt_of_lt_of_le hlt hb.size, fun j hj => ?_⟩
    obtain ⟨u, hf, q0, q1, q2, hv, ⟨q3, q4, q5⟩, ⟨q6, q7, q8⟩, q9⟩ := hall j hj
    have c := fun q => below_cell (g := b) (j := q) hb hlt
    exact ⟨u, hf, (c _).trans q0, (c _).trans q1, (c _).trans q2, hv.kept hb.size fun k _ hk => hb.block k hk, ⟨(c _).trans q3, (c _).trans q4, (c _).trans q5⟩, ⟨(c _).trans q6, (c _).trans q7, (c _).trans q8⟩, (c _).trans q9⟩

theorem doneR_snoc (l : List Ac) (i : Nat) (h : i < l.length) : doneR (l.take (i + 1)) = actR (doneR (l.take i)) l[i] := by
  unfold doneR
  rw [List.take_succ_eq_append_getElem h, List.foldl_append]
  rfl

theorem addr_plain (b o j : Nat) : (⟨b, o, none⟩ : Addr).add j = ⟨b, o + j, none⟩ := by
  unfold Addr.add
  split
  · rename_i h0; congr 1; omega
  · rfl

set_option maxRecDepth 100000 in
set_option maxHeartbeats 1000000 in
theorem own06_any (T : Nat → Prop) (l : List Vl) (vl : Value) (w : World) (hv : valsIn T w vl l) (hf : vl = .slice none 0 0 ∨ ∃ ad n c, vl = .slice (some ad) n c) (hl : l.length ≤ 1048576) :
    Calls Tryz.prog 28 #[vl] w fun e w' => ∃ v', e = .returned v' ∧ valsIn (fun k => w.heap.size ≤ k) w' v' l ∧ Below w.heap.size w w' := by
  obtain ⟨i0, hi0, hz0, hz1, hz2⟩ := info_parts info_val
  obtain ⟨base, cap, hvl, hc1, hc2, h3⟩ := hv
  have hl0 : (w.alloc (.cells #[] 25)).ownsRow w.heap.size 25 3 (.slice (some ⟨w.heap.size, 0, none⟩) 0 0) 0 [] := World.ownsRow_made w #[] 0 (Nat.le_refl _) (Nat.zero_le _) rfl
  have HB1 : Hid (Below w.heap.size w (w.alloc (.cells #[] 25))) := (Below.refl _ w).alloc (Nat.le_refl _) _
  rcases hf with rfl | ⟨ad, n, c, rfl⟩
  · simp only [Value.slice.injEq] at hvl
    have hl9 : l = [] := List.length_eq_zero_iff.1 hvl.2.1.symm
    subst hl9
    have HF : Hid (valsIn (fun k => w.heap.size ≤ k) (w.alloc (.cells #[] 25)) (.slice (some ⟨w.heap.size, 0, none⟩) 0 0) []) := ⟨_, 0, rfl, Nat.le_refl _, Nat.zero_le _, .inl rfl⟩
    clear h3 hvl
    go_enter Tryz.func28, Tryz.ntmps28
    go_wp2_with (at_builtin; refine wpList_append_own_none rfl _ _ 33 rfl w.heap.size 25 i0 3 Tryz.underlying33 hi0 _ 0 [] rfl hl0 rfl ?_)
    go_ret
    exact ⟨_, rfl, HF.out, HB1.out⟩
  · simp only [Value.slice.injEq] at hvl
    obtain ⟨rfl, rfl, rfl⟩ := hvl
    have hnews : ∀ j u, (vlC l)[j]? = some u → (w.alloc (.cells #[] 25)).cell? (ad.add j) = some u := fun j u hj => by
      rcases h3 with h3 | ⟨b, o, e, -, -, hc⟩
      · subst h3; simp [vlC] at hj
      · simp only [Option.some.injEq] at e
        subst e
        rw [addr_plain]
        exact Lib.cell?_alloc_some _ (hc j u hj)
    clear h3
    go_enter Tryz.func28, Tryz.ntmps28
    go_wp2_with (at_builtin; refine wpList_append_own_at _ rfl _ _ 33 rfl w.heap.size 25 i0 _ 3 32 Tryz.underlying33 hi0 hz0 hz1 hz2 rfl (by decide) _ _ _ rfl hl0 ad l.length c (vlC l) rfl (by rw [vlC_len]) hnews (vl_one l) (by unfold maxLen; omega) (by omega) (by simp) ?_; intro v' w1 hown' hgrow _ hat)
    go_ret
    refine ⟨v', rfl, ?_, HB1.out.grown hgrow (by simp) (fun k hk => (hl0.lt k hk).1)⟩
    rw [Nat.zero_add, List.nil_append] at hown'
    exact (valsIn_own hown').wide fun k hk => hk.1

end Go.Proofs.YtchpmnmngeebjaaGreatDoor
