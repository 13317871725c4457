/- heap: a heap behind calls. -/
import Derived.Test.YtchpmnmngeebjaaDoorHAll
import Derived.Test.YtchpmnmngeebjaaDoorHLives
namespace Go.Proofs.YtchpmnmngeebjaaDoor
open Go.RowKit Go.Shelf

/-- What Set answers. -/
def setE (os : List Ob) (v : Vl) (i : Int) (x : Vl) : Int :=
  if refB os v = true then (if cellV x os.length = true then (if hasB i ((os[v.n.toNat]?).getD ([], [])).2.length = true then 0 else 10) else 2) else 2
/-- The objects then. -/
def setR (os : List Ob) (v : Vl) (i : Int) (x : Vl) : List Ob := if setE os v i x = 0 then setOs os v.n.toNat i.toNat x else os

theorem set_any {S : Nat → Prop} {most : Nat} {os : List Ob} {h : Nat} {vo vc : Value} (v x : Vl) (i : Int) (w : World) (H : HpIn S w most os h vo vc) (hv : smallV v) (hx : smallV x) (ht : TabsP w) :
    Calls Tryd.prog 19 #[.pointer (some ⟨h, 0, none⟩), vlV v, .int .i64 i, vlV x] w fun e w' => e = .returned (.int .i64 (setE os v i x)) ∧ KeptS S w w' ∧ HpIn S w' most (setR os v i x) h vo vc := by
  cases hr : refB os v with
  | false =>
    have e : setE os v i x = 2 := by unfold setE; rw [hr]; rfl
    have e' : setR os v i x = os := by unfold setR; rw [e]; rfl
    rw [e, e']
    exact (set_no v x i w H hv ht hr).mono fun e w' ⟨he, hb⟩ => ⟨he, KeptS.of hb, H.below hb⟩
  | true =>
    obtain ⟨j, hj, rfl⟩ := refB_form hr
    have eo : ((os[((j : Int)).toNat]?).getD ([], [])) = os[j] := by simp [hj]
    cases hc : cellV x os.length with
    | false =>
      have e : setE os ⟨4, j, []⟩ i x = 2 := by unfold setE; rw [hr, hc]; rfl
      have e' : setR os ⟨4, j, []⟩ i x = os := by unfold setR; rw [e]; rfl
      rw [e, e']
      refine (set_bad j hj x i w H hx ht (.inl hc)).mono fun e w' ⟨he, hb⟩ => ⟨?_, KeptS.of hb, H.below hb⟩
      rw [he, hc]; rfl
    | true =>
      cases hh : hasB i (os[j]).2.length with
      | false =>
        have e : setE os ⟨4, j, []⟩ i x = 10 := by unfold setE; simp only [hr, hc, eo, hh]; rfl
        have e' : setR os ⟨4, j, []⟩ i x = os := by unfold setR; rw [e]; rfl
        rw [e, e']
        refine (set_bad j hj x i w H hx ht (.inr ⟨hc, hh⟩)).mono fun e w' ⟨he, hb⟩ => ⟨?_, KeptS.of hb, H.below hb⟩
        rw [he, hc]; rfl
      | true =>
        have hi : 0 ≤ i ∧ i < (os[j]).2.length := by unfold hasB at hh; exact of_decide_eq_true hh
        obtain ⟨q, rfl⟩ : ∃ q : Nat, i = q := ⟨i.toNat, by omega⟩
        have e : setE os ⟨4, j, []⟩ q x = 0 := by unfold setE; simp only [hr, hc, eo, hh]; rfl
        have e' : setR os ⟨4, j, []⟩ q x = setOs os j q x := by unfold setR; rw [e]; rfl
        rw [e, e']
        exact set_ok j hj x q (by omega) w H hx ht hc

/-- A call that came in. -/
structure Ac where
  kind : Int
  tag : List UInt8
  cells : List Vl
  v : Vl
  x : Vl
  i : Int
/-- The objects behind a call, behind calls. -/
def actR (os : List Ob) (a : Ac) : List Ob := if a.kind = 1 then setR os a.v a.i a.x else if a.kind = 0 then (allocR 4096 os (a.tag, a.cells)).2.2 else os
def doneR (l : List Ac) : List Ob := l.foldl actR []
def smallA (a : Ac) : Prop := smallO (a.tag, a.cells) ∧ a.cells.length ≤ 1048576 ∧ smallV a.v ∧ smallV a.x ∧ (-9223372036854775808 ≤ a.i ∧ a.i ≤ 9223372036854775807)

/-- Calls that came in lie there. -/
def actsIn (w : World) (base : Option Addr) (l : List Ac) : Prop :=
  l = [] ∨ ∃ b o, base = some ⟨b, o, none⟩ ∧ b < w.heap.size ∧ ∀ j (hj : j < l.length), ∃ u, (u = .slice none 0 0 ∨ ∃ ad n c, u = .slice (some ad) n c) ∧ w.cell? ⟨b, o + j * 10, none⟩ = some (.int .i64 (l[j]).kind) ∧ w.cell? ⟨b, o + j * 10 + 1, none⟩ = some (.string (strB (l[j]).tag)) ∧ w.cell? ⟨b, o + j * 10 + 2, none⟩ = some u ∧ valsIn (fun _ => True) w u (l[j]).cells ∧
    (w.cell? ⟨b, o + j * 10 + 3, none⟩ = some (.int .i64 (l[j]).v.k) ∧ w.cell? ⟨b, o + j * 10 + 4, none⟩ = some (.int .i64 (l[j]).v.n) ∧ w.cell? ⟨b, o + j * 10 + 5, none⟩ = some (.string (strB (l[j]).v.s))) ∧
    (w.cell? ⟨b, o + j * 10 + 6, none⟩ = some (.int .i64 (l[j]).x.k) ∧ w.cell? ⟨b, o + j * 10 + 7, none⟩ = some (.int .i64 (l[j]).x.n) ∧ w.cell? ⟨b, o + j * 10 + 8, none⟩ = some (.string (strB (l[j]).x.s))) ∧ w.cell? ⟨b, o + j * 10 + 9, none⟩ = some (.int .i64 (l[j]).i)

theorem actsIn_below {w w' : World} {base : Option Addr} {l : List Ac} (h : actsIn w base l) (hb : Below w.heap.size w w') : actsIn w' base l := by
  rcases h with h | ⟨b, o, e, hlt, hall⟩
  · exact .inl h
  · refine .inr ⟨b, o, e, Nat.lt_of_lt_of_le hlt hb.size, fun j hj => ?_⟩
    obtain ⟨u, hf, q0, q1, q2, hv, ⟨q3, q4, q5⟩, ⟨q6, q7, q8⟩, q9⟩ := hall j hj
    have c := fun q => below_cell (g := b) (j := q) hb hlt
    exact ⟨u, hf, (c _).trans q0, (c _).trans q1, (c _).trans q2, hv.kept hb.size fun k _ hk => hb.block k hk, ⟨(c _).trans q3, (c _).trans q4, (c _).trans q5⟩, ⟨(c _).trans q6, (c _).trans q7, (c _).trans q8⟩, (c _).trans q9⟩

theorem doneR_snoc (l : List Ac) (i : Nat) (h : i < l.length) : doneR (l.take (i + 1)) = actR (doneR (l.take i)) l[i] := by
  unfold doneR
  rw [List.take_succ_eq_append_getElem h, List.foldl_append]
  rfl

theorem addr_plain (b o j : Nat) : (⟨b, o, none⟩ : Addr).add j = ⟨b, o + j, none⟩ := by
  unfold Addr.add
  split
  · rename_i h0; congr 1; omega
  · rfl

set_option maxRecDepth 100000 in
set_option maxHeartbeats 1000000 in
theorem own06_any (T : Nat → Prop) (l : List Vl) (vl : Value) (w : World) (hv : valsIn T w vl l) (hf : vl = .slice none 0 0 ∨ ∃ ad n c, vl = .slice (some ad) n c) (hl : l.length ≤ 1048576) :
    Calls Tryd.prog 40 #[vl] w fun e w' => ∃ v', e = .returned v' ∧ valsIn (fun k => w.heap.size ≤ k) w' v' l ∧ Below w.heap.size w w' := by
  obtain ⟨i0, hi0, hz0, hz1, hz2⟩ := info_parts info_val
  obtain ⟨base, cap, hvl, hc1, hc2, h3⟩ := hv
  have hl0 : (w.alloc (.cells #[] 25)).ownsRow w.heap.size 25 3 (.slice (some ⟨w.heap.size, 0, none⟩) 0 0) 0 [] := World.ownsRow_made w #[] 0 (Nat.le_refl _) (Nat.zero_le _) rfl
  have HB1 : Hid (Below w.heap.size w (w.alloc (.cells #[] 25))) := (Below.refl _ w).alloc (Nat.le_refl _) _
  rcases hf with rfl | ⟨ad, n, c, rfl⟩
  · simp only [Value.slice.injEq] at hvl
    have hl9 : l = [] := List.length_eq_zero_iff.1 hvl.2.1.symm
    subst hl9
    have HF : Hid (valsIn (fun k => w.heap.size ≤ k) (w.alloc (.cells #[] 25)) (.slice (some ⟨w.heap.size, 0, none⟩) 0 0) []) := ⟨_, 0, rfl, Nat.le_refl _, Nat.zero_le _, .inl rfl⟩
    clear h3 hvl
    go_enter Tryd.func40, Tryd.ntmps40
    go_wp2_with (at_builtin; refine wpList_append_own_none rfl _ _ 45 rfl w.heap.size 25 i0 3 Tryd.underlying45 hi0 _ 0 [] rfl hl0 rfl ?_)
    go_ret
    exact ⟨_, rfl, HF.out, HB1.out⟩
  · simp only [Value.slice.injEq] at hvl
    obtain ⟨rfl, rfl, rfl⟩ := hvl
    have hnews : ∀ j u, (vlC l)[j]? = some u → (w.alloc (.cells #[] 25)).cell? (ad.add j) = some u := fun j u hj => by
      rcases h3 with h3 | ⟨b, o, e, -, -, hc⟩
      · subst h3; simp [vlC] at hj
      · simp only [Option.some.injEq] at e
        subst e
        rw [addr_plain]
        exact Lib.cell?_alloc_some _ (hc j u hj)
    clear h3
    go_enter Tryd.func40, Tryd.ntmps40
    go_wp2_with (at_builtin; refine wpList_append_own_at _ rfl _ _ 45 rfl w.heap.size 25 i0 _ 3 32 Tryd.underlying45 hi0 hz0 hz1 hz2 rfl (by decide) _ _ _ rfl hl0 ad l.length c (vlC l) rfl (by rw [vlC_len]) hnews (vl_one l) (by unfold maxLen; omega) (by omega) (by simp) ?_; intro v' w1 hown' hgrow _ hat)
    go_ret
    refine ⟨v', rfl, ?_, HB1.out.grown hgrow (by simp) (fun k hk => (hl0.lt k hk).1)⟩
    rw [Nat.zero_add, List.nil_append] at hown'
    exact (valsIn_own hown').wide fun k hk => hk.1

set_option maxRecDepth 100000 in
set_option maxHeartbeats 4000000 in
theorem done_any (base : Option Addr) (cap : Nat) (l : List Ac) (w : World) (hin : actsIn w base l) (hs : ∀ a ∈ l, smallA a) (hl : l.length ≤ 60) (ht : TabsP w) :
    Calls Tryd.prog 16 #[.int .i64 4096, .slice base l.length cap] w fun e w' => e = .returned (.pointer (some ⟨w.heap.size, 0, none⟩)) ∧ (∃ vo vc, HpIn (fun k => w.heap.size ≤ k) w' 4096 (doneR l) w.heap.size vo vc) ∧ Below w.heap.size w w' := by
  have HT : Hid (TabsP w) := ht
  have HIN : Hid (actsIn w base l) := hin
  have HS : Hid (∀ a ∈ l, smallA a) := hs
  have cn := new_any 4096 w
  rw [show mostN 4096 = 4096 from rfl] at cn
  clear ht hin hs
  go_enter Tryd.func16, Tryd.ntmps16
  go_wp2_with fail
  refine cn.mono ?_
  clear cn
  rintro e w1 ⟨rfl, H1, hb1⟩
  have HH1 : Hid (HpIn (fun k => w.heap.size ≤ k) w1 4096 [] w.heap.size (.slice none 0 0) (.slice none 0 0)) := H1
  have HB1 : Hid (Below w.heap.size w w1) := hb1
  clear H1 hb1
  go_wp2
  go_loopw [6] (fun vi wr => ∃ i : Nat, i ≤ l.length ∧ vi = .int .i64 i ∧ (∃ vo vc, HpIn (fun k => w.heap.size ≤ k) wr 4096 (doneR (l.take i)) w.heap.size vo vc) ∧ Below w.heap.size w wr) (fun vi _ => l.length - (intOf vi).toNat)
  case atStart => exact ⟨0, Nat.zero_le _, rfl, ⟨_, _, HH1.out⟩, HB1.out⟩
  case round =>
    obtain ⟨i, hi, rfl, ⟨vo, vc, hH⟩, hbw⟩ := hrel
    have HH : Hid (HpIn (fun k => w.heap.size ≤ k) wr 4096 (doneR (l.take i)) w.heap.size vo vc) := hH
    have HB : Hid (Below w.heap.size w wr) := hbw
    have hsw := hbw.size
    have hlth := hH.lt
    clear hH hbw HH1 HB1
    by_cases hlt : i < l.length
    · have hi2 : (i : Int) < l.length := by omega
      obtain ⟨b, o, rfl, hbl, hall⟩ : ∃ b o, base = some ⟨b, o, none⟩ ∧ b < w.heap.size ∧ _ := by
        rcases HIN.out with h9 | h9
        · rw [h9] at hlt; simp at hlt
        · exact h9
      obtain ⟨u, hform, q0, q1, q2, hvl, ⟨q3, q4, q5⟩, ⟨q6, q7, q8⟩, q9⟩ := hall i hlt
      have hsm := HS.out l[i] (List.getElem_mem hlt)
      have HNX : Hid (doneR (l.take (i + 1)) = actR (doneR (l.take i)) l[i]) := doneR_snoc l i hlt
      obtain ⟨A, hA⟩ : ∃ A, A = l[i] := ⟨_, rfl⟩
      rw [← hA] at q0 q1 q3 q4 q5 q6 q7 q8 q9 hvl hsm HNX
      have r0 := (below_cell HB.out hbl).trans q0
      have r1 := (below_cell HB.out hbl).trans q1
      have r2 := (below_cell HB.out hbl).trans q2
      have r3 := (below_cell HB.out hbl).trans q3
      have r4 := (below_cell HB.out hbl).trans q4
      have r5 := (below_cell HB.out hbl).trans q5
      have r6 := (below_cell HB.out hbl).trans q6
      have r7 := (below_cell HB.out hbl).trans q7
      have r8 := (below_cell HB.out hbl).trans q8
      have r9 := (below_cell HB.out hbl).trans q9
      obtain ⟨hso, hcl, hsv, hsx, hsi⟩ := hsm
      have hBd : Below wr.heap.size wr wr.drew := (Below.refl _ _).drew
      clear q0 q1 q2 q3 q4 q5 q6 q7 q8 q9 hA hall HIN
      by_cases h1 : A.kind = 1
      · have cs : ∀ W, Below wr.heap.size wr W → Calls Tryd.prog 19 #[.pointer (some ⟨w.heap.size, 0, none⟩), .agg #[.int .i64 A.v.k, .int .i64 A.v.n, .string (strB A.v.s)], .int .i64 A.i, .agg #[.int .i64 A.x.k, .int .i64 A.x.n, .string (strB A.x.s)]] W fun e w2 => ∃ er, e = .returned (.int .i64 er) ∧ Hid (HpIn (fun k => w.heap.size ≤ k) w2 4096 (doneR (l.take (i + 1))) w.heap.size vo vc) ∧ Hid (Below w.heap.size w w2) := fun W hW => by
          have hbW : Below w.heap.size w W := HB.out.trans (hW.mono hsw)
          refine (set_any A.v A.x A.i W (HH.out.below hW) hsv hsx (HT.out.below hbW (Nat.le_refl _))).mono ?_
          rintro e w2 ⟨rfl, hk, H2⟩
          refine ⟨_, rfl, ?_, hbW.trans (hk.below hbW.size (fun _ h => h))⟩
          show HpIn _ _ _ _ _ _ _
          rw [HNX.out]
          unfold actR
          rw [if_pos h1]
          exact H2
        rw [h1] at r0
        go_wp2_with fail
        go_region_with (go_at_call 19; refine (cs _ hBd).mono ?_; rintro e w2 ⟨er, rfl, H2, HB2⟩)
        all_goals
          go_wp2
          exact ⟨⟨i + 1, by omega, by go_num, ⟨_, _, H2.out⟩, HB2.out⟩, by simp [intOf]; omega⟩
      · have hk1 : (A.kind == 1) = false := by rw [beq_eq_false_iff_ne]; exact h1
        by_cases h0 : A.kind = 0
        · have co : ∀ W, Below wr.heap.size wr W → Calls Tryd.prog 40 #[u] W fun e w2 => ∃ v2, e = .returned v2 ∧ w2.cell? ⟨b, o + i * 10 + 1, none⟩ = some (.string (strB A.tag)) ∧ Hid (valsIn (fun k => wr.heap.size ≤ k) w2 v2 A.cells) ∧ Hid (Below wr.heap.size wr w2) := fun W hW => by
            have hbW : Below w.heap.size w W := HB.out.trans (hW.mono hsw)
            refine (own06_any (fun _ => True) A.cells u W ((hvl.kept HB.out.size fun k _ hk => HB.out.block k hk).kept hW.size fun k _ hk => hW.block k hk) hform hcl).mono ?_
            rintro e w2 ⟨v2, rfl, hv2, hb2⟩
            have h2 : Below wr.heap.size wr w2 := hW.trans (hb2.mono hW.size)
            exact ⟨v2, rfl, (below_cell h2 (by omega)).trans r1, hv2.wide fun k hk => Nat.le_trans hW.size hk, h2⟩
          have cal : ∀ W v2, valsIn (fun k => wr.heap.size ≤ k) W v2 A.cells → Below wr.heap.size wr W → Calls Tryd.prog 21 #[.pointer (some ⟨w.heap.size, 0, none⟩), .string (strB A.tag), v2] W fun e w3 => ∃ z er, e = .returned (.tuple #[z, er]) ∧ Hid (∃ vo' vc', HpIn (fun k => w.heap.size ≤ k) w3 4096 (doneR (l.take (i + 1))) w.heap.size vo' vc') ∧ Hid (Below w.heap.size w w3) := fun W v2 hv2 hW => by
            have hbW : Below w.heap.size w W := HB.out.trans (hW.mono hsw)
            refine (alloc_any (A.tag, A.cells) v2 W (HH.out.below hW) hv2 hso hcl (HT.out.below hbW (Nat.le_refl _))).mono ?_
            rintro e w3 ⟨rfl, hk, vo', vc', H3⟩
            refine ⟨_, _, rfl, ⟨vo', vc', ?_⟩, hbW.trans (hk.below hbW.size (fun _ h => h))⟩
            rw [HNX.out]
            unfold actR
            rw [if_neg h1, if_pos h0]
            exact H3.wide fun k _ hk => by have := hbW.size; rcases hk with hk | hk <;> omega
          rw [h0] at r0
          clear hk1
          go_wp2_with fail
          go_region_with (first
            | (go_at_call 40; refine (co _ hBd).mono ?_; rintro e w2 ⟨v2, rfl, tg2, HV2, HB2⟩)
            | (go_at_call 21; refine (cal _ v2 HV2.out HB2.out).mono ?_; rintro e w3 ⟨z3, er3, rfl, H3, HB3⟩))
          all_goals
            go_wp2
            exact ⟨⟨i + 1, by omega, by go_num, H3.out, HB3.out⟩, by simp [intOf]; omega⟩
        · have hk0 : (A.kind == 0) = false := by rw [beq_eq_false_iff_ne]; exact h0
          have HH2 : Hid (HpIn (fun k => w.heap.size ≤ k) wr 4096 (doneR (l.take (i + 1))) w.heap.size vo vc) := by
            show HpIn _ _ _ _ _ _ _
            rw [HNX.out]
            unfold actR
            rw [if_neg h1, if_neg h0]
            exact HH.out
          go_wp2
          exact ⟨⟨i + 1, by omega, by go_num, ⟨_, _, HH2.out⟩, HB.out⟩, by simp [intOf]; omega⟩
    · obtain rfl : i = l.length := by omega
      have hi2 : ¬ (l.length : Int) < l.length := by omega
      have HHL : Hid (HpIn (fun k => w.heap.size ≤ k) wr 4096 (doneR l) w.heap.size vo vc) := by
        have := HH.out
        rwa [List.take_length] at this
      go_wp2
      go_ret
      exact ⟨rfl, ⟨_, _, HHL.out⟩, HB.out⟩
end Go.Proofs.YtchpmnmngeebjaaDoor
