/- store: one is taken out. -/
import Derived.Test.YtancnmbgncofiaaKIns2
import Derived.Test.YtancnmbgncofiaaKSpare
namespace Go.Proofs.Ytancnmbgncofiaa
open Go.RowKit

theorem kstep_append_fits {P : Program} {ops : Array Oper} {o : Oper} {a : Act} {w : World} {K : Act → World → Prop} {Q : Exit → Act → World → Prop} {E : Prop} (s x : Operand) (t : TypeId)
    (ho : o.op = .call { callee := .builtin .append, args := #[s, x], argTypes := #[t, t] }) (hw : Region.wanted o (yielded ops a.tmps) = true)
    (base : Nat) (e : TypeId) (i : TypeInfo) (size : Nat) (ht : P.underlying t = some (.slice e)) (hi : P.info? e = some i) (hsize : i.size = size)
    (g n cap : Nat) (xs : List Value) (hs : a.eval s = .slice (some ⟨g, 0, none⟩) n cap) (hown : w.ownsRow base e size (.slice (some ⟨g, 0, none⟩) n cap) n xs)
    (ad : Addr) (m c : Nat) (news : List Value) (hx : a.eval x = .slice (some ad) m c) (hl : news.length = m * size) (hnews : ∀ j u, news[j]? = some u → w.cell? (ad.add j) = some u) (h1 : ∀ u ∈ news, u.oneCell' = true)
    (hroom : n + m ≤ cap) (r : Nat) (hr : n + m = r)
    (h : ∀ w', w'.ownsRow base e size (.slice (some ⟨g, 0, none⟩) r cap) r (xs ++ news) → w.grownBy w' (some g) → K (a.put o.dst (.slice (some ⟨g, 0, none⟩) r cap)) w') :
    if Region.wanted o (yielded ops a.tmps) = true then Oper.wp P o a w K Q else E := by
  rw [if_pos hw]
  subst hr
  obtain ⟨w', hrun, g1, g2⟩ := run_append_fits (P := P) w base t o.type e i size ht hi hsize g n cap xs hown ad m c news hl hnews h1 hroom
  unfold Oper.wp
  simp [execOp, ho, resolve, invoke, builtin, hs, hx, hrun, Result.andThen]
  exact h w' g1 g2

theorem krow_room {w : World} {e sz g n cap : Nat} {xs : List Value} (h : w.ownsRow 0 e sz (.slice (some ⟨g, 0, none⟩) n cap) n xs) : n ≤ cap ∧ cap ≤ maxLen ∧ ∀ j, j < cap * sz → (∃ u, w.cell? ⟨g, j, none⟩ = some u) ∧ w.frozen? ⟨g, j, none⟩ = false := by
  rcases h.2 with ⟨hh, -⟩ | ⟨g', cap', cur, hh, -, hg, h1, h2, hs, -⟩
  · cases hh
  · cases hh
    refine ⟨h1, h2, fun j hj => ⟨?_, ?_⟩⟩
    · refine ⟨cur[j]'(by omega), ?_⟩
      rw [cell_of_row _ _ j _ _ (0, 0) hg]
      exact Array.getElem?_eq_getElem (by omega)
    · simp only [World.frozen?, hg]; simp
theorem krow_cut {w : World} {e g n m cap : Nat} {ks : List Kp} (h : w.ownsRow 0 e 2 (.slice (some ⟨g, 0, none⟩) n cap) n (kpC ks)) (hm : m ≤ n) : w.ownsRow 0 e 2 (.slice (some ⟨g, 0, none⟩) m cap) m (kpC (ks.take m)) := by
  have hl := h.1
  rw [kpC_len] at hl
  rcases h.2 with ⟨hh, -⟩ | ⟨g', cap', cur, hh, hb, hg, h1, h2, hs, ht⟩
  · cases hh
  · cases hh
    refine ⟨by rw [kpC_len, List.length_take]; omega, .inr ⟨g, cap, cur, rfl, hb, hg, by omega, h2, hs, ?_⟩⟩
    rw [← kpC_take, ← ht, List.take_take, Nat.min_eq_left (by omega)]
theorem kset_far {w : World} {e g n cap j : Nat} {xs : List Value} (h : w.ownsRow 0 e 2 (.slice (some ⟨g, 0, none⟩) n cap) n xs) (hj : n * 2 ≤ j) (u : Value) : (w.setCell ⟨g, j, none⟩ u).ownsRow 0 e 2 (.slice (some ⟨g, 0, none⟩) n cap) n xs := by
  have h2 := (h.stored j u).1
  rwa [List.set_eq_of_length_le (by rw [h.1]; exact hj)] at h2

set_option maxRecDepth 100000 in
theorem kclear (W : World) (g o c : Nat) (ty : TypeId) {u0 u1 : Value} (d0 : W.cell? ⟨g, o, none⟩ = some u0) (d1 : W.cell? ⟨g, o + 1, none⟩ = some u1) (f0 : W.frozen? ⟨g, o, none⟩ = false) (f1 : W.frozen? ⟨g, o + 1, none⟩ = false) :
    (Builtin.clear_ #[45] ty #[.slice (some ⟨g, o, none⟩) 1 c]).run Try.prog W = .ok (.tuple #[]) ((W.setCell ⟨g, o, none⟩ (.int .i64 0)).setCell ⟨g, o + 1, none⟩ (.slice none 0 0)) := by
  obtain ⟨i0, hi0, hz0, hz1, hz2⟩ := info_parts info_kp
  have hv : ∀ w, (zeroValue 52).run Try.prog w = .ok (.agg #[.int .i64 0, .slice none 0 0]) w := fun w => by
    simp [zeroValue, typeInfo, hi0, hz0]
  have hzc : (Builtin.zeroCells (Value.agg #[.int .i64 0, .slice none 0 0]).cells 1).toList = [.int .i64 0, .slice none 0 0] := by kernel_rfl
  have hst := run_storeCells_cells (P := Try.prog) g o [.int .i64 0, .slice none 0 0] 0 W (by
    intro j hj
    match j, hj with
    | 0, _ => simp [d0]
    | 1, _ => simp [d1]) (by
    intro j hj
    match j, hj with
    | 0, _ => simpa using f0
    | 1, _ => simpa using f1) (by intro v hv'; simp at hv'; rcases hv' with rfl | rfl <;> rfl)
  simp only [Nat.add_zero] at hst
  simp [Builtin.clear_, run_underlying Try.underlying45, hv, hzc, hst]
  rfl

set_option maxHeartbeats 4000000 in
set_option maxRecDepth 100000 in
theorem kDelete_any (ks : List Kp) (g cap at0 r : Nat) (w : World) (row : w.ownsRow 0 52 2 (.slice (some ⟨g, 0, none⟩) (r + 1) cap) (r + 1) (kpC ks)) (hat : at0 ≤ r) (few : r ≤ 65) (hone : ∀ u ∈ kpC ks, u.oneCell' = true) :
    Calls Try.prog 24 #[.slice (some ⟨g, 0, none⟩) (r + 1) cap, .int .i64 (at0 : Int), .int .i64 ((at0 : Int) + 1)] w fun e w' => e = .returned (.slice (some ⟨g, 0, none⟩) r cap) ∧ w'.ownsRow 0 52 2 (.slice (some ⟨g, 0, none⟩) r cap) r (kpC (ks.eraseIdx at0)) ∧ KpS (fun k => k = g) w w' := by
  obtain ⟨i0, hi0, hz0, hz1, hz2⟩ := info_parts info_kp
  have hl := row.1
  rw [kpC_len] at hl
  obtain ⟨hc1, hc2, -⟩ := krow_room row
  unfold maxLen at hc2
  have HR1 : Hid (w.drew.ownsRow 0 52 2 (.slice (some ⟨g, 0, none⟩) at0 cap) at0 (kpC (ks.take at0))) := krow_cut row (by omega)
  have HNEW : Hid (∀ j u, (kpC (ks.drop (at0 + 1)))[j]? = some u → w.cell? ((⟨g, (at0 + 1) * 2, none⟩ : Addr).add j) = some u) := fun j u hj => by
    rw [← kpC_drop, List.getElem?_drop] at hj
    have := row.cells (g := g) rfl _ u hj
    rw [add_zero'] at this
    have e : (⟨g, (at0 + 1) * 2, none⟩ : Addr).add j = ⟨g, (at0 + 1) * 2 + j, none⟩ := by unfold Addr.add; split <;> simp_all
    rw [e]; exact this
  have HER : Hid (kpC (ks.take at0) ++ kpC (ks.drop (at0 + 1)) = kpC (ks.eraseIdx at0)) := by
    show _ = _
    rw [← kpC_app, List.eraseIdx_eq_take_drop_succ]
  have HON : Hid (∀ u ∈ kpC (ks.drop (at0 + 1)), u.oneCell' = true) := fun u hu => hone u (by rw [← kpC_drop] at hu; exact List.mem_of_mem_drop hu)
  have hln : (kpC (ks.drop (at0 + 1))).length = (r - at0) * 2 := by rw [kpC_len, List.length_drop]; omega
  obtain ⟨cs1, hcs1⟩ : ∃ cs, cs = kpC (ks.take at0) := ⟨_, rfl⟩
  obtain ⟨cs2, hcs2⟩ : ∃ cs, cs = kpC (ks.drop (at0 + 1)) := ⟨_, rfl⟩
  rw [← hcs1] at HR1 HER
  rw [← hcs2] at HNEW HER HON hln
  have HEND : Hid (∀ W, W.ownsRow 0 52 2 (.slice (some ⟨g, 0, none⟩) r cap) r (cs1 ++ cs2) → w.drew.grownBy W (some g) →
      (∃ u, W.cell? ⟨g, r * 2, none⟩ = some u) ∧ (∃ u, W.cell? ⟨g, r * 2 + 1, none⟩ = some u) ∧ W.frozen? ⟨g, r * 2, none⟩ = false ∧ W.frozen? ⟨g, r * 2 + 1, none⟩ = false ∧
      Hid (((W.setCell ⟨g, r * 2, none⟩ (.int .i64 0)).setCell ⟨g, r * 2 + 1, none⟩ (.slice none 0 0)).ownsRow 0 52 2 (.slice (some ⟨g, 0, none⟩) r cap) r (kpC (ks.eraseIdx at0)) ∧ KpS (fun k => k = g) w ((W.setCell ⟨g, r * 2, none⟩ (.int .i64 0)).setCell ⟨g, r * 2 + 1, none⟩ (.slice none 0 0)))) := fun W hW hg => by
    obtain ⟨-, -, hr⟩ := krow_room hW
    have a0 := hr (r * 2) (by omega)
    have a1 := hr (r * 2 + 1) (by omega)
    rw [HER.out] at hW
    exact ⟨a0.1, a1.1, a0.2, a1.2, kset_far (kset_far hW (by omega) _) (by omega) _, (((KpS.of (S := fun k => k = g) ((Below.refl w.heap.size w).drew)).grown hg fun k e _ => (Option.some.inj e).symm).set _ fun _ => rfl).set _ fun _ => rfl⟩
  have ea1 : ((at0 : Int) + 1) = ((at0 + 1 : Nat) : Int) := by omega
  rw [ea1]
  obtain ⟨at1, hat1⟩ : ∃ at1, at1 = at0 + 1 := ⟨_, rfl⟩
  rw [← hat1] at HNEW ⊢
  have hr1 : r - at0 = r + 1 - at1 := by omega
  rw [hr1] at hln
  have hne : ((at0 : Int) == (at1 : Int)) = false := by simp; omega
  have h1a : at0 ≤ at1 := by omega
  have h1b : at1 ≤ r + 1 := by omega
  have h1f : (at0 : Int) ≤ (at0 : Int) + 1 := by omega
  have h1e : (at1 : Int) ≤ (r : Int) + 1 := by omega
  have h1c : at0 ≤ cap := by omega
  have h1d : at1 ≤ cap := by omega
  have HSUM : Hid (at0 + (r + 1 - at1) = r) := (show _ = _ by omega)
  clear row hl hcs1 hcs2 ea1 hr1
  have HH0 : Hid (at1 = at0 + 1) := hat1
  clear hat1 hone hz0 hz2
  by_cases hce : cap = at1
  · obtain rfl : cs2 = [] := List.eq_nil_of_length_eq_zero (by omega)
    subst hce
    go_enter Try.func24, Try.ntmps24
    go_wp2_with fail
    refine mix_begin (n := 8) (S := fun w' => ∃ c' : ClsP (fun _ => True), w' = c'.1) (by kernel_rfl) rfl rfl ?_
    refine mix_seg (fuel := 2) (fuel' := 8) (idx := [0, 1, 2, 3, 4, 5]) (by decide +kernel) rfl rfl rfl (fun _ _ _ _ _ h => h) ⟨⟨w.drew, trivial⟩, rfl⟩ ?_
    show wpQuiet _ _ _ _ [_, _, _, _, _, _] _
    iterate 6 (go_big_quiet_step (exact rfl))
    refine wpQuiet_nil ?_
    refine mix_law (fuel := 1) (fuel' := 2) (i := 6) rfl (by decide +kernel) rfl rfl (by rfl) ?_
    intro K hK
    refine kstep_append_fits (.tmp 22) (.tmp 25) 45 rfl (by rfl) 0 52 i0 2 Try.underlying45 hi0 hz1 g at0 cap cs1 rfl HR1.out ⟨g, 0, none⟩ 0 0 [] rfl rfl (fun j u hj => by simp at hj) (by simp) (by omega) r (by have := HSUM.out; omega) ?_
    intro w1 hown1 hg1
    obtain ⟨⟨u0, d0⟩, ⟨u1, d1⟩, f0, f1, HE⟩ := HEND.out w1 hown1 hg1
    have hcl := fun ty => kclear w1 g (r * 2) (cap - r) ty d0 d1 f0 f1
    clear hown1 hg1 d0 d1 f0 f1
    refine hK.out _ _ ⟨⟨w1, trivial⟩, rfl⟩ ?_
    clear hK K
    simp only [Act.put, List.setIfInBounds_toArray, List.set_cons_zero, List.set_cons_succ]
    refine mix_seg (fuel := 0) (fuel' := 1) (idx := [7]) (by decide +kernel) rfl rfl rfl (fun _ _ _ _ _ h => h) ⟨⟨w1, trivial⟩, rfl⟩ ?_
    show wpQuiet _ _ _ _ [_] _
    iterate 1 (go_big_quiet_step (fail))
    refine wpQuiet_nil ?_
    refine mix_done (by decide +kernel) ?_
    go_wp2
    go_ret
    exact ⟨rfl, HE.out.1, HE.out.2⟩
  · clear h1f
    go_enter Try.func24, Try.ntmps24
    go_wp2_with fail
    refine mix_begin (n := 8) (S := fun w' => ∃ c' : ClsP (fun _ => True), w' = c'.1) (by kernel_rfl) rfl rfl ?_
    refine mix_seg (fuel := 2) (fuel' := 8) (idx := [0, 1, 2, 3, 4, 5]) (by decide +kernel) rfl rfl rfl (fun _ _ _ _ _ h => h) ⟨⟨w.drew, trivial⟩, rfl⟩ ?_
    show wpQuiet _ _ _ _ [_, _, _, _, _, _] _
    iterate 6 (go_big_quiet_step (exact rfl))
    refine wpQuiet_nil ?_
    refine mix_law (fuel := 1) (fuel' := 2) (i := 6) rfl (by decide +kernel) rfl rfl (by rfl) ?_
    intro K hK
    refine kstep_append_fits (.tmp 22) (.tmp 25) 45 rfl (by rfl) 0 52 i0 2 Try.underlying45 hi0 hz1 g at0 cap cs1 rfl HR1.out ⟨g, at1 * 2, none⟩ (r + 1 - at1) (cap - at1) cs2 rfl hln HNEW.out HON.out (by omega) r HSUM.out ?_
    intro w1 hown1 hg1
    obtain ⟨⟨u0, d0⟩, ⟨u1, d1⟩, f0, f1, HE⟩ := HEND.out w1 hown1 hg1
    have hcl := fun ty => kclear w1 g (r * 2) (cap - r) ty d0 d1 f0 f1
    clear hown1 hg1 d0 d1 f0 f1
    refine hK.out _ _ ⟨⟨w1, trivial⟩, rfl⟩ ?_
    clear hK K
    simp only [Act.put, List.setIfInBounds_toArray, List.set_cons_zero, List.set_cons_succ]
    refine mix_seg (fuel := 0) (fuel' := 1) (idx := [7]) (by decide +kernel) rfl rfl rfl (fun _ _ _ _ _ h => h) ⟨⟨w1, trivial⟩, rfl⟩ ?_
    show wpQuiet _ _ _ _ [_] _
    iterate 1 (go_big_quiet_step (fail))
    refine wpQuiet_nil ?_
    refine mix_done (by decide +kernel) ?_
    go_wp2
    go_ret
    exact ⟨rfl, HE.out.1, HE.out.2⟩
end Go.Proofs.Ytancnmbgncofiaa
