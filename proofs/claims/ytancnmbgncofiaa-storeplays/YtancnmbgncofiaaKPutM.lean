/- store: what Put makes of what is kept, as mathematics. -/
import Derived.Test.YtancnmbgncofiaaKRem
namespace Go.Proofs.Ytancnmbgncofiaa
open Go.RowKit

abbrev PB := Int × List UInt8
/-- Positions and bytes. -/
abbrev prK (ks : List Kp) : List PB := ks.map fun k => (k.p, k.b)
theorem prK_fst (ks : List Kp) : (prK ks).map (·.1) = posK ks := by simp [List.map_map, Function.comp_def]

/-- The place of a position among rising ones, and whether it is there. -/
structure AtL (ps : List Int) (pos : Int) (at0 : Nat) (is : Bool) : Prop where
  le : at0 ≤ ps.length
  lo : ∀ i (h : i < ps.length), i < at0 → ps[i] < pos
  hi : ∀ i (h : i < ps.length), at0 ≤ i → pos ≤ ps[i]
  is : is = true ↔ ∃ h : at0 < ps.length, ps[at0] = pos
theorem AtIn.toL {ks : List Kp} {pos : Int} {at0 : Nat} {is : Bool} (h : AtIn ks pos at0 is) : AtL (posK ks) pos at0 is where
  le := by simpa using h.le
  lo := fun i hi h2 => by simpa using h.lo i (by simpa using hi) h2
  hi := fun i hi h2 => by simpa using h.hi i (by simpa using hi) h2
  is := by rw [h.is]; simp

/-- What is there with one more, or another. -/
def withL (l : List PB) (at0 : Nat) (is : Bool) (x : PB) : List PB := if is then l.set at0 x else l.take at0 ++ x :: l.drop at0
/-- What Put leaves. -/
def putL (most : Nat) (l : List PB) (at0 : Nat) (is : Bool) (x : PB) : List PB :=
  if (withL l at0 is x).length ≤ most then withL l at0 is x else (withL l at0 is x).eraseIdx (spareP ((withL l at0 is x).map (·.1)) at0)
def PutTo (most : Nat) (l : List PB) (x : PB) (l' : List PB) : Prop := ∃ at0 is, AtL (l.map (·.1)) x.1 at0 is ∧ l' = putL most l at0 is x

theorem prK_ins (ks : List Kp) (at0 : Nat) (x : Kp) : prK (insK ks at0 x) = withL (prK ks) at0 false (x.p, x.b) := by
  unfold insK withL prK; simp [List.map_take, List.map_drop]
theorem prK_set (ks : List Kp) (at0 : Nat) (x : Kp) : prK (ks.set at0 x) = withL (prK ks) at0 true (x.p, x.b) := by
  unfold withL prK; simp [List.map_set]
theorem prK_erase (ks : List Kp) (i : Nat) : prK (ks.eraseIdx i) = (prK ks).eraseIdx i := by
  unfold prK; rw [List.eraseIdx_eq_take_drop_succ, List.eraseIdx_eq_take_drop_succ, List.map_append, List.map_take, List.map_drop]

theorem kins_rise {ks : List Kp} {pos : Int} {at0 : Nat} (ha : AtIn ks pos at0 false) (hr : ks.Pairwise fun a b => a.p < b.p) (x : Kp) (hx : x.p = pos) : (insK ks at0 x).Pairwise fun a b => a.p < b.p := by
  unfold insK
  have hlo : ∀ a ∈ ks.take at0, a.p < pos := fun a h => by
    obtain ⟨i, hi, rfl⟩ := List.getElem_of_mem h
    rw [List.length_take] at hi
    rw [List.getElem_take]
    exact ha.lo i (by omega) (by omega)
  have hhi : ∀ b ∈ ks.drop at0, pos < b.p := fun b h => by
    obtain ⟨i, hi, rfl⟩ := List.getElem_of_mem h
    rw [List.length_drop] at hi
    rw [List.getElem_drop]
    have h1 := ha.hi (at0 + i) (by omega) (by omega)
    have h2 : at0 < ks.length := by omega
    have h3 : ¬ (ks[at0]).p = pos := fun e => by
      have := ha.is.2 ⟨h2, e⟩
      cases this
    have h4 := ha.hi at0 h2 (Nat.le_refl _)
    rcases Nat.eq_zero_or_pos i with rfl | hp
    · simp only [Nat.add_zero] at h1 ⊢; omega
    · have := krise hr h2 (by omega : at0 + i < ks.length) (by omega); omega
  refine List.pairwise_append.2 ⟨hr.sublist (List.take_sublist _ _), List.pairwise_cons.2 ⟨fun b hb => by rw [hx]; exact hhi b hb, hr.sublist (List.drop_sublist _ _)⟩, fun a h b hb => ?_⟩
  rcases List.mem_cons.1 hb with rfl | hb
  · rw [hx]; exact hlo a h
  · exact Int.lt_trans (hlo a h) (hhi b hb)
theorem kset_rise {ks : List Kp} {at0 : Nat} (hr : ks.Pairwise fun a b => a.p < b.p) (x : Kp) (h : at0 < ks.length) (hx : (ks[at0]).p = x.p) : (ks.set at0 x).Pairwise fun a b => a.p < b.p := by
  have e : (ks.set at0 x).map (·.p) = ks.map (·.p) := by
    rw [List.map_set, ← hx, ← List.getElem_map (f := fun k : Kp => k.p) (h := by simpa using h)]
    exact List.set_getElem_self _
  have h1 : (ks.map (·.p)).Pairwise (· < ·) := List.pairwise_map.2 hr
  rw [← e] at h1
  exact List.pairwise_map.1 h1

theorem kpC_set : ∀ (ks : List Kp) (i : Nat) (x : Kp), kpC (ks.set i x) = ((kpC ks).set (i * 2) (.int .i64 x.p)).set (i * 2 + 1) x.v
  | [], _, x => by simp [kpC_nil]
  | k :: ks, 0, x => by rw [List.set_cons_zero, kpC_cons, kpC_cons]; rfl
  | k :: ks, i + 1, x => by
    rw [List.set_cons_succ, kpC_cons, kpC_cons, kpC_set ks i x, show (i + 1) * 2 = i * 2 + 1 + 1 by omega]
    simp only [List.set_cons_succ]

theorem StTo.of_ins {w w3 w4 : World} {most h : Nat} {vk v3 : Value} {L : List Kp} (hb : Below w.heap.size w w3) (hi : InsRet w3 most L h v3 w4) : StTo w most h vk L v3 w4 :=
  ⟨(KpS.of hb).trans hi.1 (fun _ _ e => .inl e), hi.2.1, fun q e => .inr (Nat.le_trans hb.size (hi.2.2 q e))⟩
theorem StTo.then {w w4 w5 w6 : World} {most h : Nat} {vk v3 v6 : Value} {L L' : List Kp} (h1 : StTo w most h vk L v3 w4) (hb : Below w4.heap.size w4 w5) (h2 : StTo w5 most h v3 L' v6 w6) : StTo w most h vk L' v6 w6 := by
  have hs4 := h1.1.size
  have hs5 := hb.size
  refine ⟨(h1.1.trans (KpS.of (S := fun _ => False) hb) (fun _ _ h => h.elim)).trans h2.1 (fun i hi e => ?_), h2.2.1, fun q e => ?_⟩
  · rcases e with e | e
    · exact .inl e
    · rcases h1.2.2 i e with h9 | h9
      · exact .inr h9
      · omega
  · rcases h2.2.2 q e with h9 | h9
    · exact h1.2.2 q h9
    · right; omega
theorem StTo.behind {w w1 w2 : World} {most h : Nat} {vk v' : Value} {L : List Kp} (hb : Below w.heap.size w w1) (h2 : StTo w1 most h vk L v' w2) : StTo w most h vk L v' w2 :=
  ⟨(KpS.of hb).trans h2.1 (fun _ _ h => h), h2.2.1, fun q e => (h2.2.2 q e).imp id fun h => Nat.le_trans hb.size h⟩

theorem StTo.drew {w w' : World} {most h : Nat} {vk v' : Value} {L : List Kp} (H : StTo w most h vk L v' w') : StTo w most h vk L v' w'.drew :=
  ⟨H.1.trans (KpS.of (S := fun _ => False) ((Below.refl _ w').drew)) (fun _ _ h => h.elim), H.2.1.below ((Below.refl _ w').drew), H.2.2⟩
/-- One in the place of another. -/
theorem kset_end {w : World} {most h g cap at0 : Nat} {ks : List Kp} {x : Kp} (H : StIn w most ks h (.slice (some ⟨g, 0, none⟩) ks.length cap)) (hat : at0 < ks.length) (hp : (ks[at0]).p = x.p) (hx : KpOk w x) :
    StTo w most h (.slice (some ⟨g, 0, none⟩) ks.length cap) (ks.set at0 x) (.slice (some ⟨g, 0, none⟩) ks.length cap) ((w.setCell ⟨g, at0 * 2, none⟩ (.int .i64 x.p)).setCell ⟨g, at0 * 2 + 1, none⟩ x.v) := by
  have hgh : g ≠ h := fun e => H.apart (by rw [← e]; rfl)
  have hk : KpS (fun k => k = g) w ((w.setCell ⟨g, at0 * 2, none⟩ (.int .i64 x.p)).setCell ⟨g, at0 * 2 + 1, none⟩ x.v) := ((KpS.refl (fun k => k = g) w).set (p := ⟨g, at0 * 2, none⟩) _ (fun _ => rfl)).set (p := ⟨g, at0 * 2 + 1, none⟩) _ (fun _ => rfl)
  refine ⟨hk.wide (fun i _ e => .inr (by rw [e]; rfl)), ⟨(hk.block h H.lt (fun e => hgh e.symm)).trans H.blk, ?_, fun k hkm => ?_, H.m1, H.m64, by simpa using H.few, kset_rise H.rise x hat hp⟩, fun q e => .inl e⟩
  · rw [List.length_set, kpC_set]
    exact ((H.row.stored _ _).1.stored _ _).1
  · have ho : KpOk w k := by
      rcases List.mem_or_eq_of_mem_set hkm with h9 | h9
      · exact H.its k h9
      · rw [h9]; exact hx
    refine ⟨kown_blocks ho.1 fun q e hq => hk.block q hq (fun e' => ?_), ho.2⟩
    obtain ⟨cur, hc⟩ := kown_type ho.1 e
    obtain ⟨cur', hc'⟩ := kown_type H.row (k := g) rfl
    rw [e'] at hc
    rw [hc] at hc'
    simp at hc'
end Go.Proofs.Ytancnmbgncofiaa
