/- store: remove. -/
import Derived.Test.YtancnmbgncofiaaKDel
namespace Go.Proofs.Ytancnmbgncofiaa
open Go.RowKit

/-- What a call of a store leaves: its block, and that of its row, may be others. -/
def StTo (w : World) (most : Nat) (h : Nat) (vk : Value) (L : List Kp) (vk' : Value) (w' : World) : Prop :=
  KpS (fun k => k = h ∨ vk.ownBlock = some k) w w' ∧ StIn w' most L h vk' ∧ ∀ q, vk'.ownBlock = some q → vk.ownBlock = some q ∨ w.heap.size ≤ q

theorem krem_end {w w1 : World} {most h g cap r at0 : Nat} {ks : List Kp} (H : StIn w most ks h (.slice (some ⟨g, 0, none⟩) (r + 1) cap)) (hr : ks.length = r + 1) (hat : at0 ≤ r) (row : w1.ownsRow 0 52 2 (.slice (some ⟨g, 0, none⟩) r cap) r (kpC (ks.eraseIdx at0))) (hk : KpS (fun k => k = g) w w1) :
    StTo w most h (.slice (some ⟨g, 0, none⟩) (r + 1) cap) (ks.eraseIdx at0) (.slice (some ⟨g, 0, none⟩) r cap) (w1.setCell ⟨h, 1, none⟩ (.slice (some ⟨g, 0, none⟩) r cap)) ∧ w1.cell? ⟨h, 1, none⟩ = some (.slice (some ⟨g, 0, none⟩) (r + 1) cap) ∧ w1.frozen? ⟨h, 1, none⟩ = false := by
  have hgh : g ≠ h := fun e => H.apart (by rw [← e]; rfl)
  have hb : w1.heap[h]? = w.heap[h]? := hk.block h H.lt (fun e => hgh e.symm)
  have hblk := hb.trans H.blk
  obtain ⟨-, c1, cf⟩ := kcells2 hblk
  have hl : (ks.eraseIdx at0).length = r := by rw [List.length_eraseIdx, if_pos (by omega)]; omega
  refine ⟨⟨?_, ⟨?_, ?_, fun k hkm => ?_, H.m1, H.m64, ?_, ?_⟩, fun q e => .inl e⟩, c1, cf 1⟩
  · exact (hk.wide (fun i _ e => .inr (by rw [e]; rfl))).set _ (fun _ => .inl rfl)
  · exact ksetCell_block _ hblk
  · rw [hl]
    exact kown_blocks row fun k e _ => Below.heap_setCell _ _ _ _ (fun e' => by simp only at e'; subst e'; exact hgh (Option.some.inj e))
  · have ho := H.its k (List.mem_of_mem_eraseIdx hkm)
    refine ⟨kown_blocks ho.1 fun q e hq => ?_, ho.2⟩
    obtain ⟨cur, hc⟩ := kown_type ho.1 e
    rw [Below.heap_setCell _ _ _ _ (fun e' => ?_), hk.block q hq (fun e' => ?_)]
    · rw [e'] at hc
      obtain ⟨cur', hc'⟩ := kown_type H.row (k := g) rfl
      rw [hc] at hc'
      simp at hc'
    · simp only at e'
      rw [e', H.blk] at hc
      simp at hc
  · have := H.few; omega
  · exact H.rise.sublist (List.eraseIdx_sublist ks at0)

set_option maxHeartbeats 4000000 in
set_option maxRecDepth 100000 in
theorem kRemove_any (most : Nat) (ks : List Kp) (h : Nat) (vk : Value) (at0 : Nat) (w : World) (H : StIn w most ks h vk) (hat : at0 < ks.length) :
    Calls Try.prog 19 #[.pointer (some ⟨h, 0, none⟩), .int .i64 (at0 : Int)] w fun e w' => e = .returned (.tuple #[]) ∧ ∃ vk', StTo w most h vk (ks.eraseIdx at0) vk' w' := by
  obtain ⟨g, cap, hv, hc1, hc2, hg, -⟩ := krow_cells H.row (i := at0) hat
  obtain ⟨r, hr⟩ : ∃ r, ks.length = r + 1 := ⟨ks.length - 1, by omega⟩
  subst hv
  rw [hr] at hat hc1 H ⊢
  have few := H.few
  obtain ⟨-, h1, -⟩ := kcells2 H.blk
  have HH : Hid (StIn w most ks h (.slice (some ⟨g, 0, none⟩) (r + 1) cap)) := H
  have hone : ∀ u ∈ kpC ks, u.oneCell' = true := fun u hu => by
    unfold kpC at hu
    rw [List.mem_flatMap] at hu
    obtain ⟨k, hk, hu⟩ := hu
    simp only [List.mem_cons, List.not_mem_nil, or_false] at hu
    rcases hu with rfl | rfl
    · rfl
    · exact kown_one (H.its k hk).1
  have hrow := H.row
  rw [hr] at hrow
  have HC : Hid (Calls Try.prog 24 #[.slice (some ⟨g, 0, none⟩) (r + 1) cap, .int .i64 (at0 : Int), .int .i64 ((at0 : Int) + 1)] w fun e w' => e = .returned (.slice (some ⟨g, 0, none⟩) r cap) ∧ w'.ownsRow 0 52 2 (.slice (some ⟨g, 0, none⟩) r cap) r (kpC (ks.eraseIdx at0)) ∧ KpS (fun k => k = g) w w') :=
    kDelete_any ks g cap at0 r w hrow (by omega) (by omega) hone
  have HR : Hid (ks.length = r + 1) := hr
  have har : at0 ≤ r := by omega
  have hr65 : r ≤ 65 := by omega
  clear H hr hrow hone hg
  go_enter Try.func19, Try.ntmps19
  go_wp2_with fail
  refine HC.out.mono ?_
  rintro e w1 ⟨rfl, hrow, hk⟩
  obtain ⟨hst, e1, f1⟩ := krem_end HH.out HR.out har hrow hk
  have HST : Hid (StTo w most h (.slice (some ⟨g, 0, none⟩) (r + 1) cap) (ks.eraseIdx at0) (.slice (some ⟨g, 0, none⟩) r cap) (w1.setCell ⟨h, 1, none⟩ (.slice (some ⟨g, 0, none⟩) r cap))) := hst
  clear hst hrow hk HC h1
  go_wp2
  go_end0
  exact ⟨rfl, _, HST.out⟩
end Go.Proofs.Ytancnmbgncofiaa
