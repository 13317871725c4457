/- store: All. -/
import Derived.Test.YtancnmbgncofiaaKRem
namespace Go.Proofs.Ytancnmbgncofiaa
open Go.RowKit

def intC (ps : List Int) : List Value := ps.map fun p => .int .i64 p
theorem intC_snoc (ps : List Int) (p : Int) : intC (ps ++ [p]) = intC ps ++ [.int .i64 p] := by unfold intC; simp

set_option maxHeartbeats 4000000 in
set_option maxRecDepth 100000 in
theorem kAll_any (most : Nat) (ks : List Kp) (h : Nat) (vk : Value) (w : World) (H : StIn w most ks h vk) :
    Calls Try.prog 12 #[.pointer (some ⟨h, 0, none⟩)] w fun e w' => ∃ v, e = .returned v ∧ w'.ownsRow w.heap.size 3 1 v ks.length (intC (posK ks)) ∧ Below w.heap.size w w' := by
  obtain ⟨i0, hi0, hz0, hz1, hz2⟩ := info_parts info_kint
  have HC := kThere_any most ks h vk w H
  have HH : Hid (StIn w most ks h vk) := H
  obtain ⟨-, h1, -⟩ := kcells2 H.blk
  obtain ⟨base, cap, hv, hc1, hc2⟩ := kown_val H.row
  have few := H.few
  obtain ⟨n, hn⟩ : ∃ n, n = ks.length := ⟨_, rfl⟩
  have HN : Hid (n = ks.length) := hn
  rw [← hn] at hv hc1 few ⊢
  subst hv
  clear hn H
  go_enter Try.func12, Try.ntmps12
  go_wp2_with fail
  refine HC.mono ?_
  rintro e w1 ⟨rfl, rfl⟩
  clear HC
  go_wp2
  go_loopw [3, 14] (fun va vi wr => ∃ i : Nat, i ≤ n ∧ vi = .int .i64 (i : Int) ∧ wr.ownsRow w.heap.size 3 1 va i (intC ((posK ks).take i)) ∧ Below w.heap.size w wr) (fun _ vi _ => n - (intOf vi).toNat)
  case atStart => exact ⟨0, Nat.zero_le _, rfl, World.ownsRow_nil _ _ _ _, Below.refl _ _⟩
  case round =>
    obtain ⟨i, hin, rfl, hown, hb⟩ := hrel
    have hbs := hb.size
    by_cases hlt : i < n
    · have hik : i < ks.length := by rw [← HN.out]; exact hlt
      obtain ⟨g, cap', hvk, -, -, hg, hcell⟩ := krow_cells HH.out.row (i := i) hik
      simp only [Value.slice.injEq] at hvk
      obtain ⟨rfl, -, -⟩ := hvk
      obtain ⟨c0, c1⟩ := hcell i hik
      have e0 : wr.cell? ⟨g, i * 2, none⟩ = some (.int .i64 (ks[i]).p) := (kbelow_cell hb hg).trans c0
      have e1 : wr.cell? ⟨g, i * 2 + 1, none⟩ = some (ks[i]).v := (kbelow_cell hb hg).trans c1
      have HT : Hid (intC ((posK ks).take (i + 1)) = intC ((posK ks).take i) ++ [.int .i64 (ks[i]).p]) := by
        show _ = _
        rw [List.take_succ_eq_append_getElem (by simpa using hik), intC_snoc]; simp
      obtain ⟨kp, hkp⟩ : ∃ kp, kp = (ks[i]).p := ⟨_, rfl⟩
      obtain ⟨kv, hkv⟩ : ∃ kv, kv = (ks[i]).v := ⟨_, rfl⟩
      rw [← hkp] at e0 HT
      rw [← hkv] at e1
      obtain ⟨kb, kn, kc, rfl⟩ : ∃ b n c, kv = .slice b n c := by
        obtain ⟨b, c, e, -⟩ := kown_val (HH.out.its (ks[i]) (List.getElem_mem hik)).1
        exact ⟨b, _, c, hkv.trans e⟩
      have HB : Hid (Below w.heap.size w wr) := hb
      clear hcell c0 c1 hkp hkv
      go_wp2_with (at_builtin; refine wpList_append_own _ rfl _ _ 42 rfl w.heap.size 3 i0 (.int .i64 0) 1 8 Try.underlying42 hi0 hz0 hz1 hz2 rfl (by decide) _ _ _ rfl ((hown.alloc _).alloc _) ⟨wr.heap.size + 1, 0, none⟩ 1 1 [.int .i64 kp] rfl rfl ?c1 ?c2 ?c3 ?c4 ?c5 ?_)
      case c1 =>
        intro j u hj
        match j, hj with
        | 0, hj => simp at hj; subst hj; simp [Addr.add]
      case c2 => intro u hu; simp at hu; subst hu; rfl
      case c3 => unfold maxLen; omega
      case c4 => omega
      case c5 => simp; omega
      intro v' w1 hown' hgrow _
      have hnx1 : Below w.heap.size w w1 := ((HB.out.alloc (by omega) _).alloc (by simp; omega) _).grown hgrow (by simp; omega) (fun k hk => (hown.lt k hk).1)
      go_wp2
      go_roundw
      case rel => exact ⟨i + 1, by omega, by go_num, by rw [HT.out]; exact hown', hnx1⟩
      case measure => simp [intOf]; omega
    · obtain rfl : i = n := by omega
      have hown2 : wr.ownsRow w.heap.size 3 1 u3 i (intC (posK ks)) := by
        have := hown
        rwa [List.take_of_length_le (by rw [List.length_map, ← HN.out]; exact Nat.le_refl _)] at this
      clear hown
      go_wp2
      go_ret
      exact ⟨_, rfl, hown2, hb⟩
end Go.Proofs.Ytancnmbgncofiaa
