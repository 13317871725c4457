/- store: the document's own Floor. -/
import Derived.Test.YtancnmbgncofiaaKRef
namespace Go.Proofs.Ytancnmbgncofiaa
open Go.RowKit

/-- What the document's Floor answers. -/
def flV (l : List PB) (pos : Int) : Value := match floorF l pos with
  | none => .tuple #[.int .i64 0, .string ⟨#[]⟩, .bool false]
  | some x => .tuple #[.int .i64 x.1, .string ⟨x.2.toArray⟩, .bool true]

set_option maxHeartbeats 4000000 in
set_option maxRecDepth 100000 in
theorem rFloor_any (mo : Int) (l : List PB) (v : Value) (pos : Int) (w : World) (H : RfIn w v l) (hl : l.length ≤ 100) :
    Calls Try.prog 10 #[.agg #[.int .i64 mo, v], .int .i64 pos] w fun e w' => e = .returned (flV l pos) ∧ Below w.heap.size w w' := by
  obtain ⟨base, cap, hv, hc1, hc2⟩ := kown_val H
  obtain ⟨n, hn⟩ : ∃ n, n = l.length := ⟨_, rfl⟩
  have HN : Hid (n = l.length) := hn
  rw [← hn] at hv hc1 hl
  subst hv
  obtain ⟨w1, hw1⟩ : ∃ w1, w1 = w.alloc (.cells #[.int .i64 mo, .slice base n cap] 27) := ⟨_, rfl⟩
  have hb1 : Below w.heap.size w w1 := by rw [hw1]; exact (Below.refl _ w).alloc (Nat.le_refl _) _
  have hblk : w1.heap[w.heap.size]? = some (.cells #[.int .i64 mo, .slice base n cap] 27 (0, 0)) := by rw [hw1]; exact heap_alloc_new _ _
  obtain ⟨q0, q1, -⟩ := kcells2 hblk
  have HR : Hid (RfIn w1 (.slice base n cap) l) := H.below hb1
  have HB1 : Hid (Below w.heap.size w w1) := hb1
  have hw1' := hw1.symm
  clear hn H hw1 hblk hb1 q0
  go_enter Try.func10, Try.ntmps10
  go_wp2
  go_loopw [7] (fun vi wr => wr = w1 ∧ ∃ k : Nat, k ≤ n ∧ vi = .int .i64 ((k : Int) - 1) ∧ ∀ j (hj : j < l.length), k ≤ j → pos < (l[j]).1) (fun vi _ => (intOf vi + 1).toNat)
  case atStart => exact ⟨rfl, n, Nat.le_refl _, rfl, fun j hj h => absurd hj (by have := HN.out; omega)⟩
  case round =>
    clear hw1'
    obtain ⟨rfl, k, hkn, rfl, hall⟩ := hrel
    have HALL : Hid (∀ j (hj : j < l.length), k ≤ j → pos < (l[j]).1) := hall
    clear hall
    rcases Nat.eq_zero_or_pos k with hk0 | hk0
    · subst hk0
      have HFN : Hid (flV l pos = .tuple #[.int .i64 0, .string ⟨#[]⟩, .bool false]) := by
        show _ = _
        unfold flV
        rw [floorF_none (fun x hx => by
          obtain ⟨j, hj, rfl⟩ := List.getElem_of_mem hx
          exact HALL.out j hj (Nat.zero_le _))]
      go_wp2
      go_ret3
      exact ⟨by rw [HFN.out]; rfl, HB1.out⟩
    · obtain ⟨i, rfl⟩ : ∃ i, k = i + 1 := ⟨k - 1, by omega⟩
      have hik : i < l.length := by rw [← HN.out]; omega
      obtain ⟨g, cap', hvk, -, -, hg, hcell⟩ := ritem_cells HR.out (i := i) hik
      simp only [Value.slice.injEq] at hvk
      obtain ⟨rfl, -, -⟩ := hvk
      obtain ⟨c0, c1⟩ := hcell i hik
      have hie : (((i + 1 : Nat) : Int) - 1) = (i : Int) := by omega
      rw [hie]
      obtain ⟨kp, hkp⟩ : ∃ kp, kp = (l[i]).1 := ⟨_, rfl⟩
      obtain ⟨kb, hkb⟩ : ∃ kb, kb = (l[i]).2 := ⟨_, rfl⟩
      have HKP : Hid (kp = (l[i]).1) := hkp
      have HKB : Hid (kb = (l[i]).2) := hkb
      rw [← hkp] at c0
      rw [← hkb] at c1
      have hin : i < n := by omega
      clear hcell hkp hkb hie
      by_cases hle : kp ≤ pos
      · have HFS : Hid (flV l pos = .tuple #[.int .i64 kp, .string ⟨kb.toArray⟩, .bool true]) := by
          show _ = _
          unfold flV
          rw [floorF_some (i := i) hik (by rw [← HKP.out]; exact hle) (fun j hj h9 => HALL.out j hj h9)]
          simp only []
          rw [← HKP.out, ← HKB.out]
        have HBD : Hid (Below w.heap.size w wr.drew) := HB1.out.drew
        go_wp2_with fail
        go_region
        go_wp2
        go_ret3
        exact ⟨by rw [HFS.out]; rfl, HBD.out⟩
      · have HN2 : Hid (∀ j (hj : j < l.length), i ≤ j → pos < (l[j]).1) := fun j hj h9 => by
          rcases Nat.eq_or_lt_of_le h9 with h8 | h8
          · subst h8; have := HKP.out; omega
          · exact HALL.out j hj h8
        go_wp2
        go_roundw
        case rel => exact ⟨trivial, i, by omega, by go_num, HN2.out⟩
        case measure => simp [intOf]
end Go.Proofs.Ytancnmbgncofiaa
