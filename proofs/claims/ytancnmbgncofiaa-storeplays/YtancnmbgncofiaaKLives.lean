/- store: the laws' Same, and the examples. -/
import Derived.Test.YtancnmbgncofiaaKX
namespace Go.Proofs.Ytancnmbgncofiaa
open Go.RowKit

set_option maxHeartbeats 4000000 in
set_option maxRecDepth 100000 in
theorem kSame_any (a b : List Int) (va vb : Value) (w : World) (ha : w.ownsRow 0 3 1 va a.length (intC a)) (hb : w.ownsRow 0 3 1 vb b.length (intC b)) (hl : a.length ≤ 1000) :
    Calls Try.prog 11 #[va, vb] w fun e w' => e = .returned (.bool (decide (a = b))) ∧ Below w.heap.size w w' := by
  obtain ⟨ba, ca, hva, ha1, ha2⟩ := kown_val ha
  obtain ⟨bb, cb, hvb, hb1, hb2⟩ := kown_val hb
  by_cases hne : a.length = b.length
  · obtain ⟨n, hn⟩ : ∃ n, n = a.length := ⟨_, rfl⟩
    have HN : Hid (n = a.length) := hn
    have HN2 : Hid (n = b.length) := hn.trans hne
    have hcell : ∀ j (hj : j < n), ∃ ga gb, ba = some ⟨ga, 0, none⟩ ∧ bb = some ⟨gb, 0, none⟩ ∧ ga < w.heap.size ∧ gb < w.heap.size ∧ w.cell? ⟨ga, j, none⟩ = some (.int .i64 (a.getD j 0)) ∧ w.cell? ⟨gb, j, none⟩ = some (.int .i64 (b.getD j 0)) := fun j hj => by
      have key : ∀ (x : List Int) (v : Value), w.ownsRow 0 3 1 v x.length (intC x) → ∀ (h : j < x.length), ∃ g c, v = .slice (some ⟨g, 0, none⟩) x.length c ∧ g < w.heap.size ∧ w.cell? ⟨g, j, none⟩ = some (.int .i64 (x.getD j 0)) := fun x v hx h => by
        rcases hx.2 with ⟨-, h0⟩ | ⟨g, cap, cur, rfl, _, hg, _⟩
        · omega
        · have := hx.cells (g := g) rfl j (.int .i64 x[j]) (by unfold intC; rw [List.getElem?_map, List.getElem?_eq_getElem h]; rfl)
          rw [add_zero'] at this
          rw [show x.getD j 0 = x[j] by rw [List.getD_eq_getElem?_getD, List.getElem?_eq_getElem h]; rfl]
          exact ⟨g, cap, rfl, (Array.getElem?_eq_some_iff.1 hg).1, this⟩
      obtain ⟨ga, c1, e1, l1, d1⟩ := key a va ha (by omega)
      obtain ⟨gb, c2, e2, l2, d2⟩ := key b vb hb (by omega)
      rw [hva] at e1
      rw [hvb] at e2
      simp only [Value.slice.injEq] at e1 e2
      exact ⟨ga, gb, e1.1, e2.1, l1, l2, d1, d2⟩
    have HC : Hid (∀ j (hj : j < n), ∃ ga gb, ba = some ⟨ga, 0, none⟩ ∧ bb = some ⟨gb, 0, none⟩ ∧ ga < w.heap.size ∧ gb < w.heap.size ∧ w.cell? ⟨ga, j, none⟩ = some (.int .i64 (a.getD j 0)) ∧ w.cell? ⟨gb, j, none⟩ = some (.int .i64 (b.getD j 0))) := hcell
    have hn1000 : n ≤ 1000 := by omega
    have t0 : ((n : Int) != (n : Int)) = false := by simp
    rw [← hn] at hva
    rw [show b.length = n by omega] at hvb
    subst hva hvb
    rw [← hn] at ha1
    rw [show b.length = n by omega] at hb1
    clear ha hb hcell hne hn hl
    go_enter Try.func11, Try.ntmps11
    go_wp2
    go_loopw [5] (fun vi wr => ∃ i : Nat, vi = .int .i64 (i : Int) ∧ i ≤ n ∧ (∀ j (hj : j < n), j < i → (a.getD j 0) = (b.getD j 0)) ∧ Below w.heap.size w wr) (fun vi _ => n - (intOf vi).toNat)
    case atStart => exact ⟨0, rfl, Nat.zero_le _, fun j hj h => absurd h (by omega), Below.refl _ _⟩
    case round =>
      obtain ⟨i, rfl, hin, hall, hb⟩ := hrel
      have HALL : Hid (∀ j (hj : j < n), j < i → (a.getD j 0) = (b.getD j 0)) := hall
      have HB : Hid (Below w.heap.size w wr) := hb
      clear hall
      by_cases hlt : i < n
      · obtain ⟨ga, gb, rfl, rfl, l1, l2, d1, d2⟩ := HC.out i hlt
        have e1 : wr.cell? ⟨ga, i, none⟩ = some (.int .i64 (a.getD i 0)) := (kbelow_cell hb l1).trans d1
        have e2 : wr.cell? ⟨gb, i, none⟩ = some (.int .i64 (b.getD i 0)) := (kbelow_cell hb l2).trans d2
        obtain ⟨x, hx⟩ : ∃ x, x = (a.getD i 0) := ⟨_, rfl⟩
        obtain ⟨y, hy⟩ : ∃ y, y = (b.getD i 0) := ⟨_, rfl⟩
        rw [← hx] at e1
        rw [← hy] at e2
        have HX : Hid (x = (a.getD i 0)) := hx
        have HY : Hid (y = (b.getD i 0)) := hy
        clear hx hy d1 d2 hb
        by_cases hxy : x = y
        · have t1 : (x != y) = false := by simp [hxy]
          have HXY : Hid (x = y) := hxy
          clear hxy
          go_wp2_with fail
          go_region
          go_wp2
          go_roundw
          case rel =>
            refine ⟨i + 1, by go_num, by omega, fun j hj h9 => ?_, HB.out.drew⟩
            rcases Nat.lt_or_ge j i with h | h
            · exact HALL.out j hj h
            · obtain rfl : j = i := by omega
              rw [← HX.out, ← HY.out]; exact HXY.out
          case measure => simp [intOf]; omega
        · have t1 : (x != y) = true := by simp [hxy]
          have HR : Hid (decide (a = b) = false) := by
            show _ = _
            simp
            intro e
            apply hxy
            rw [HX.out, HY.out]
            subst e
            rfl
          clear hxy
          go_wp2_with fail
          go_region
          go_wp2
          go_ret
          exact ⟨by rw [HR.out]; rfl, HB.out.drew⟩
      · have HR : Hid (decide (a = b) = true) := by
          show _ = _
          simp
          refine List.ext_getElem (by rw [← HN.out, ← HN2.out]) fun j h1 h2 => ?_
          have := HALL.out j (by rw [HN.out]; exact h1) (by have := HN.out; omega)
          rwa [List.getD_eq_getElem?_getD, List.getD_eq_getElem?_getD, List.getElem?_eq_getElem h1, List.getElem?_eq_getElem h2] at this
        go_wp2
        go_ret
        exact ⟨by rw [HR.out]; rfl, HB.out⟩
  · have HR : Hid (decide (a = b) = false) := by
      show _ = _
      simp
      intro e
      apply hne
      rw [e]
    obtain ⟨n, hn⟩ : ∃ n, n = a.length := ⟨_, rfl⟩
    obtain ⟨m, hm⟩ : ∃ m, m = b.length := ⟨_, rfl⟩
    rw [← hn] at hva hl hne ha1
    rw [← hm] at hvb hne hb1
    subst hva hvb
    have t0 : ((n : Int) != (m : Int)) = true := by simp; omega
    clear ha hb hn hm
    go_enter Try.func11, Try.ntmps11
    go_wp2
    go_ret
    exact ⟨by rw [HR.out]; rfl, Below.refl _ _⟩

/-- A store's call, and what of another store is there. -/
theorem StX.other {N N' : Nat} {w w' : World} {most m' : Nat} {l l2 : List PB} {h h' : Nat} {vk v' : Value} (H : StX N w most l h vk) (H' : StX N' w m' l2 h' v') (hk : KpS (fun k => k = h ∨ vk.ownBlock = some k) w w') (h1 : h' ≠ h) (h2 : ∀ q, v'.ownBlock = some q → vk.ownBlock ≠ some q) : StX N' w' m' l2 h' v' := by
  obtain ⟨ks, e, hs⟩ := H'.st
  obtain ⟨ks0, -, hs0⟩ := H.st
  refine ⟨⟨ks, e, hs.other hk ?_ ?_ (fun q cur hc => H.type hc (by decide) (by decide))⟩, H'.lo, H'.lk, H'.few⟩
  · rintro (h9 | h9)
    · exact h1 h9
    · obtain ⟨cur, hc⟩ := kown_type hs0.row h9
      rw [hs.blk] at hc
      simp at hc
  · rintro q e (h9 | h9)
    · subst h9
      obtain ⟨cur, hc⟩ := kown_type hs.row e
      rw [hs0.blk] at hc
      simp at hc
    · exact h2 q e h9

theorem StX.keepRow {N : Nat} {w w' : World} {most : Nat} {l : List PB} {h : Nat} {vk : Value} (H : StX N w most l h vk) (hk : KpS (fun k => k = h ∨ vk.ownBlock = some k) w w') {B ty sz n : Nat} {v : Value} {xs : List Value} (ho : w.ownsRow B ty sz v n xs) (h1 : ty ≠ 47) (h2 : ty ≠ 52) : w'.ownsRow B ty sz v n xs :=
  kown_blocks ho fun k e hlt => hk.block k hlt (by obtain ⟨cur, hc⟩ := kown_type ho e; exact H.type hc h1 h2)
theorem kbelowRow {w w' : World} {B ty sz n : Nat} {v : Value} {xs : List Value} (ho : w.ownsRow B ty sz v n xs) (hb : Below w.heap.size w w') : w'.ownsRow B ty sz v n xs := kown_blocks ho fun k _ hlt => hb.block k hlt
theorem StX.stays {N : Nat} {w w' : World} {most : Nat} {l : List PB} {h : Nat} {vk : Value} (H : StX N w most l h vk) (hk : KpS (fun k => k = h ∨ vk.ownBlock = some k) w w') : Below N w w' :=
  hk.below H.low fun i hi => hi.elim (fun e => e ▸ H.lo) (H.lk i)

theorem kNewX (m : Int) (w : World) :
    Calls Try.prog 4 #[.int .i64 m] w fun e w' => ∃ h, e = .returned (.pointer (some ⟨h, 0, none⟩)) ∧ StX w.heap.size w' (kMost m) [] h (.slice none 0 0) ∧ Below w.heap.size w w' :=
  (kNew_any m w).mono fun e w' ⟨he, h1, h2, _⟩ => ⟨_, he, ⟨⟨[], rfl, h1⟩, Nat.le_refl _, fun q e => by simp [Value.ownBlock] at e, Nat.zero_le _⟩, h2⟩

/-- What the example's store has behind so many. -/
def exL : Nat → List PB
  | 0 => []
  | 1 => [(0, [0])]
  | 2 => [(0, [0]), (10, [10])]
  | 3 => [(0, [0]), (10, [10]), (20, [20])]
  | _ => [(0, [0]), (20, [20]), (30, [30])]
theorem exL_put : ∀ i, i < 4 → putF 3 (exL i) (((10 * i : Nat) : Int), [(10 * i).toUInt8]) = exL (i + 1)
  | 0, _ => by decide
  | 1, _ => by decide
  | 2, _ => by decide
  | 3, _ => by decide
theorem exL_25 : putF 3 (exL 4) (25, []) = [(0, [0]), (20, [20]), (25, [])] := by decide
theorem exF_24 : floorF [(0, [0]), (20, [20]), (25, [])] 24 = some (20, [20]) := by decide
theorem exX_5 : putF 1 [] (5, []) = [(5, [])] := by decide
theorem exX_7 : putF 1 [(5, [])] (7, []) = [(5, [])] := by decide
theorem exX_3 : putF 1 [(5, [])] (3, []) = [(3, [])] := by decide
end Go.Proofs.Ytancnmbgncofiaa
