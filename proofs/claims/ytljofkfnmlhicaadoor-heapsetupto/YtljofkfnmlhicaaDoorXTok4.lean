/- lex: a byte of a text. -/
import Derived.Test.YtljofkfnmlhicaaDoorXTok3
import Derived.LoopN
namespace Go.Proofs.YtljofkfnmlhicaaDoor
open Go.RowKit

set_option maxRecDepth 100000 in
theorem str_at (w : World) (l : List UInt8) (i : Nat) (h : i < l.length) : (Instr.index 9 (.string (strB l)) (.int .i64 (i : Int))).run Tryd.prog w = .ok (.int .u8 ((l[i]).toNat : Int)) w := by
  rw [run_index_string (P := Tryd.prog) (w := w) 9 (strB l) .i64 _ Tryd.underlying9, dif_pos ⟨by omega, by rw [strB_size]; omega⟩]
  simp only [Int.toNat_natCast]
  rfl

theorem ret2u {a : Nat × Nat} {c k : Nat} (h : a = (c, k)) : (Ending.returned (.tuple #[.int .u8 (c : Int), .int .i64 (k : Int)]) : Ending) = .returned (.tuple #[.int .u8 (a.1 : Int), .int .i64 (a.2 : Int)]) := by rw [h]

theorem tbR_bad {x : UInt8} {r : List UInt8} (h : x.toNat < 32 ∨ 126 < x.toNat) : tbR (x :: r) = (0, 0) := by
  show (if _ then _ else _) = _; rw [if_pos h]
theorem tbR_one {x : UInt8} {r : List UInt8} (h : ¬ (x.toNat < 32 ∨ 126 < x.toNat)) (h2 : x.toNat ≠ 92) : tbR (x :: r) = (x.toNat, 1) := by
  show (if _ then _ else _) = _; rw [if_neg h, if_pos h2]
theorem tbR_end {x : UInt8} (h : ¬ (x.toNat < 32 ∨ 126 < x.toNat)) (h2 : x.toNat = 92) : tbR [x] = (0, 0) := by
  show (if _ then _ else _) = _; rw [if_neg h, if_neg (by omega)]
/-- What a byte behind a \ stands for. -/
def tbE (m : Nat) : Nat × Nat := if m = 92 then (92, 2) else if m = 34 then (34, 2) else if m = 110 then (10, 2) else (0, 0)
theorem tbR_two {x y : UInt8} {t : List UInt8} (h : ¬ (x.toNat < 32 ∨ 126 < x.toNat)) (h2 : x.toNat = 92) : tbR (x :: y :: t) = tbE y.toNat := by
  show (if _ then _ else _) = _; rw [if_neg h, if_neg (by omega)]; rfl
def escW : List Nat := [92, 34, 110]
def escM : List Nat := [92, 34, 10]
theorem tbE_in {m i : Nat} (hi : i < 3) (h : ∀ j (hj : j < 3), j < i → (escW[j]'hj) ≠ m) (he : (escW[i]'hi) = m) : tbE m = ((escM[i]'hi), 2) := by
  have hc : i = 0 ∨ i = 1 ∨ i = 2 := by omega
  rcases hc with rfl | rfl | rfl
  · rw [← he]; rfl
  · rw [← he]; rfl
  · rw [← he]; rfl
theorem tbE_out {m : Nat} (h : ∀ j (hj : j < 3), (escW[j]'hj) ≠ m) : tbE m = (0, 0) := by
  have h0 : 92 ≠ m := h 0 (by decide)
  have h1 : 34 ≠ m := h 1 (by decide)
  have h2 : 110 ≠ m := h 2 (by decide)
  unfold tbE
  rw [if_neg (by omega), if_neg (by omega), if_neg (by omega)]

set_option maxRecDepth 100000 in
theorem idx_escs (w : World) (i : Nat) (h : i < 3) : (Instr.index 120 (.agg #[.int .u8 92, .int .u8 92, .int .u8 34, .int .u8 34, .int .u8 10, .int .u8 110]) (.int .i64 (i : Int))).run Tryd.prog w = .ok (.agg #[.int .u8 ((escM[i]'h : Nat) : Int), .int .u8 ((escW[i]'h : Nat) : Int)]) w := by
  have hc : i = 0 ∨ i = 1 ∨ i = 2 := by omega
  rcases hc with rfl | rfl | rfl
  all_goals rfl

set_option maxHeartbeats 2000000 in
set_option maxRecDepth 100000 in
theorem textByte_any (x : UInt8) (r : List UInt8) (w : World) (hl : r.length ≤ 9223372036854775000) (ht : Tabs w) :
    Calls Tryd.prog 83 #[.string (strB (x :: r))] w fun e w' => e = .returned (.tuple #[.int .u8 (tbR (x :: r)).1, .int .i64 (tbR (x :: r)).2]) ∧ Below w.heap.size w w' := by
  have h0 := fun wx => str_at wx (x :: r) 0 (by simp)
  rw [show ((0 : Nat) : Int) = 0 from rfl, show (x :: r)[0] = x from rfl] at h0
  have hsz : (strB (x :: r)).size = r.length + 1 := rfl
  obtain ⟨n, hn⟩ : ∃ n, n = x.toNat := ⟨_, rfl⟩
  have hn256 : n < 256 := by rw [hn]; exact UInt8.toNat_lt x
  rw [← hn] at h0
  obtain ⟨S, hS⟩ : ∃ S, S = strB (x :: r) := ⟨_, rfl⟩
  rw [← hS] at h0 hsz ⊢
  have e0 := ht.escs 0 (by decide)
  have e1 := ht.escs 1 (by decide)
  have e2 := ht.escs 2 (by decide)
  have e3 := ht.escs 3 (by decide)
  have e4 := ht.escs 4 (by decide)
  have e5 := ht.escs 5 (by decide)
  simp only [List.getElem_cons_zero, List.getElem_cons_succ] at e0 e1 e2 e3 e4 e5
  clear ht
  by_cases hbad : n < 32 ∨ 126 < n
  · have HR : Hid (tbR (x :: r) = (0, 0)) := tbR_bad (by rw [← hn]; exact hbad)
    clear hS hn
    rcases hbad with hb | hb
    · go_enter Tryd.func83, Tryd.ntmps83
      go_wp2
      go_ret2
      exact ⟨ret2u HR.out, Below.refl _ _⟩
    · go_enter Tryd.func83, Tryd.ntmps83
      go_wp2
      go_ret2
      exact ⟨ret2u HR.out, Below.refl _ _⟩
  · by_cases h92 : n = 92
    · cases r with
      | nil =>
        have HR : Hid (tbR [x] = (0, 0)) := tbR_end (by rw [← hn]; exact hbad) (by rw [← hn]; exact h92)
        have hsz1 : S.size = 1 := hsz
        clear hS hn hbad hsz
        subst h92
        go_enter Tryd.func83, Tryd.ntmps83
        go_wp2
        go_ret2
        exact ⟨ret2u HR.out, Below.refl _ _⟩
      | cons y t =>
        have h1 := fun wx => str_at wx (x :: y :: t) 1 (by simp)
        rw [show ((1 : Nat) : Int) = 1 from rfl, show (x :: y :: t)[1] = y from rfl] at h1
        obtain ⟨m, hm⟩ : ∃ m, m = y.toNat := ⟨_, rfl⟩
        have hm256 : m < 256 := by rw [hm]; exact UInt8.toNat_lt y
        rw [← hm, ← hS] at h1
        have HR0 : Hid (tbR (x :: y :: t) = tbE m) := show _ = _ by rw [hm]; exact tbR_two (by rw [← hn]; exact hbad) (by rw [← hn]; exact h92)
        have hszl : S.size = t.length + 2 := hsz
        have hne1 : ((t.length : Int) + 2 == 1) = false := by rw [beq_eq_false_iff_ne]; omega
        have htl : t.length + 1 ≤ 9223372036854775000 := by simpa using hl
        clear hS hn hbad hsz hm hl
        subst h92
        go_enter Tryd.func83, Tryd.ntmps83
        go_wp2
        clear e0 e1 e2 e3 e4 e5
        go_loopw [26] (fun v wr => ∃ i : Nat, i ≤ 3 ∧ v = .int .i64 i ∧ (∀ j (hj : j < 3), j < i → (escW[j]'hj) ≠ m) ∧ Below w.heap.size w wr) (fun v _ => 3 - (intOf v).toNat)
        case atStart => exact ⟨0, Nat.zero_le _, rfl, fun j _ h => by omega, Below.refl _ _⟩
        case round =>
          obtain ⟨i, hi, rfl, hall, hbw⟩ := hrel
          have HA : Hid (∀ j (hj : j < 3), j < i → (escW[j]'hj) ≠ m) := hall
          have HB : Hid (Below w.heap.size w wr) := hbw
          have hszw := hbw.size
          clear hall hbw
          by_cases hlt : i < 3
          · have hidx := fun wx => idx_escs wx i hlt
            obtain ⟨a, ha⟩ : ∃ a, a = escM[i]'hlt := ⟨_, rfl⟩
            obtain ⟨b, hb⟩ : ∃ b, b = escW[i]'hlt := ⟨_, rfl⟩
            rw [← ha, ← hb] at hidx
            by_cases he : b = m
            · have HR : Hid (tbR (x :: y :: t) = (a, 2)) := show _ = _ by rw [HR0.out, ha]; exact tbE_in hlt HA.out (by rw [← hb]; exact he)
              subst he
              clear ha hb
              go_wp2
              go_quiet (fail)
              go_wp2
              go_ret2
              refine ⟨ret2u HR.out, ?_⟩
              exact (HB.out.alloc hszw _).trans ⟨rfl, rfl, rfl, Nat.le_refl _, fun _ _ => rfl⟩
            · have hbe : ((b : Int) == (m : Int)) = false := by rw [beq_eq_false_iff_ne]; omega
              have HE : Hid ((escW[i]'hlt) ≠ m) := show (escW[i]'hlt) ≠ m by rw [← hb]; exact he
              clear ha hb he
              go_wp2
              go_quiet (fail)
              go_wp2
              refine ⟨⟨i + 1, by omega, by go_num, fun j hj hji => ?_, (HB.out.alloc hszw _).trans ⟨rfl, rfl, rfl, Nat.le_refl _, fun _ _ => rfl⟩⟩, by simp [intOf]; omega⟩
              by_cases h : j < i
              · exact HA.out j hj h
              · obtain rfl : j = i := by omega
                exact HE.out
          · obtain rfl : i = 3 := by omega
            have HR : Hid (tbR (x :: y :: t) = (0, 0)) := show _ = _ by rw [HR0.out]; exact tbE_out (fun j hj => HA.out j hj hj)
            go_wp2
            go_ret2
            exact ⟨ret2u HR.out, HB.out⟩
    · have HR : Hid (tbR (x :: r) = (n, 1)) := show tbR (x :: r) = (n, 1) by rw [hn]; exact tbR_one (by rw [← hn]; exact hbad) (by rw [← hn]; exact h92)
      have hb1 : 32 ≤ n := by omega
      have hb2 : n ≤ 126 := by omega
      clear hS hn hbad
      go_enter Tryd.func83, Tryd.ntmps83
      go_wp2
      go_ret2
      exact ⟨ret2u HR.out, Below.refl _ _⟩
end Go.Proofs.YtljofkfnmlhicaaDoor
