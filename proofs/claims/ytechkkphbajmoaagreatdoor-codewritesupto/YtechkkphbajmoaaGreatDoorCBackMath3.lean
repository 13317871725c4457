/- code: how long the bytes of a right code are; Bytes of a code that is not right; the code that has nothing. -/
import Derived.Test.YtechkkphbajmoaaGreatDoorCBackMath2
namespace Go.Proofs.YtechkkphbajmoaaGreatDoor
open Go.RowKit Go.Shelf

theorem numB_ten {n : Int} (h : I64 n) : (numB n).length ≤ 10 := numB_len h.1 h.2
theorem txB_most {s : List UInt8} (h : s.length ≤ 255) : (txB s).length ≤ 265 := by
  unfold txB
  have := numB_ten (n := (s.length : Int)) ⟨by omega, by omega⟩
  rw [List.length_append]
  omega
theorem flat_most {α : Type} (enc : α → List UInt8) (M : Nat) : ∀ l : List α, (∀ x ∈ l, (enc x).length ≤ M) → ((l.map enc).flatten).length ≤ l.length * M
  | [], _ => by simp
  | x :: t, h => by
    have h1 := h x (by simp)
    have h2 := flat_most enc M t fun y hy => h y (by simp [hy])
    simp only [List.map_cons, List.flatten_cons, List.length_append, List.length_cons, Nat.add_mul, Nat.one_mul]
    omega
theorem allB_most {α : Type} (enc : α → List UInt8) (M K : Nat) {l : List α} (h : ∀ x ∈ l, (enc x).length ≤ M) (hl : l.length ≤ K) (hK : K ≤ 1048576) : (allB enc l).length ≤ 10 + K * M := by
  unfold allB
  have h1 := numB_ten (n := (l.length : Int)) ⟨by omega, by omega⟩
  have h2 := flat_most enc M l h
  have h3 : l.length * M ≤ K * M := Nat.mul_le_mul_right M hl
  rw [List.length_append]
  omega

theorem right_len {c : Cd} (hc : rightC c = true) (hsm : SmallC c) (hints : IntsC c) (hun : ∀ u ∈ c.units, u.ins.length ≤ 1048576 ∧ u.vars.length ≤ 1048576) : (cdB c).length ≤ 140737488355328 := by
  have hok := right_ok hc hsm hints hun
  obtain ⟨hout, hall, -⟩ := rightC_parts hc
  unfold outR at hout
  simp only [Bool.and_eq_true, List.all_eq_true, decide_eq_true_eq] at hout
  obtain ⟨-, -, -, hsh, hnu, -⟩ := hout
  have hn32 : c.units.length ≤ 32 := by
    unfold namesR at hnu
    simp only [Bool.and_eq_true, decide_eq_true_eq, List.length_map] at hnu
    omega
  have a0 := allB_most txB 265 1048576 (fun s hs => txB_most (hok.1.1 s hs)) hok.1.2 (Nat.le_refl _)
  have a1 := allB_most shB 2395 1048576 (fun x hx => by
    have h1 := hok.2.1.1 x hx
    have h2 := txB_most h1.1
    have h3 := allB_most txB 265 8 (fun s hs => txB_most (h1.2.1 s hs)) (shR_few (hsh x hx)) (by omega)
    unfold shB
    rw [List.length_append]
    omega) hok.2.1.2 (Nat.le_refl _)
  have a2 := allB_most unB 310000000 32 (fun u hu => by
    have h1 := hok.2.2.1.1 u hu
    have h2 := txB_most h1.1
    have h3 := numB_ten h1.2.1
    have h4 := numB_ten h1.2.2.1
    have h5 := numB_ten h1.2.2.2.1
    obtain ⟨-, -, -, hni, -, -⟩ := unitR_parts (hall u hu)
    have h6 := allB_most insB 20 4096 (fun x hx => by
      have q := h1.2.2.2.2.2.1.1 x hx
      have q1 := numB_ten q.1
      have q2 := numB_ten q.2
      unfold insB
      rw [List.length_append]
      omega) hni.2 (by omega)
    have h7 := allB_most vrB 295 1048576 (fun x hx => by
      have q := h1.2.2.2.2.2.2.1 x hx
      have q0 := txB_most q.1
      have q1 := numB_ten q.2.1
      have q2 := numB_ten q.2.2.1
      have q3 := numB_ten q.2.2.2
      unfold vrB
      simp only [List.length_append]
      omega) h1.2.2.2.2.2.2.2 (Nat.le_refl _)
    unfold unB
    simp only [List.length_append, boolB_len]
    omega) hn32 (by omega)
  have a3 := numB_ten hok.2.2.2
  unfold cdB
  simp only [List.length_append]
  omega

/-- The code that has nothing. -/
def cZ : Cd := ⟨[], [], [], 0⟩
theorem cZ_small : SmallC cZ := by
  constructor <;> simp [cZ]
theorem cZ_ints : IntsC cZ := by
  constructor <;> simp [cZ, I64]
theorem cZ_len : (cdB cZ).length ≤ 140737488355328 := by
  decide +kernel
theorem cZ_in (w : World) : CodeIn (fun _ => False) w cZ (.slice none 0 0) (.slice none 0 0) (.slice none 0 0) :=
  ⟨⟨none, 0, rfl, Nat.le_refl _, Nat.zero_le _, .inl rfl⟩, ⟨none, 0, rfl, Nat.le_refl _, Nat.zero_le _, .inl rfl⟩, ⟨none, 0, rfl, Nat.le_refl _, Nat.zero_le _, .inl rfl⟩⟩
theorem strsIn_low {S : Nat → Prop} {w : World} {v : Value} {l : List (List UInt8)} (h : strsIn S w v l) : strsIn (fun q => q < w.heap.size) w v l := rowIn.wide h (fun _ hq _ => hq) fun _ _ _ h => h
theorem CodeIn.low {S : Nat → Prop} {w : World} {c : Cd} {vs vh vu : Value} (h : CodeIn S w c vs vh vu) : CodeIn (fun q => q < w.heap.size) w c vs vh vu :=
  ⟨strsIn_low h.strs, rowIn.wide h.shapes (fun _ hq _ => hq) fun _ _ _ ⟨a, u, b, d⟩ => ⟨a, u, b, strsIn_low d⟩,
    rowIn.wide h.units (fun _ hq _ => hq) fun _ _ _ ⟨a, b, d, e, f, ⟨u, g, i⟩, y, j, k⟩ => ⟨a, b, d, e, f, ⟨u, g, rowIn.wide i (fun _ hq _ => hq) fun _ _ _ h => h⟩, y, j, rowIn.wide k (fun _ hq _ => hq) fun _ _ _ h => h⟩⟩

set_option maxRecDepth 100000 in
set_option maxHeartbeats 4000000 in
theorem cBytes_no (S : Nat → Prop) (c : Cd) (bs bh bu : Option Addr) (ns cs nh ch nu cu : Nat) (w : World) (hin : CodeIn S w c (.slice bs ns cs) (.slice bh nh ch) (.slice bu nu cu)) (hsm : SmallC c) (ht : TabsP w) (hot : OpT w) (hR : rightC c = false) :
    Calls Tryz.prog 13 #[cdV (.slice bs ns cs) (.slice bh nh ch) (.slice bu nu cu) c.main] w fun e w' => e = .returned (.tuple #[.slice none 0 0, .int .i64 2]) ∧ Below w.heap.size w w' := by
  obtain ⟨m, hm⟩ : ∃ m, m = c.main := ⟨_, rfl⟩
  rw [← hm]
  obtain ⟨w2, hw2, hb2, HZ2, h0⟩ := box1 w (.cells #[.slice bs ns cs, .slice bh nh ch, .slice bu nu cu, .int .i64 m] 26)
  have HW2 : Hid (w2 = w.alloc (.cells #[.slice bs ns cs, .slice bh nh ch, .slice bu nu cu, .int .i64 m] 26)) := hw2
  have HB2 : Hid (Below w.heap.size w w2) := hb2
  have c1 : Calls Tryz.prog 22 #[.agg #[.slice bs ns cs, .slice bh nh ch, .slice bu nu cu, .int .i64 m]] w2 fun e w' => e = .returned (.bool false) ∧ Below w2.heap.size w2 w' := by
    rw [hm, ← hR]; exact cIsRight_any S c bs bh bu ns cs nh ch nu cu w2 (hin.below hb2) hsm (ht.below hb2 (Nat.le_refl _)) (hot.below hb2 (Nat.le_refl _))
  clear hw2 hb2 h0 hR hin hsm ht hot HZ2 hm
  go_enter Tryz.func13, Tryz.ntmps13
  go_wp2_with fail
  rw [← HW2.out]
  refine c1.mono ?_
  clear c1
  rintro e v1 ⟨rfl, hb1⟩
  have HB3 : Hid (Below w.heap.size w v1) := HB2.out.trans (hb1.mono HB2.out.size)
  clear hb1
  go_wp2
  go_ret2
  exact ⟨rfl, HB3.out⟩
end Go.Proofs.YtechkkphbajmoaaGreatDoor
