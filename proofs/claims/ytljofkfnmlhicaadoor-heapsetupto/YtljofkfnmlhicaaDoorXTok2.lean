/- lex: numbers and signs at the front of a text. -/
import Derived.Test.YtljofkfnmlhicaaDoorXTok
namespace Go.Proofs.YtljofkfnmlhicaaDoor
open Go.RowKit

/-- The number that digits spell, behind others. -/
def valA (acc : Nat) : List UInt8 → Nat
  | [] => acc
  | c :: r => valA (acc * 10 + (c.toNat - 48)) r

theorem valA_ge : ∀ (r : List UInt8) (acc : Nat), acc ≤ valA acc r
  | [], _ => Nat.le_refl _
  | c :: r, acc => Nat.le_trans (by omega) (valA_ge r (acc * 10 + (c.toNat - 48)))

theorem parse_digits (ds : List UInt8) : ∀ (acc : Nat), (∀ c ∈ ds, digitN c.toNat = true) → acc < 18446744073709551616 →
    Lib.parseUint10 acc ds = if valA acc ds < 18446744073709551616 then .ok (valA acc ds) else .range := by
  induction ds with
  | nil =>
    intro acc _ ha
    rw [show valA acc [] = acc from rfl, if_pos ha]
    rfl
  | cons c r ih =>
    intro acc h ha
    have hc := h c (List.mem_cons_self ..)
    unfold digitN at hc
    rw [Bool.and_eq_true, decide_eq_true_eq, decide_eq_true_eq] at hc
    have hge := valA_ge r (acc * 10 + (c.toNat - 48))
    rw [show valA acc (c :: r) = valA (acc * 10 + (c.toNat - 48)) r from rfl]
    unfold Lib.parseUint10
    rw [if_pos hc]
    by_cases h1 : 1844674407370955162 ≤ acc
    · rw [if_pos h1, if_neg (by omega)]
    · rw [if_neg h1]
      by_cases h2 : 18446744073709551616 ≤ acc * 10 + (c.toNat - 48)
      · rw [if_pos h2, if_neg (by omega)]
      · rw [if_neg h2]
        exact ih _ (fun d hd => h d (List.mem_cons_of_mem _ hd)) (by omega)

theorem atoi_digits {ds : List UInt8} (h : ∀ c ∈ ds, digitN c.toNat = true) (hne : ds ≠ []) :
    Lib.atoiAll ds = if valA 0 ds < 9223372036854775808 then .ok (valA 0 ds : Int) else .range := by
  cases ds with
  | nil => exact absurd rfl hne
  | cons c r =>
    have hc := h c (List.mem_cons_self ..)
    unfold digitN at hc
    rw [Bool.and_eq_true, decide_eq_true_eq, decide_eq_true_eq] at hc
    have h1 : ¬ (c.toNat = 43 ∨ c.toNat = 45) := by omega
    have h2 : ¬ c.toNat = 45 := by omega
    have hp : Lib.parseMag (c :: r) = if valA 0 (c :: r) < 18446744073709551616 then .ok (valA 0 (c :: r)) else .range := by
      unfold Lib.parseMag; rw [if_neg (by simp)]; exact parse_digits _ 0 h (by omega)
    generalize valA 0 (c :: r) = v at hp ⊢
    have e1 : (if c.toNat = 43 ∨ c.toNat = 45 then r else c :: r) = c :: r := if_neg h1
    unfold Lib.atoiAll
    simp only [e1]
    rw [hp]
    by_cases h3 : v < 18446744073709551616
    · rw [if_pos h3]
      by_cases h4 : v < 9223372036854775808
      · simp only
        rw [if_neg (by omega), if_neg (by omega), if_neg h2, if_pos h4]
      · simp only
        rw [if_pos ⟨h2, by omega⟩, if_neg h4]
    · rw [if_neg h3, if_neg (by omega)]

theorem mem_row {p : UInt8 → Bool} : ∀ (l : List UInt8) (c : UInt8), c ∈ l.takeWhile p → p c = true
  | [], c, h => by simp at h
  | x :: l, c, h => by
    by_cases hx : p x = true
    · rw [List.takeWhile_cons_of_pos hx] at h
      rcases List.mem_cons.1 h with rfl | h
      · exact hx
      · exact mem_row l c h
    · rw [List.takeWhile_cons_of_neg hx] at h
      simp at h

def digL (l : List UInt8) : List UInt8 := l.takeWhile fun c => digitN c.toNat
def numT (l : List UInt8) : TR := if valA 0 (digL l) < 9223372036854775808 then ⟨2, [], valA 0 (digL l), (digL l).length, 0⟩ else ⟨0, [], 0, 0, 5⟩
theorem digL_le (l : List UInt8) : (digL l).length ≤ l.length := (List.takeWhile_sublist _).length_le
theorem digL_all (l : List UInt8) : ∀ c ∈ digL l, digitN c.toNat = true := fun c hc => mem_row (p := fun c => digitN c.toNat) l c hc

set_option maxHeartbeats 2000000 in
set_option maxRecDepth 100000 in
theorem numberToken_any (l : List UInt8) (w : World) (hl : l.length ≤ 140737488351232) (hne : digL l ≠ []) (ht : Tabs w) :
    Calls Tryd.prog 73 #[.string (strB l)] w fun e w' => e = .returned (resV (numT l)) ∧ Below w.heap.size w w' := by
  have HT : Hid (Tabs w) := ht
  have hnl := digL_le l
  obtain ⟨m, hm⟩ : ∃ m, m = (digL l).length := ⟨_, rfl⟩
  rw [← hm] at hnl
  have hto := fun wx => str_to wx l m hnl
  rw [show l.take m = digL l by rw [hm]; exact take_row _ l] at hto
  have HM : Hid (m = (digL l).length) := hm
  have hm47 : m ≤ 140737488351232 := by omega
  clear ht
  have HN : Hid (∀ wx, Calls Tryd.prog 79 #[.string (strB l), .func (.func 72) #[] #[]] wx fun e w' => e = .returned (.int .i64 m) ∧ wx = w') := fun wx => by
    rw [hm]; exact row_digit l wx (by omega)
  have hat := atoi_digits (digL_all l) hne
  obtain ⟨x, hx⟩ : ∃ x, x = digL l := ⟨_, rfl⟩
  rw [← hx] at hto HM hat
  obtain ⟨v, hv⟩ : ∃ v, v = valA 0 x := ⟨_, rfl⟩
  rw [← hv] at hat
  have HX : Hid (x = digL l) := hx
  have HV : Hid (v = valA 0 x) := hv
  have HAT : Hid (Lib.atoiAll x = if v < 9223372036854775808 then .ok (v : Int) else .range) := hat
  clear hx hv hat hm
  go_enter Tryd.func73, Tryd.ntmps73
  go_wp2_with fail
  refine (HN.out _).mono ?_
  rintro e w1 ⟨rfl, rfl⟩
  by_cases h63 : v < 9223372036854775808
  · have c1 := fun wx => Tryd.strconv_Atoi_ok (strB x) (by rw [strB_size, ← HM.out]; omega) v (by show Lib.atoiAll x = _; rw [HAT.out, if_pos h63]) wx
    have HR : Hid (numT l = ⟨2, [], v, m, 0⟩) := by unfold numT; rw [← HX.out, ← HV.out, if_pos h63, ← HM.out]; rfl
    go_wp2_with fail
    refine (c1 _).mono ?_
    clear c1
    rintro e w1 ⟨rfl, hw1⟩
    have hb1 : Below (w.heap.size + 1) (w.alloc (Obj.cells #[Value.int IntKind.i64 0, Value.string ⟨#[]⟩, Value.int IntKind.i64 0, Value.int IntKind.i64 0, Value.int IntKind.i64 0] 89)) w1 := by
      rcases hw1 with rfl | ⟨t, rfl⟩
      · exact Below.refl _ _
      · have hbw := Lib.bytesWorld_below (w.alloc (Obj.cells #[Value.int IntKind.i64 0, Value.string ⟨#[]⟩, Value.int IntKind.i64 0, Value.int IntKind.i64 0, Value.int IntKind.i64 0] 89)) 5 t
        rw [World.size_alloc] at hbw
        exact hbw
    clear hw1
    obtain ⟨hc1, hf1⟩ : (∀ o, w1.cell? ⟨w.heap.size, o, none⟩ = (w.alloc (Obj.cells #[Value.int IntKind.i64 0, Value.string ⟨#[]⟩, Value.int IntKind.i64 0, Value.int IntKind.i64 0, Value.int IntKind.i64 0] 89)).cell? ⟨w.heap.size, o, none⟩) ∧ (∀ o, w1.frozen? ⟨w.heap.size, o, none⟩ = (w.alloc (Obj.cells #[Value.int IntKind.i64 0, Value.string ⟨#[]⟩, Value.int IntKind.i64 0, Value.int IntKind.i64 0, Value.int IntKind.i64 0] 89)).frozen? ⟨w.heap.size, o, none⟩) :=
      ⟨fun o => hb1.cell (p := ⟨w.heap.size, o, none⟩) (by simp), fun o => hb1.frozen (p := ⟨w.heap.size, o, none⟩) (by simp)⟩
    have HB : Hid (Below w.heap.size w w1) := ((Below.refl w.heap.size w).alloc (Nat.le_refl _) _).trans (hb1.mono (by omega))
    clear hb1
    go_wp2
    refine bodyPost_ret (v := resV ⟨2, [], v, m, 0⟩) (by simp [results, Tryd.results73, go_sem, resV, hc1]) rfl ⟨by rw [HR.out], ?_⟩
    exact ((((HB.out.setCell (p := ⟨w.heap.size, 0, none⟩) (Nat.le_refl _) _).setCell (p := ⟨w.heap.size, 1, none⟩) (Nat.le_refl _) _).setCell (p := ⟨w.heap.size, 2, none⟩) (Nat.le_refl _) _).setCell (p := ⟨w.heap.size, 3, none⟩) (Nat.le_refl _) _).setCell (p := ⟨w.heap.size, 4, none⟩) (Nat.le_refl _) _
  · obtain ⟨te, pe, hrg⟩ := HT.out.range
    have c1 := Tryd.strconv_Atoi_range (strB x) (by rw [strB_size, ← HM.out]; omega) (by show Lib.atoiAll x = _; rw [HAT.out, if_neg h63]) (.iface te pe) (w.alloc (Obj.cells #[Value.int IntKind.i64 0, Value.string ⟨#[]⟩, Value.int IntKind.i64 0, Value.int IntKind.i64 0, Value.int IntKind.i64 0] 89)) (Lib.cell?_alloc_some _ hrg) (.inr ⟨te, pe, rfl⟩)
    have HR : Hid (numT l = ⟨0, [], 0, 0, 5⟩) := by unfold numT; rw [← HX.out, ← HV.out, if_neg h63]; rfl
    go_wp2_with fail
    refine c1.mono ?_
    clear c1
    rintro e w1 ⟨NN, rfl, -, -, hb1⟩
    rw [World.size_alloc] at hb1
    obtain ⟨hc1, hf1⟩ : (∀ o, w1.cell? ⟨w.heap.size, o, none⟩ = (w.alloc (Obj.cells #[Value.int IntKind.i64 0, Value.string ⟨#[]⟩, Value.int IntKind.i64 0, Value.int IntKind.i64 0, Value.int IntKind.i64 0] 89)).cell? ⟨w.heap.size, o, none⟩) ∧ (∀ o, w1.frozen? ⟨w.heap.size, o, none⟩ = (w.alloc (Obj.cells #[Value.int IntKind.i64 0, Value.string ⟨#[]⟩, Value.int IntKind.i64 0, Value.int IntKind.i64 0, Value.int IntKind.i64 0] 89)).frozen? ⟨w.heap.size, o, none⟩) :=
      ⟨fun o => hb1.cell (p := ⟨w.heap.size, o, none⟩) (by simp), fun o => hb1.frozen (p := ⟨w.heap.size, o, none⟩) (by simp)⟩
    have HB : Hid (Below w.heap.size w w1) := ((Below.refl w.heap.size w).alloc (Nat.le_refl _) _).trans (hb1.mono (by omega))
    clear hb1 hrg
    go_wp2
    refine bodyPost_ret (v := resV ⟨0, [], 0, 0, 5⟩) (by simp [results, Tryd.results73, go_sem, resV, hc1]) rfl ⟨by rw [HR.out], ?_⟩
    exact ((((HB.out.setCell (p := ⟨w.heap.size, 0, none⟩) (Nat.le_refl _) _).setCell (p := ⟨w.heap.size, 1, none⟩) (Nat.le_refl _) _).setCell (p := ⟨w.heap.size, 2, none⟩) (Nat.le_refl _) _).setCell (p := ⟨w.heap.size, 3, none⟩) (Nat.le_refl _) _).setCell (p := ⟨w.heap.size, 4, none⟩) (Nat.le_refl _) _
end Go.Proofs.YtljofkfnmlhicaaDoor
