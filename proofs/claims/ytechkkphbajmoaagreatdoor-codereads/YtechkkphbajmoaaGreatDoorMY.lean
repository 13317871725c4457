import Derived.Test.YtechkkphbajmoaaGreatDoorMX
import Derived.Deep.RegionHeld3
import Derived.Deep.RegionWith
/- lex: line ends ahead, a remark behind. -/
namespace Go.Proofs.YtechkkphbajmoaaGreatDoor
open Go.RowKit

end Go.Proofs.YtechkkphbajmoaaGreatDoor
/- lex: what Scan answers with line ends ahead and a remark behind. -/
namespace Go.Proofs.YtechkkphbajmoaaGreatDoor
open Go.RowKit

theorem takeWhile_every {p : UInt8 → Bool} : ∀ r : List UInt8, (∀ x ∈ r, p x = true) → r.takeWhile p = r
  | [], _ => rfl
  | y :: r, h => by rw [List.takeWhile_cons_of_pos (h y (List.mem_cons_self ..)), takeWhile_every r (fun x hx => h x (List.mem_cons_of_mem _ hx))]

end Go.Proofs.YtechkkphbajmoaaGreatDoor
/- lex: Scan with line ends ahead and a remark behind: the same tokens, further on. -/
namespace Go.Proofs.YtechkkphbajmoaaGreatDoor
open Go.RowKit

end Go.Proofs.YtechkkphbajmoaaGreatDoor
/- lex: which tokens are written, and how they are read again. -/
namespace Go.Proofs.YtechkkphbajmoaaGreatDoor
open Go.RowKit Go.Shelf

/-- May a byte stand in a text? -/
def okC (c : UInt8) : Bool := c.toNat == 10 || (decide (32 ≤ c.toNat) && decide (c.toNat ≤ 126))
/-- May a text be written? -/
def plainQ (s : List UInt8) : Bool := s.all okC && decide (s.length ≤ 255)

theorem okC_iff (c : UInt8) : okC c = true ↔ (c.toNat = 10 ∨ (32 ≤ c.toNat ∧ c.toNat ≤ 126)) := by
  unfold okC; simp

theorem esc_ok {c : UInt8} (h : okC c = true) (t : List UInt8) : tbR (escB c ++ t) = (c.toNat, (escB c).length) ∧ (escB c ++ t).head? ≠ some 34 ∧ 1 ≤ (escB c).length := by
  rw [okC_iff] at h
  unfold escB
  by_cases h1 : c.toNat = 92
  · rw [if_pos h1, h1]
    exact ⟨rfl, by simp, by decide⟩
  · rw [if_neg h1]
    by_cases h2 : c.toNat = 34
    · rw [if_pos h2, h2]
      exact ⟨rfl, by simp, by decide⟩
    · rw [if_neg h2]
      by_cases h3 : c.toNat = 10
      · rw [if_pos h3, h3]
        exact ⟨rfl, by simp, by decide⟩
      · rw [if_neg h3]
        refine ⟨?_, ?_, by simp⟩
        · rw [List.cons_append, tbR_one (by omega) h1]; rfl
        · intro e
          simp at e
          rw [e] at h2
          exact h2 rfl

theorem esc_bad {c : UInt8} (h : okC c = false) (t : List UInt8) : escB c = [c] ∧ tbR (c :: t) = (0, 0) ∧ c.toNat ≠ 34 := by
  have h' : ¬ (c.toNat = 10 ∨ (32 ≤ c.toNat ∧ c.toNat ≤ 126)) := fun e => by rw [(okC_iff c).2 e] at h; cases h
  refine ⟨?_, tbR_bad (by omega), by omega⟩
  unfold escB
  rw [if_neg (by omega), if_neg (by omega), if_neg (by omega)]

theorem toUInt8_of (c : UInt8) : c.toNat.toUInt8 = c := UInt8.toNat_inj.1 (Lib.toUInt8_toNat (UInt8.toNat_lt c))

theorem textF_step {f : Nat} {meant t : List UInt8} {at0 : Nat} {x : UInt8} {r : List UInt8} (h34 : x.toNat ≠ 34) {c sz : Nat} (htb : tbR (x :: r) = (c, sz)) (hsz : sz ≠ 0) (hd : (x :: r).drop sz = t) :
    textF (f + 1) meant at0 (x :: r) = if meant.length = 255 then ⟨0, [], 0, 0, 5⟩ else textF f (meant ++ [c.toUInt8]) (at0 + sz) t := by
  conv => lhs; unfold textF
  rw [if_neg h34, htb, if_neg hsz]
  simp only [hd]

/-- A text that is written is read. -/
theorem textF_esc (t : List UInt8) : ∀ (s meant : List UInt8) (f at0 : Nat), (s.flatMap escB).length < f → s.all okC = true → meant.length + s.length ≤ 255 →
    textF f meant at0 (s.flatMap escB ++ 34 :: t) = ⟨3, meant ++ s, 0, at0 + (s.flatMap escB).length + 1, 0⟩
  | [], meant, f, at0, hf, _, _ => by
    obtain ⟨f, rfl⟩ : ∃ g, f = g + 1 := ⟨f - 1, by simp at hf; omega⟩
    simp only [List.flatMap_nil, List.nil_append, List.append_nil, List.length_nil, Nat.add_zero]
    unfold textF
    rw [if_pos (by decide)]
  | c :: s, meant, f, at0, hf, hok, hl => by
    rw [List.all_cons, Bool.and_eq_true] at hok
    rw [List.flatMap_cons, List.length_append] at hf
    rw [List.length_cons] at hl
    obtain ⟨f, rfl⟩ : ∃ g, f = g + 1 := ⟨f - 1, by omega⟩
    obtain ⟨h1, h2, h3⟩ := esc_ok hok.1 (s.flatMap escB ++ 34 :: t)
    have hcat : (c :: s).flatMap escB ++ 34 :: t = escB c ++ (s.flatMap escB ++ 34 :: t) := by rw [List.flatMap_cons, List.append_assoc]
    have ih := textF_esc t s (meant ++ [c]) f (at0 + (escB c).length) (by omega) hok.2 (by rw [List.length_append, List.length_singleton]; omega)
    rw [hcat]
    obtain ⟨x, r, hxr⟩ : ∃ x r, escB c ++ (s.flatMap escB ++ 34 :: t) = x :: r := by
      cases h9 : escB c ++ (s.flatMap escB ++ 34 :: t) with
      | nil =>
        have := congrArg List.length h9
        rw [List.length_append, List.length_nil] at this
        omega
      | cons x r => exact ⟨x, r, rfl⟩
    have hdr : (x :: r).drop (escB c).length = s.flatMap escB ++ 34 :: t := by rw [← hxr, List.drop_left]
    rw [hxr] at h1 h2
    rw [hxr, textF_step (fun e => h2 (by rw [List.head?_cons, show x = 34 from UInt8.toNat_inj.1 e])) h1 (by omega) hdr, if_neg (by omega), toUInt8_of, ih, List.flatMap_cons, List.length_append]
    simp only [TR.mk.injEq, List.append_assoc, List.singleton_append, true_and, and_true]
    omega

theorem textF_esc_bad (t : List UInt8) : ∀ (s meant : List UInt8) (f at0 : Nat), meant.length ≤ 255 → (s.all okC = false ∨ 255 < meant.length + s.length) → (textF f meant at0 (s.flatMap escB ++ 34 :: t)).e ≠ 0
  | [], meant, f, at0, hm, h => by
    rcases h with h | h
    · simp at h
    · simp at h; omega
  | c :: s, meant, 0, at0, hm, h => by
    show (textF 0 _ _ _).e ≠ 0
    unfold textF
    simp
  | c :: s, meant, f + 1, at0, hm, h => by
    have hcat : (c :: s).flatMap escB ++ 34 :: t = escB c ++ (s.flatMap escB ++ 34 :: t) := by rw [List.flatMap_cons, List.append_assoc]
    rw [hcat]
    cases hok : okC c with
    | false =>
      obtain ⟨h1, h2, h3⟩ := esc_bad hok (s.flatMap escB ++ 34 :: t)
      rw [h1, List.singleton_append]
      unfold textF
      rw [if_neg h3, h2, if_pos rfl]
      simp
    | true =>
      obtain ⟨h1, h2, h3⟩ := esc_ok hok (s.flatMap escB ++ 34 :: t)
      obtain ⟨x, r, hxr⟩ : ∃ x r, escB c ++ (s.flatMap escB ++ 34 :: t) = x :: r := by
        cases h9 : escB c ++ (s.flatMap escB ++ 34 :: t) with
        | nil =>
          have := congrArg List.length h9
          rw [List.length_append, List.length_nil] at this
          omega
        | cons x r => exact ⟨x, r, rfl⟩
      have hdr : (x :: r).drop (escB c).length = s.flatMap escB ++ 34 :: t := by rw [← hxr, List.drop_left]
      rw [hxr] at h1 h2
      rw [hxr, textF_step (fun e => h2 (by rw [List.head?_cons, show x = 34 from UInt8.toNat_inj.1 e])) h1 (by omega) hdr]
      by_cases h255 : meant.length = 255
      · rw [if_pos h255]; simp
      · rw [if_neg h255]
        refine textF_esc_bad t s _ f _ (by rw [List.length_append, List.length_singleton]; omega) ?_
        rcases h with h | h
        · rw [List.all_cons, hok, Bool.true_and] at h; exact .inl h
        · rw [List.length_cons] at h; right; rw [List.length_append, List.length_singleton]; omega

theorem tokT_quote (s t : List UInt8) (hp : plainQ s = true) : tokT (quoteB s ++ t) = ⟨3, s, 0, (quoteB s).length, 0⟩ := by
  unfold plainQ at hp
  rw [Bool.and_eq_true, decide_eq_true_eq] at hp
  have hq : quoteB s ++ t = 34 :: (s.flatMap escB ++ 34 :: t) := by unfold quoteB; simp
  have hlen : (quoteB s).length = (s.flatMap escB).length + 2 := by unfold quoteB; simp
  rw [hq]
  have h1 : tokT (34 :: (s.flatMap escB ++ 34 :: t)) = textT (34 :: (s.flatMap escB ++ 34 :: t)) := rfl
  rw [h1]
  unfold textT
  rw [List.drop_succ_cons, List.drop_zero, textF_esc t s [] _ 1 (by simp; omega) hp.1 (by simp; omega), hlen]
  simp only [List.nil_append, TR.mk.injEq, true_and, and_true]
  omega

theorem tokT_quote_bad (s : List UInt8) (hp : plainQ s = false) : (tokT (quoteB s)).e ≠ 0 := by
  have hq : quoteB s = 34 :: (s.flatMap escB ++ 34 :: []) := rfl
  rw [hq]
  have h1 : tokT (34 :: (s.flatMap escB ++ 34 :: [])) = textT (34 :: (s.flatMap escB ++ 34 :: [])) := rfl
  rw [h1]
  unfold textT
  rw [List.drop_succ_cons, List.drop_zero]
  refine textF_esc_bad [] s [] _ 1 (by simp) ?_
  unfold plainQ at hp
  rw [Bool.and_eq_false_iff] at hp
  rcases hp with h | h
  · exact .inl h
  · right
    rw [decide_eq_false_iff_not] at h
    simp
    omega

end Go.Proofs.YtechkkphbajmoaaGreatDoor
/- LexBlanks. -/
namespace Go.Proofs.YtechkkphbajmoaaGreatDoor
open Go.RowKit Go.Shelf

end Go.Proofs.YtechkkphbajmoaaGreatDoor
/- The document's own functions of layer 3: a text in a list; a word. -/
namespace Go.Proofs.YtechkkphbajmoaaGreatDoor
open Go.RowKit Go.Shelf

/-- Is a text one of a list's? -/
def inL (xs : List (List UInt8)) (l : List UInt8) : Bool := xs.contains l

set_option maxRecDepth 100000 in
set_option maxHeartbeats 2000000 in
theorem refIn_any (xs : List (List UInt8)) (l : List UInt8) (g cap : Nat) (w : World) (hx : xs.length ≤ 1000) (hc : ∀ j (h : j < xs.length), w.cell? ⟨g, j, none⟩ = some (.string (strB xs[j]))) :
    Calls Tryz.prog 161 #[.slice (some ⟨g, 0, none⟩) xs.length cap, .string (strB l)] w fun e w' => e = .returned (.bool (inL xs l)) ∧ w = w' := by
  have HC : Hid (∀ j (h : j < xs.length), w.cell? ⟨g, j, none⟩ = some (.string (strB xs[j]))) := hc
  clear hc
  go_enter Tryz.func161, Tryz.ntmps161
  go_wp2
  go_loop [5] (fun v => ∃ i : Nat, i ≤ xs.length ∧ v = .int .i64 i ∧ ∀ x ∈ xs.take i, x ≠ l) (fun v => xs.length - (intOf v).toNat)
  case atStart => exact ⟨0, Nat.zero_le _, rfl, fun x hx => by simp at hx⟩
  case round =>
    obtain ⟨i, hi, rfl, hall⟩ := hrel
    have HA : Hid (∀ x ∈ xs.take i, x ≠ l) := hall
    clear hall
    by_cases hlt : i < xs.length
    · have hcell := HC.out i hlt
      obtain ⟨x, hx⟩ : ∃ x, x = xs[i]'hlt := ⟨_, rfl⟩
      rw [← hx] at hcell
      have HX : Hid (x = xs[i]'hlt) := hx
      clear hx
      by_cases he : x = l
      · subst he
        have HW : Hid (inL xs x = true) := show xs.contains x = true by rw [List.contains_iff_mem, HX.out]; exact List.getElem_mem hlt
        go_wp2
        go_ret
        rw [HW.out]
        exact ⟨rfl, rfl⟩
      · have HE : Hid (x ≠ l) := he
        have hb : (x == l) = false := by rw [beqL]; exact decide_eq_false he
        clear he
        go_wp2
        refine ⟨⟨i + 1, by omega, by go_num, fun y hy => ?_⟩, ?_⟩
        · rw [List.take_succ_eq_append_getElem hlt] at hy
          rcases List.mem_append.1 hy with h | h
          · exact HA.out y h
          · rw [List.mem_singleton] at h; rw [h, ← HX.out]; exact HE.out
        · simp [intOf]; omega
    · obtain rfl : i = xs.length := by omega
      have HW : Hid (inL xs l = false) := show xs.contains l = false by
        rw [Bool.eq_false_iff, ne_eq, List.contains_iff_mem]
        intro h
        exact HA.out l (by rw [List.take_length]; exact h) rfl
      go_wp2
      go_ret
      rw [HW.out]
      exact ⟨rfl, rfl⟩

set_option maxRecDepth 100000 in
set_option maxHeartbeats 2000000 in
theorem refWords_any (w : World) :
    Calls Tryz.prog 162 #[] w fun e w' => e = .returned (.slice (some ⟨w.heap.size, 0, none⟩) 10 10) ∧ w' = w.alloc (.cells (wordsL.map fun x => Value.string (strB x)).toArray 9) := by
  go_enter Tryz.func162, Tryz.ntmps162
  go_wp2
  go_ret
  exact ⟨rfl, rfl⟩

set_option maxRecDepth 100000 in
set_option maxHeartbeats 2000000 in
theorem refWord_any (l : List UInt8) (w : World) :
    Calls Tryz.prog 147 #[.string (strB l)] w fun e w' => e = .returned (.bool (isWord l)) ∧ Below w.heap.size w w' := by
  have hB : Below w.heap.size w (w.alloc (.cells (wordsL.map fun x => Value.string (strB x)).toArray 9)) := (Below.refl _ w).alloc (Nat.le_refl _) _
  have HI : Hid (Calls Tryz.prog 161 #[.slice (some ⟨w.heap.size, 0, none⟩) 10 10, .string (strB l)] (w.alloc (.cells (wordsL.map fun x => Value.string (strB x)).toArray 9)) fun e w' => e = .returned (.bool (inL wordsL l)) ∧ (w.alloc (.cells (wordsL.map fun x => Value.string (strB x)).toArray 9)) = w') :=
    refIn_any wordsL l w.heap.size 10 _ (by decide) (fun j h => by
      rw [cell_of_row _ _ _ _ _ _ (World.alloc_heap_new w _)]
      simp [h])
  have HB : Hid (Below w.heap.size w (w.alloc (.cells (wordsL.map fun x => Value.string (strB x)).toArray 9))) := hB
  clear hB
  go_enter Tryz.func147, Tryz.ntmps147
  go_wp2_with fail
  refine (refWords_any w).mono ?_
  rintro e w1 ⟨rfl, rfl⟩
  go_wp2_with fail
  refine HI.out.mono ?_
  rintro e w2 ⟨rfl, rfl⟩
  go_wp2
  go_ret
  exact ⟨rfl, HB.out⟩
end Go.Proofs.YtechkkphbajmoaaGreatDoor
/- The document's own functions of layer 3: bytes. -/
namespace Go.Proofs.YtechkkphbajmoaaGreatDoor
open Go.RowKit Go.Shelf

set_option maxRecDepth 100000 in
set_option maxHeartbeats 2000000 in
theorem refDigit_any (n : Nat) (w : World) (hn : n < 256) :
    Calls Tryz.prog 148 #[.int .u8 n] w fun e w' => e = .returned (.bool (digitN n)) ∧ w = w' := by
  go_enter Tryz.func148, Tryz.ntmps148
  go_wp2
  all_goals go_ret
  all_goals refine ⟨retb ?_, rfl⟩
  all_goals (rw [Bool.eq_iff_iff]; simp [digitN]; try omega)

set_option maxRecDepth 100000 in
set_option maxHeartbeats 2000000 in
theorem refLetter_any (n : Nat) (w : World) (hn : n < 256) :
    Calls Tryz.prog 146 #[.int .u8 n] w fun e w' => e = .returned (.bool (letterN n)) ∧ w = w' := by
  go_enter Tryz.func146, Tryz.ntmps146
  go_wp2
  all_goals go_ret
  all_goals refine ⟨retb ?_, rfl⟩
  all_goals (rw [Bool.eq_iff_iff]; simp [letterN]; try omega)
end Go.Proofs.YtechkkphbajmoaaGreatDoor
/- The document's own functions of layer 3: numbers. -/
namespace Go.Proofs.YtechkkphbajmoaaGreatDoor
open Go.RowKit Go.Shelf

end Go.Proofs.YtechkkphbajmoaaGreatDoor
/- lex: the document's way of reading a text, byte by byte, comes to the same tokens. -/
namespace Go.Proofs.YtechkkphbajmoaaGreatDoor
open Go.RowKit

theorem best_key (l : List UInt8) : ∀ (xs : List (List UInt8)) (b : List UInt8), b.length ≤ (xs.foldl (longer l) b).length ∧ (∀ x ∈ xs, Lib.hasPrefix l x = true → x.length ≤ (xs.foldl (longer l) b).length) ∧
    (xs.foldl (longer l) b = b ∨ (xs.foldl (longer l) b ∈ xs ∧ Lib.hasPrefix l (xs.foldl (longer l) b) = true))
  | [], b => ⟨Nat.le_refl _, (fun x h => by cases h), .inl rfl⟩
  | x :: xs, b => by
    rw [List.foldl_cons]
    obtain ⟨i1, i2, i3⟩ := best_key l xs (longer l b x)
    have hb : b.length ≤ (longer l b x).length := by
      unfold longer
      split
      · rename_i h; omega
      · exact Nat.le_refl _
    refine ⟨Nat.le_trans hb i1, fun y hy hp => ?_, ?_⟩
    · rcases List.mem_cons.1 hy with rfl | hy
      · refine Nat.le_trans ?_ i1
        unfold longer
        split
        · exact Nat.le_refl _
        · rename_i h
          rcases Nat.lt_or_ge b.length y.length with h9 | h9
          · exact absurd ⟨h9, hp⟩ h
          · exact h9
      · exact i2 y hy hp
    · rcases i3 with h | ⟨h1, h2⟩
      · rw [h]
        unfold longer
        split
        · rename_i h9; exact .inr ⟨List.mem_cons_self .., h9.2⟩
        · exact .inl rfl
      · exact .inr ⟨List.mem_cons_of_mem _ h1, h2⟩

theorem best_all (l : List UInt8) : (∀ x ∈ signsL, Lib.hasPrefix l x = true → x.length ≤ (bestS l 25).length) ∧ (bestS l 25 = [] ∨ (bestS l 25 ∈ signsL ∧ Lib.hasPrefix l (bestS l 25) = true)) := by
  have h := best_key l signsL []
  have e : bestS l 25 = signsL.foldl (longer l) [] := by unfold bestS; rw [List.take_of_length_le (by decide)]
  rw [e]
  exact h.2

end Go.Proofs.YtechkkphbajmoaaGreatDoor
/- lex: which tokens are written: numbers, names, signs. -/
namespace Go.Proofs.YtechkkphbajmoaaGreatDoor
open Go.RowKit Go.Shelf

theorem textF_k' : ∀ (f : Nat) (meant : List UInt8) (at0 : Nat) (r : List UInt8), (textF f meant at0 r).e = 0 → (textF f meant at0 r).k = 3
  | 0, _, _, _, h => by simp [textF] at h
  | _ + 1, _, _, [], h => by simp [textF] at h
  | f + 1, meant, at0, x :: r, h => by
    unfold textF at h ⊢
    by_cases h1 : x.toNat = 34
    · rw [if_pos h1]
    · rw [if_neg h1] at h ⊢
      by_cases h2 : (tbR (x :: r)).2 = 0
      · rw [if_pos h2] at h; simp at h
      · rw [if_neg h2] at h ⊢
        by_cases h3 : meant.length = 255
        · rw [if_pos h3] at h; simp at h
        · rw [if_neg h3] at h ⊢
          exact textF_k' f _ _ _ h

/-- Is a text a name? -/
def nameQ (s : List UInt8) : Bool := match s with | [] => false | x :: r => letterN x.toNat && r.all (fun c => nameN c.toNat) && !isWord s && decide (s.length ≤ 20)

theorem nameL_all {s : List UInt8} (h : s.all (fun c => nameN c.toNat) = true) : nameL s = s := takeWhile_every s (fun x hx => List.all_eq_true.1 h x hx)
theorem all_of_nameL {s : List UInt8} (h : nameL s = s) : s.all (fun c => nameN c.toNat) = true := by
  rw [List.all_eq_true]
  intro x hx
  exact mem_row (p := fun c => nameN c.toNat) s x (by rw [← h] at hx; exact hx)

theorem letter_word : ∀ x ∈ wordsL, ∃ c r, x = c :: r ∧ letterN c.toNat = true ∧ x.all (fun c => nameN c.toNat) = true := by
  intro x hx
  have h1 : ∀ x ∈ wordsL, x ≠ [] := by decide
  have h2 : ∀ x ∈ wordsL, x.all (fun c => nameN c.toNat) = true := by decide
  have h3 : ∀ x ∈ wordsL, letterN (x.headD 0).toNat = true := by decide
  cases x with
  | nil => exact absurd rfl (h1 _ hx)
  | cons c r => exact ⟨c, r, rfl, h3 _ hx, h2 _ hx⟩

theorem sign_head : ∀ x ∈ signsL, ∃ c r, x = c :: r ∧ letterN c.toNat = false ∧ digitN c.toNat = false ∧ c.toNat ≠ 34 ∧ blankN c.toNat = false := by
  intro x hx
  have h1 : ∀ x ∈ signsL, x ≠ [] := by decide
  have h3 : ∀ x ∈ signsL, letterN (x.headD 0).toNat = false ∧ digitN (x.headD 0).toNat = false ∧ (x.headD 0).toNat ≠ 34 ∧ blankN (x.headD 0).toNat = false := by decide
  cases x with
  | nil => exact absurd rfl (h1 _ hx)
  | cons c r => exact ⟨c, r, rfl, h3 _ hx⟩

theorem tokT_letter {x : UInt8} {r : List UInt8} (h : letterN x.toNat = true) : tokT (x :: r) = nameR (x :: r) := by
  unfold tokT; simp only; rw [if_pos h]
theorem tokT_digit {x : UInt8} {r : List UInt8} (h : letterN x.toNat = false) (h2 : digitN x.toNat = true) : tokT (x :: r) = numT (x :: r) := by
  unfold tokT; simp only; rw [if_neg (by rw [h]; simp), if_pos h2]
theorem tokT_text {x : UInt8} {r : List UInt8} (h : letterN x.toNat = false) (h2 : digitN x.toNat = false) (h3 : x.toNat = 34) : tokT (x :: r) = textT (x :: r) := by
  unfold tokT; simp only; rw [if_neg (by rw [h]; simp), if_neg (by rw [h2]; simp), if_pos h3]
theorem tokT_sign {x : UInt8} {r : List UInt8} (h : letterN x.toNat = false) (h2 : digitN x.toNat = false) (h3 : x.toNat ≠ 34) : tokT (x :: r) = signT (x :: r) := by
  unfold tokT; simp only; rw [if_neg (by rw [h]; simp), if_neg (by rw [h2]; simp), if_neg h3]

theorem best_sign : ∀ x ∈ signsL, bestS x 25 = x := by decide +kernel

theorem signT_in {x : List UInt8} (hx : x ∈ signsL) : tokT x = ⟨4, x, 0, x.length, 0⟩ := by
  obtain ⟨c, r, rfl, h1, h2, h3, -⟩ := sign_head x hx
  rw [tokT_sign h1 h2 h3]
  unfold signT
  rw [best_sign _ hx, if_neg (by simp)]

theorem wordR {x : List UInt8} (hx : isWord x = true) : tokT x = ⟨5, x, 0, x.length, 0⟩ := by
  obtain ⟨c, r, rfl, h1, h2⟩ := letter_word x (by unfold isWord at hx; exact List.contains_iff_mem.1 hx)
  rw [tokT_letter h1]
  unfold nameR
  rw [nameL_all h2, if_pos hx]

theorem nameQ_R {x : List UInt8} (hx : nameQ x = true) : tokT x = ⟨1, x, 0, x.length, 0⟩ := by
  cases x with
  | nil => simp [nameQ] at hx
  | cons c r =>
    unfold nameQ at hx
    simp only at hx
    rw [Bool.and_eq_true, Bool.and_eq_true, Bool.and_eq_true, decide_eq_true_eq] at hx
    obtain ⟨⟨⟨h1, h2⟩, h3⟩, h4⟩ := hx
    have h5 : (c :: r).all (fun c => nameN c.toNat) = true := by rw [List.all_cons, h2, Bool.and_true]; simp [nameN, h1]
    rw [tokT_letter h1]
    unfold nameR
    rw [nameL_all h5, if_neg (by intro e; rw [e] at h3; cases h3), if_neg (by omega)]

/-- What is neither a number nor a text. -/
theorem back_plain {k n : Int} {s : List UInt8} (h2 : k ≠ 2) (h3 : k ≠ 3) : backB k n s ↔ (k = 0 ∧ s = [] ∧ n = 0) ∨ (k = 1 ∧ nameQ s = true ∧ n = 0) ∨ (k = 4 ∧ s ∈ signsL ∧ n = 0) ∨ (k = 5 ∧ isWord s = true ∧ n = 0) := by
  have hw : wrB k n s = s := by unfold wrB; rw [if_neg h2, if_neg h3]
  unfold backB
  rw [hw]
  constructor
  · rintro ⟨he, hk, hs, hn⟩
    cases s with
    | nil => exact .inl ⟨hk.symm, rfl, hn.symm⟩
    | cons x r =>
      right
      cases h1 : letterN x.toNat with
      | true =>
        rw [tokT_letter h1] at he hk hs hn
        unfold nameR at he hk hs hn
        by_cases hq : isWord (nameL (x :: r)) = true
        · rw [if_pos hq] at he hk hs hn
          simp only at he hk hs hn
          rw [hs] at hq
          exact .inr (.inr ⟨hk.symm, hq, hn.symm⟩)
        · rw [if_neg hq] at he hk hs hn
          by_cases h20 : 20 < (nameL (x :: r)).length
          · rw [if_pos h20] at he; simp at he
          · rw [if_neg h20] at he hk hs hn
            simp only at he hk hs hn
            have hall := all_of_nameL hs
            rw [hs] at hq h20
            refine .inl ⟨hk.symm, ?_, hn.symm⟩
            unfold nameQ
            simp only
            rw [List.all_cons, Bool.and_eq_true] at hall
            rw [h1, hall.2, decide_eq_true (by omega)]
            simp [hq]
      | false =>
        cases h4 : digitN x.toNat with
        | true =>
          rw [tokT_digit h1 h4] at he hk hs hn
          unfold numT at he hk hs hn
          split at hs
          · simp at hs
          · simp at hs
        | false =>
          by_cases h34 : x.toNat = 34
          · rw [tokT_text h1 h4 h34] at he hk
            have := (textF_k' _ _ _ _ he)
            unfold textT at hk
            rw [this] at hk
            exact absurd hk.symm h3
          · rw [tokT_sign h1 h4 h34] at he hk hs hn
            unfold signT at he hk hs hn
            by_cases hb : bestS (x :: r) 25 = []
            · rw [if_pos hb] at he; simp at he
            · rw [if_neg hb] at hk hs hn
              simp only at hk hs hn
              rcases (best_all (x :: r)).2 with h9 | ⟨h9, -⟩
              · exact absurd h9 hb
              · rw [hs] at h9
                exact .inr (.inl ⟨hk.symm, h9, hn.symm⟩)
  · rintro (⟨rfl, rfl, rfl⟩ | ⟨rfl, h, rfl⟩ | ⟨rfl, h, rfl⟩ | ⟨rfl, h, rfl⟩)
    · exact ⟨rfl, rfl, rfl, rfl⟩
    · rw [nameQ_R h]; exact ⟨rfl, rfl, rfl, rfl⟩
    · rw [signT_in h]; exact ⟨rfl, rfl, rfl, rfl⟩
    · rw [wordR h]; exact ⟨rfl, rfl, rfl, rfl⟩

theorem back_text {n : Int} {s : List UInt8} : backB 3 n s ↔ plainQ s = true ∧ n = 0 := by
  unfold backB
  have hw : wrB 3 n s = quoteB s := rfl
  rw [hw]
  cases hp : plainQ s with
  | false =>
    constructor
    · rintro ⟨he, -⟩; exact absurd he (tokT_quote_bad s hp)
    · rintro ⟨h, -⟩; cases h
  | true =>
    have ht := tokT_quote s [] hp
    rw [List.append_nil] at ht
    rw [ht]
    constructor
    · rintro ⟨-, -, -, hn⟩; exact ⟨rfl, hn.symm⟩
    · rintro ⟨-, rfl⟩; exact ⟨rfl, rfl, rfl, rfl⟩

end Go.Proofs.YtechkkphbajmoaaGreatDoor
/- The document's own functions of layer 3: digits, plain texts, names, a text as it is written. -/
namespace Go.Proofs.YtechkkphbajmoaaGreatDoor
open Go.RowKit Go.Shelf

set_option maxRecDepth 100000 in
set_option maxHeartbeats 2000000 in
theorem refPlain_any (s : List UInt8) (w : World) (hl : s.length ≤ 100000000) :
    Calls Tryz.prog 68 #[.string (strB s)] w fun e w' => e = .returned (.bool (plainQ s)) ∧ w = w' := by
  have hsz : (strB s).size = s.length := rfl
  go_enter Tryz.func68, Tryz.ntmps68
  go_wp2
  go_loop [3] (fun v => ∃ i : Nat, i ≤ s.length ∧ v = .int .i64 i ∧ (s.take i).all okC = true) (fun v => s.length - (intOf v).toNat)
  case atStart => exact ⟨0, Nat.zero_le _, rfl, rfl⟩
  case round =>
    obtain ⟨i, hi, rfl, hall⟩ := hrel
    have HA : Hid ((s.take i).all okC = true) := hall
    clear hall
    by_cases hlt : i < s.length
    · have hidx := fun wx => str_at wx s i hlt
      obtain ⟨c, hc⟩ : ∃ c, c = (s[i]).toNat := ⟨_, rfl⟩
      rw [← hc] at hidx
      have hc256 : c < 256 := by rw [hc]; exact UInt8.toNat_lt _
      have HNX : Hid ((s.take (i + 1)).all okC = okC s[i]) := by
        show _ = _
        rw [List.take_succ_eq_append_getElem hlt, List.all_append, HA.out, Bool.true_and]
        simp
      have HOK : Hid (okC s[i] = true ↔ (c = 10 ∨ (32 ≤ c ∧ c ≤ 126))) := by rw [hc]; exact okC_iff _
      have HBAD : Hid (okC s[i] = false → plainQ s = false) := fun h => by
        unfold plainQ
        have : s.all okC = false := by
          rw [Bool.eq_false_iff]
          intro h9
          have := List.all_eq_true.1 h9 s[i] (List.getElem_mem hlt)
          rw [h] at this; cases this
        rw [this]; rfl
      clear hc
      by_cases h10 : c = 10
      · have HN : Hid ((s.take (i + 1)).all okC = true) := HNX.out.trans (HOK.out.2 (.inl h10))
        subst h10
        go_wp2
        exact ⟨⟨i + 1, by omega, by go_num, HN.out⟩, by simp [intOf]; omega⟩
      · have h10b : ((c : Int) != 10) = true := by rw [bne_iff_ne]; omega
        by_cases hlo : c < 32
        · have HP : Hid (plainQ s = false) := HBAD.out (by rw [Bool.eq_false_iff]; intro h; rcases HOK.out.1 h with h | h <;> omega)
          go_wp2
          go_ret
          rw [HP.out]
          exact ⟨rfl, rfl⟩
        · by_cases hhi : 126 < c
          · have HP : Hid (plainQ s = false) := HBAD.out (by rw [Bool.eq_false_iff]; intro h; rcases HOK.out.1 h with h | h <;> omega)
            go_wp2
            go_ret
            rw [HP.out]
            exact ⟨rfl, rfl⟩
          · have HN : Hid ((s.take (i + 1)).all okC = true) := HNX.out.trans (HOK.out.2 (.inr (by omega)))
            go_wp2
            exact ⟨⟨i + 1, by omega, by go_num, HN.out⟩, by simp [intOf]; omega⟩
    · obtain rfl : i = s.length := by omega
      have HP : Hid (plainQ s = decide ((s.length : Int) ≤ 255)) := by
        show _ = _
        have h9 := HA.out
        rw [List.take_length] at h9
        unfold plainQ
        rw [h9, Bool.true_and, Bool.eq_iff_iff, decide_eq_true_eq, decide_eq_true_eq]
        omega
      go_wp2
      all_goals go_ret
      all_goals rw [HP.out]
      all_goals exact ⟨rfl, rfl⟩

set_option maxRecDepth 100000 in
set_option maxHeartbeats 4000000 in
theorem refName_any (s : List UInt8) (w : World) (hl : s.length ≤ 100000000) :
    Calls Tryz.prog 117 #[.string (strB s)] w fun e w' => e = .returned (.bool (nameQ s)) ∧ Below w.heap.size w w' := by
  have hsz : (strB s).size = s.length := rfl
  cases s with
  | nil =>
    go_enter Tryz.func117, Tryz.ntmps117
    go_wp2
    go_ret
    exact ⟨rfl, Below.refl _ _⟩
  | cons x r =>
    have hlen : (x :: r).length = r.length + 1 := rfl
    have HQ : Hid (nameQ (x :: r) = (letterN x.toNat && r.all (fun c => nameN c.toNat) && !isWord (x :: r) && decide ((x :: r).length ≤ 20))) := rfl
    have hidx0 := fun wx => str_at wx (x :: r) 0 (by simp)
    rw [show ((0 : Nat) : Int) = 0 from rfl, show (x :: r)[0] = x from rfl] at hidx0
    obtain ⟨n, hn⟩ : ∃ n, n = x.toNat := ⟨_, rfl⟩
    have hn256 : n < 256 := by rw [hn]; exact UInt8.toNat_lt x
    rw [← hn] at hidx0 HQ
    have cl := refLetter_any n w hn256
    have cw := refWord_any (x :: r) w
    rw [hsz] at *
    have hcell : ∀ j (h : j < (x :: r).length) (wx : World), (Instr.index 9 (.string (strB (x :: r))) (.int .i64 (j : Int))).run Tryz.prog wx = .ok (.int .u8 (((x :: r)[j]).toNat : Int)) wx := fun j h wx => str_at wx (x :: r) j h
    have HCE : Hid (∀ j (h : j < (x :: r).length) (wx : World), (Instr.index 9 (.string (strB (x :: r))) (.int .i64 (j : Int))).run Tryz.prog wx = .ok (.int .u8 (((x :: r)[j]).toNat : Int)) wx) := hcell
    clear hn hcell
    by_cases h20 : 20 < r.length + 1
    · have HF : Hid (nameQ (x :: r) = false) := by
        show _ = false
        rw [HQ.out, show decide ((x :: r).length ≤ 20) = false from decide_eq_false (by rw [List.length_cons]; omega), Bool.and_false]
      have h1 : ¬ (r.length : Int) + 1 < 1 := by omega
      have h2 : (20 : Int) < (r.length : Int) + 1 := by omega
      go_enter Tryz.func117, Tryz.ntmps117
      go_wp2
      go_ret
      rw [HF.out]
      exact ⟨rfl, Below.refl _ _⟩
    · have h1 : ¬ (r.length : Int) + 1 < 1 := by omega
      have h2 : ¬ (20 : Int) < (r.length : Int) + 1 := by omega
      go_enter Tryz.func117, Tryz.ntmps117
      go_wp2_with fail
      refine cl.mono ?_
      clear cl
      rintro e w1 ⟨rfl, rfl⟩
      cases hq : letterN n with
      | false =>
        have HF : Hid (nameQ (x :: r) = false) := by show _ = false; rw [HQ.out, hq]; rfl
        go_wp2
        go_ret
        rw [HF.out]
        exact ⟨rfl, Below.refl _ _⟩
      | true =>
        go_wp2_with fail
        refine cw.mono ?_
        clear cw
        rintro e w1 ⟨rfl, hb1⟩
        have HB1 : Hid (Below w.heap.size w w1) := hb1
        clear hb1
        cases hw : isWord (x :: r) with
        | true =>
          have HF : Hid (nameQ (x :: r) = false) := by show _ = false; rw [HQ.out, hw]; simp
          go_wp2
          go_ret
          rw [HF.out]
          exact ⟨rfl, HB1.out⟩
        | false =>
          have HQ2 : Hid (nameQ (x :: r) = r.all (fun c => nameN c.toNat)) := by
            show _ = _
            rw [HQ.out, hq, hw, show decide ((x :: r).length ≤ 20) = true from decide_eq_true (by rw [List.length_cons]; omega)]
            simp
          clear hidx0
          go_wp2
          go_loop [3] (fun v => ∃ i : Nat, 1 ≤ i ∧ i ≤ r.length + 1 ∧ v = .int .i64 i ∧ (r.take (i - 1)).all (fun c => nameN c.toNat) = true) (fun v => r.length + 1 - (intOf v).toNat)
          case atStart => exact ⟨1, Nat.le_refl _, by omega, rfl, rfl⟩
          case round =>
            obtain ⟨i, hi1, hi, rfl, hall⟩ := hrel
            have HA : Hid ((r.take (i - 1)).all (fun c => nameN c.toNat) = true) := hall
            clear hall
            by_cases hlt : i < r.length + 1
            · have hidx := HCE.out i (by rw [List.length_cons]; exact hlt)
              have hxi : (x :: r)[i]'(by rw [List.length_cons]; exact hlt) = r[i - 1]'(by omega) := by
                obtain ⟨j, rfl⟩ : ∃ j, i = j + 1 := ⟨i - 1, by omega⟩
                rfl
              rw [hxi] at hidx
              obtain ⟨c, hc⟩ : ∃ c, c = (r[i - 1]'(by omega)).toNat := ⟨_, rfl⟩
              rw [← hc] at hidx
              have hc256 : c < 256 := by rw [hc]; exact UInt8.toNat_lt _
              have HNX : Hid ((r.take i).all (fun c => nameN c.toNat) = nameN c) := by
                show _ = _
                have e9 : r.take i = r.take (i - 1) ++ [r[i - 1]'(by omega)] := by
                  have := List.take_succ_eq_append_getElem (show i - 1 < r.length by omega)
                  rw [show i - 1 + 1 = i by omega] at this
                  exact this
                rw [e9, List.all_append, HA.out, Bool.true_and, hc]
                simp
              have HBAD : Hid (nameN c = false → r.all (fun c => nameN c.toNat) = false) := fun h => by
                rw [Bool.eq_false_iff]
                intro h9
                have := List.all_eq_true.1 h9 (r[i - 1]'(by omega)) (List.getElem_mem _)
                rw [← hc, h] at this; cases this
              have c2 := refLetter_any c w1 hc256
              have c3 := refDigit_any c w1 hc256
              have hi2 : (i : Int) < (r.length : Int) + 1 := by omega
              clear hc hxi
              go_wp2_with fail
              refine c2.mono ?_
              clear c2
              rintro e w3 ⟨rfl, rfl⟩
              cases hq1 : letterN c with
              | true =>
                have HN : Hid ((r.take i).all (fun c => nameN c.toNat) = true) := HNX.out.trans (by simp [nameN, hq1])
                go_wp2
                exact ⟨⟨i + 1, by omega, by omega, by go_num, by rw [Nat.add_sub_cancel]; exact HN.out⟩, by simp [intOf]; omega⟩
              | false =>
                go_wp2_with fail
                refine c3.mono ?_
                clear c3
                rintro e w3 ⟨rfl, rfl⟩
                cases hq2 : digitN c with
                | true =>
                  have HN : Hid ((r.take i).all (fun c => nameN c.toNat) = true) := HNX.out.trans (by simp [nameN, hq2])
                  go_wp2
                  exact ⟨⟨i + 1, by omega, by omega, by go_num, by rw [Nat.add_sub_cancel]; exact HN.out⟩, by simp [intOf]; omega⟩
                | false =>
                  have HF : Hid (nameQ (x :: r) = false) := HQ2.out.trans (HBAD.out (by simp [nameN, hq1, hq2]))
                  go_wp2
                  go_ret
                  rw [HF.out]
                  exact ⟨rfl, HB1.out⟩
            · obtain rfl : i = r.length + 1 := by omega
              have hi2 : ¬ ((r.length : Int) + 1) < (r.length : Int) + 1 := by omega
              have HF : Hid (nameQ (x :: r) = true) := by
                show _ = true
                rw [HQ2.out]
                have := HA.out
                rw [Nat.add_sub_cancel, List.take_length] at this
                exact this
              go_wp2
              go_ret
              rw [HF.out]
              exact ⟨rfl, HB1.out⟩
end Go.Proofs.YtechkkphbajmoaaGreatDoor
