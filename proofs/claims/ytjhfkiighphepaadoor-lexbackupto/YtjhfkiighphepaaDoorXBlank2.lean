/- lex: Scan with line ends ahead and a remark behind: the same tokens, further on. -/
import Derived.Test.YtjhfkiighphepaaDoorXBlank
namespace Go.Proofs.YtjhfkiighphepaaDoor
open Go.RowKit

def shiftT (n : Nat) (t : Tk) : Tk := ⟨t.k, t.s, t.n, t.line + n, t.at0 + n⟩
/-- Line ends ahead, a remark behind. -/
def longL (n : Nat) (s more : List UInt8) : List UInt8 := List.replicate n 10 ++ (s ++ 10 :: 47 :: 47 :: more)

theorem longL_len (n : Nat) (s more : List UInt8) : (longL n s more).length = n + (s.length + (3 + more.length)) := by
  unfold longL
  simp
  omega

theorem longL_drop (n : Nat) (s more : List UInt8) {a : Nat} (ha : a ≤ s.length) : (longL n s more).drop (a + n) = s.drop a ++ 10 :: 47 :: 47 :: more := by
  unfold longL
  rw [List.drop_append, List.drop_of_length_le (by simp), List.nil_append, List.length_replicate, Nat.add_sub_cancel, List.drop_append_of_le_length ha]

theorem count_take_tail (r z : List UInt8) {k : Nat} (h : k ≤ r.length) : (r ++ z).take k = r.take k := by
  rw [List.take_append_of_le_length h]

/-- Where a token is left. -/
theorem long_in {n : Nat} {s more : List UInt8} (hm : (10 : UInt8) ∉ more) {line a : Nat} (ha : a ≤ s.length) (hg : gapN (s.drop a) < (s.drop a).length) :
    nextT (longL n s more) (a + n) = nextT s a ∧ placeT (longL n s more) (a + n) = placeT s a + n ∧ lineT (longL n s more) (line + n) (a + n) = lineT s line a + n := by
  have hd := longL_drop n s more ha
  have hgap := gapN_tail hm _ (s.drop a) (Nat.le_refl _)
  rw [if_pos hg] at hgap
  have hl : (s.drop a).length = s.length - a := List.length_drop
  refine ⟨?_, ?_, ?_⟩
  · unfold nextT
    rw [hd, hgap, show a + n + gapN (s.drop a) = (a + gapN (s.drop a)) + n by omega, longL_drop n s more (by omega)]
    refine tokT_tail (fun e => ?_) _
    have := congrArg List.length e
    rw [List.length_drop, List.length_nil] at this
    omega
  · unfold placeT
    rw [hd, hgap]
    omega
  · unfold lineT
    rw [hd, hgap, count_take_tail _ _ (by omega)]
    omega

/-- Where none is left. -/
theorem long_out {n : Nat} {s more : List UInt8} (hm : (10 : UInt8) ∉ more) {a : Nat} (ha : a ≤ s.length) (hg : gapN (s.drop a) = (s.drop a).length) :
    nextT (longL n s more) (a + n) = ⟨0, [], 0, 0, 0⟩ ∧ nextT s a = ⟨0, [], 0, 0, 0⟩ := by
  have hd := longL_drop n s more ha
  have hgap := gapN_tail hm _ (s.drop a) (Nat.le_refl _)
  rw [if_neg (by omega)] at hgap
  have hl : (s.drop a).length = s.length - a := List.length_drop
  constructor
  · unfold nextT
    rw [hd, hgap, List.drop_of_length_le (by rw [longL_len]; omega)]
    rfl
  · unfold nextT
    rw [hg, List.drop_of_length_le (by omega)]
    rfl

theorem scan_long {n : Nat} {s more : List UInt8} (hm : (10 : UInt8) ∉ more) : ∀ (f f' line a : Nat), a ≤ s.length → s.length < a + f → f ≤ f' →
    ((scanS s f line a).2.2 ≠ 0 → (scanS (longL n s more) f' (line + n) (a + n)).2.2 = (scanS s f line a).2.2 ∧ (scanS (longL n s more) f' (line + n) (a + n)).2.1 = (scanS s f line a).2.1 + n) ∧
    ((scanS s f line a).2.2 = 0 → (scanS (longL n s more) f' (line + n) (a + n)).2.2 = 0 ∧ ∃ ts t t', (scanS s f line a).1 = ts ++ [t] ∧ (scanS (longL n s more) f' (line + n) (a + n)).1 = ts.map (shiftT n) ++ [t'])
  | 0, _, _, _, h1, h2, _ => by omega
  | _ + 1, 0, _, _, _, _, h => by omega
  | f + 1, f' + 1, line, a, ha, hf, hff => by
    have hgl := gapN_le _ (s.drop a) (Nat.le_refl _)
    by_cases hg : gapN (s.drop a) < (s.drop a).length
    · obtain ⟨e1, e2, e3⟩ := long_in (n := n) hm (line := line) ha hg
      have e4 : tkT (longL n s more) (line + n) (a + n) = shiftT n (tkT s line a) := by
        unfold tkT shiftT
        rw [e1, e2, e3]
      by_cases he : (nextT s a).e ≠ 0
      · unfold scanS
        rw [e1, if_pos he, if_pos he, e2]
        exact ⟨fun _ => ⟨rfl, rfl⟩, fun h => absurd h he⟩
      · have he0 : (nextT s a).e = 0 := by omega
        have hk : (nextT s a).k ≠ 0 := fun hk => by
          have h9 := (tokT_sz (s.drop (a + gapN (s.drop a))) he0).2.2 hk
          have := congrArg List.length h9
          rw [List.length_drop, List.length_nil] at this
          rw [List.length_drop] at hg
          omega
        have hmv := nextT_move ha he0 hk
        have ih := scan_long (n := n) hm f f' (lineT s line a) (placeT s a + (nextT s a).sz) hmv.2 (by omega) (by omega)
        rw [scanS, scanS, e1, if_neg he, if_neg he, if_neg hk, if_neg hk, e2, e3, e4, show placeT s a + n + (nextT s a).sz = placeT s a + (nextT s a).sz + n by omega]
        generalize scanS s f (lineT s line a) (placeT s a + (nextT s a).sz) = A at ih ⊢
        generalize scanS (longL n s more) f' (lineT s line a + n) (placeT s a + (nextT s a).sz + n) = B at ih ⊢
        by_cases hA : A.2.2 ≠ 0
        · obtain ⟨i1, i2⟩ := ih.1 hA
          rw [if_pos hA, if_pos (by rw [i1]; exact hA)]
          exact ⟨fun _ => ⟨i1, i2⟩, fun h => absurd h hA⟩
        · have hA0 : A.2.2 = 0 := by omega
          obtain ⟨i1, ts, t, t', i2, i3⟩ := ih.2 hA0
          rw [if_neg hA, if_neg (by omega)]
          exact ⟨fun h => absurd rfl h, fun _ => ⟨rfl, tkT s line a :: ts, t, t', by rw [i2]; rfl, by rw [i3]; rfl⟩⟩
    · obtain ⟨e1, e2⟩ := long_out (n := n) hm ha (by omega)
      rw [scanS, scanS, e1, e2]
      rw [if_neg (by simp), if_pos rfl, if_neg (by simp), if_pos rfl]
      exact ⟨fun h => absurd rfl h, fun _ => ⟨rfl, [], _, _, rfl, rfl⟩⟩

/-- From the first byte on. -/
theorem scan_ends (n : Nat) (s more : List UInt8) (f : Nat) : scanS (longL n s more) f 1 0 = scanS (longL n s more) f (1 + n) n := by
  have hd : (longL n s more).drop n = s ++ 10 :: 47 :: 47 :: more := by
    have := longL_drop n s more (Nat.zero_le _)
    rw [Nat.zero_add] at this
    exact this
  have hg : gapN (longL n s more) = n + gapN (s ++ 10 :: 47 :: 47 :: more) := gapN_ends n _
  have hgl := gapN_le _ (s ++ 10 :: 47 :: 47 :: more) (Nat.le_refl _)
  have e1 : nextT (longL n s more) 0 = nextT (longL n s more) n := by
    unfold nextT
    rw [List.drop_zero, hd, hg, Nat.zero_add]
  have e2 : placeT (longL n s more) 0 = placeT (longL n s more) n := by
    unfold placeT
    rw [List.drop_zero, hd, hg, Nat.zero_add]
  have e3 : lineT (longL n s more) 1 0 = lineT (longL n s more) (1 + n) n := by
    unfold lineT
    rw [List.drop_zero, hd, hg]
    unfold longL
    rw [List.take_append, List.take_of_length_le (by simp), List.length_replicate, Nat.add_sub_cancel_left]
    unfold Lib.countByte
    rw [List.count_append, List.count_replicate_self]
    omega
  have e4 : tkT (longL n s more) 1 0 = tkT (longL n s more) (1 + n) n := by
    unfold tkT
    rw [e1, e2, e3]
  cases f with
  | zero => rfl
  | succ f =>
    rw [scanS, scanS, e1, e2, e3, e4]

theorem scanB_long {n : Nat} {s more : List UInt8} (hm : (10 : UInt8) ∉ more) (hs : s.length ≤ 3000) (hl : more.length ≤ 500) (hn : n ≤ 100) :
    ((scanB s).2.2 ≠ 0 → (scanB (longL n s more)).2.2 = (scanB s).2.2 ∧ (scanB (longL n s more)).2.1 = (scanB s).2.1 + n) ∧
    ((scanB s).2.2 = 0 → (scanB (longL n s more)).2.2 = 0 ∧ ∃ ts t t', (scanB s).1 = ts ++ [t] ∧ (scanB (longL n s more)).1 = ts.map (shiftT n) ++ [t']) := by
  unfold scanB
  rw [if_neg (by omega), if_neg (by rw [longL_len]; omega), scan_ends]
  have := scan_long (n := n) (s := s) hm (s.length + 1) ((longL n s more).length + 1) 1 0 (Nat.zero_le _) (by omega) (by rw [longL_len]; omega)
  rw [Nat.zero_add] at this
  exact this

theorem lineT_le {l : List UInt8} {line a : Nat} (hl : line ≤ a + 1) : lineT l line a ≤ placeT l a + 1 := by
  unfold lineT placeT
  have := count_le ((l.drop a).take (gapN (l.drop a))) 10
  have h2 : ((l.drop a).take (gapN (l.drop a))).length ≤ gapN (l.drop a) := List.length_take_le ..
  omega

theorem scanS_bound (l : List UInt8) : ∀ (f line a : Nat), a ≤ l.length → line ≤ a + 1 → (scanS l f line a).2.1 ≤ l.length ∧ ∀ t ∈ (scanS l f line a).1, t.line ≤ l.length + 1 ∧ t.at0 ≤ l.length
  | 0, _, _, _, _ => ⟨Nat.zero_le _, fun t h => by cases h⟩
  | f + 1, line, a, ha, hl => by
    have hp := placeT_le ha
    have hc := lineT_le (l := l) hl
    have htk : (tkT l line a).line ≤ l.length + 1 ∧ (tkT l line a).at0 ≤ l.length := by
      show lineT l line a ≤ l.length + 1 ∧ placeT l a ≤ l.length
      omega
    rw [scanS]
    by_cases he : (nextT l a).e ≠ 0
    · rw [if_pos he]; exact ⟨hp, fun t h => by cases h⟩
    · rw [if_neg he]
      have he0 : (nextT l a).e = 0 := by omega
      by_cases hk : (nextT l a).k = 0
      · rw [if_pos hk]; exact ⟨Nat.zero_le _, fun t h => by rw [List.mem_singleton] at h; rw [h]; exact htk⟩
      · rw [if_neg hk]
        have hm := nextT_move ha he0 hk
        have hz := (tokT_sz (l.drop (a + gapN (l.drop a))) he0).2.1 hk
        have ih := scanS_bound l f (lineT l line a) (placeT l a + (nextT l a).sz) hm.2 (by omega)
        generalize scanS l f (lineT l line a) (placeT l a + (nextT l a).sz) = A at ih ⊢
        by_cases hA : A.2.2 ≠ 0
        · rw [if_pos hA]; exact ⟨ih.1, fun t h => by cases h⟩
        · rw [if_neg hA]
          refine ⟨Nat.zero_le _, fun t h => ?_⟩
          rcases List.mem_cons.1 h with h | h
          · rw [h]; exact htk
          · exact ih.2 t h

theorem scanB_bound (l : List UInt8) : (scanB l).2.1 ≤ l.length ∧ ∀ t ∈ (scanB l).1, t.line ≤ l.length + 1 ∧ t.at0 ≤ l.length := by
  unfold scanB
  split
  · exact ⟨Nat.zero_le _, fun t h => by cases h⟩
  · exact scanS_bound l _ 1 0 (Nat.zero_le _) (Nat.le_refl _)
end Go.Proofs.YtjhfkiighphepaaDoor
