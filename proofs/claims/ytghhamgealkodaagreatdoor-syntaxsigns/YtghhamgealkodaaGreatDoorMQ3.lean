import Derived.RangeFuncNested
import Derived.RangeFuncBound
import Derived.RangeFuncCalls
import Derived.RangeFuncLeaves
import Derived.RangeFuncBox
import Derived.Lib.Bytealg
import Derived.Shelf.Abstract
import Derived.Shelf.RegionOpen
import Derived.WalkKit
import Derived.OwnWalkIn
import Derived.TacticsInMore
import Derived.LoopNIn
import Derived.LoopIn
import Derived.Maps.AppendAt
import Derived.Test.YtghhamgealkodaaGreatDoorMQ2
import Derived.Sort.QuietIn
/- lex: the function that iterates over tokens. -/
namespace Go.Proofs.YtghhamgealkodaaGreatDoor
open Go.RowKit Go.Shelf

attribute [local go_sem] Oper.semAt_some

theorem nameL_pos {x : UInt8} {r : List UInt8} (h : letterN x.toNat = true) : 1 ≤ (nameL (x :: r)).length := by
  unfold nameL; simp [nameN, h]

theorem textF_sz : ∀ (f : Nat) (meant : List UInt8) (at0 : Nat) (r : List UInt8), (textF f meant at0 r).e = 0 → 1 ≤ (textF f meant at0 r).sz ∧ (textF f meant at0 r).sz ≤ at0 + r.length
  | 0, _, _, _, h => by simp [textF] at h
  | _ + 1, _, _, [], h => by simp [textF] at h
  | f + 1, meant, at0, x :: r, h => by
    have htb := (tbR_le (x :: r)).1
    unfold textF at h ⊢
    by_cases h1 : x.toNat = 34
    · rw [if_pos h1]; simp
    · rw [if_neg h1] at h ⊢
      by_cases h2 : (tbR (x :: r)).2 = 0
      · rw [if_pos h2] at h; simp at h
      · rw [if_neg h2] at h ⊢
        by_cases h3 : meant.length = 255
        · rw [if_pos h3] at h; simp at h
        · rw [if_neg h3] at h ⊢
          have := textF_sz f _ _ _ h
          rw [List.length_drop] at this
          omega

theorem bestS_pre (l : List UInt8) : bestS l 25 = [] ∨ Lib.hasPrefix l (bestS l 25) = true := by
  have key : ∀ (xs : List (List UInt8)) (b : List UInt8), (b = [] ∨ Lib.hasPrefix l b = true) → (xs.foldl (longer l) b = [] ∨ Lib.hasPrefix l (xs.foldl (longer l) b) = true) := by
    intro xs
    induction xs with
    | nil => intro b hb; exact hb
    | cons x xs ih =>
      intro b hb
      refine ih _ ?_
      unfold longer
      split
      · rename_i h; exact .inr h.2
      · exact hb
  exact key _ _ (.inl rfl)

theorem pre_len {l x : List UInt8} (h : Lib.hasPrefix l x = true) : x.length ≤ l.length := by
  unfold Lib.hasPrefix at h
  exact (List.isPrefixOf_iff_prefix.1 h).length_le

/-- A token that is one has bytes, but for the end; they are the text's. -/
theorem tokT_sz (l : List UInt8) (he : (tokT l).e = 0) : (tokT l).sz ≤ l.length ∧ ((tokT l).k ≠ 0 → 1 ≤ (tokT l).sz) ∧ ((tokT l).k = 0 → l = []) := by
  cases l with
  | nil => simp [tokT]
  | cons x r =>
    unfold tokT at he ⊢
    simp only at he ⊢
    by_cases h1 : letterN x.toNat = true
    · rw [if_pos h1] at he ⊢
      have hp := nameL_pos (r := r) h1
      have hle := nameL_le (x :: r)
      unfold nameR at he ⊢
      split
      · exact ⟨hle, fun _ => hp, fun h => by simp at h⟩
      · rename_i hw
        rw [if_neg hw] at he
        split
        · rename_i h20; rw [if_pos h20] at he; simp at he
        · exact ⟨hle, fun _ => hp, fun h => by simp at h⟩
    · rw [if_neg h1] at he ⊢
      by_cases h2 : digitN x.toNat = true
      · rw [if_pos h2] at he ⊢
        have hp : 1 ≤ (digL (x :: r)).length := by unfold digL; simp [h2]
        have hle := digL_le (x :: r)
        unfold numT at he ⊢
        split
        · exact ⟨hle, fun _ => hp, fun h => by simp at h⟩
        · rename_i h63; rw [if_neg h63] at he; simp at he
      · rw [if_neg h2] at he ⊢
        by_cases h3 : x.toNat = 34
        · rw [if_pos h3] at he ⊢
          have := textF_sz _ _ _ _ he
          unfold textT
          have hk : ∀ (f : Nat) (m : List UInt8) (a : Nat) (q : List UInt8), (textF f m a q).e = 0 → (textF f m a q).k = 3 := by
            intro f
            induction f with
            | zero => intro m a q h; simp [textF] at h
            | succ f ih =>
              intro m a q h
              cases q with
              | nil => simp [textF] at h
              | cons y q =>
                unfold textF at h ⊢
                split
                · rfl
                · rename_i g1; rw [if_neg g1] at h
                  split
                  · rename_i g2; rw [if_pos g2] at h; simp at h
                  · rename_i g2; rw [if_neg g2] at h
                    split
                    · rename_i g3; rw [if_pos g3] at h; simp at h
                    · rename_i g3; rw [if_neg g3] at h; exact ih _ _ _ h
          have hk3 := hk _ _ _ _ he
          refine ⟨?_, fun _ => this.1, fun h => by rw [hk3] at h; simp at h⟩
          have h9 := this.2
          rw [List.length_drop] at h9
          simp at h9 ⊢
          omega
        · rw [if_neg h3] at he ⊢
          have hp0 := bestS_pre (x :: r)
          unfold signT at he ⊢
          generalize bestS (x :: r) 25 = bb at he hp0 ⊢
          cases bb with
          | nil => simp at he
          | cons y ys =>
            rw [if_neg (by simp)]
            exact ⟨pre_len (hp0.resolve_left (by simp)), fun _ => by simp, fun h => by simp at h⟩

/-- A token, and where it is. -/
structure Tk where
  k : Nat
  s : List UInt8
  n : Nat
  line : Nat
  at0 : Nat

def tokV (t : Tk) : Value := .agg #[.int .i64 t.k, .string (strB t.s), .int .i64 t.n, .int .i64 t.line, .int .i64 t.at0]
/-- What is read next, from a place on; its line; its place. -/
def nextT (l : List UInt8) (at0 : Nat) : TR := tokT (l.drop (at0 + gapN (l.drop at0)))
def lineT (l : List UInt8) (line at0 : Nat) : Nat := line + Lib.countByte ((l.drop at0).take (gapN (l.drop at0))) 10
def placeT (l : List UInt8) (at0 : Nat) : Nat := at0 + gapN (l.drop at0)
def tkT (l : List UInt8) (line at0 : Nat) : Tk := ⟨(nextT l at0).k, (nextT l at0).s, (nextT l at0).n, lineT l line at0, placeT l at0⟩

theorem placeT_le {l : List UInt8} {at0 : Nat} (h : at0 ≤ l.length) : placeT l at0 ≤ l.length := by
  unfold placeT
  have := gapN_le _ (l.drop at0) (Nat.le_refl _)
  rw [List.length_drop] at this
  omega

theorem count_le (l : List UInt8) (c : UInt8) : Lib.countByte l c ≤ l.length := List.count_le_length

set_option maxRecDepth 100000 in
set_option maxHeartbeats 2000000 in
theorem tokens1_in (lp Bn : Nat) (l : List UInt8) (hlen : l.length ≤ 4096) (J : List Tk → Nat → Nat → World → Prop) (E : List Tk → Nat → Nat → World → Prop)
    (hJc : ∀ pre line a W, (∀ t ∈ pre, t.k ≠ 0) → J pre line a W → W.cell? ⟨Bn, 0, none⟩ = some (.string (strB l)) ∧ Tabs W ∧ line ≤ a + 1)
    (hJg : ∀ pre line a W W', J pre line a W → Below W.heap.size W W' → J pre line a W')
    (hE : ∀ pre line a W1 o, (∀ t ∈ pre, t.k ≠ 0) → J pre line a W1 → (nextT l a).e ≠ 0 → a ≤ l.length → YieldAt Fence.wide (6 - 1) Tryz.prog lp #[tokV (tkT l line a), .int .i64 (nextT l a).e] (W1.alloc o) fun e W' => e = .returned (.bool false) ∧ E pre line a W')
    (hY : ∀ pre line a W1 o, (∀ t ∈ pre, t.k ≠ 0) → J pre line a W1 → (nextT l a).e = 0 → a ≤ l.length → YieldAt Fence.wide (6 - 1) Tryz.prog lp #[tokV (tkT l line a), .int .i64 0] (W1.alloc o) fun e W' => e = .returned (.bool true) ∧ J (pre ++ [tkT l line a]) (lineT l line a) (placeT l a + (nextT l a).sz) W' ∧ W'.heap[W1.heap.size]? = some o)
    (W : World) (h0 : J [] 1 0 W) :
    CallsIn Fence.wide 6 Tryz.prog 135 #[.func (.yield lp) #[] #[], .pointer (some ⟨Bn, 0, none⟩)] W fun e W' => (∃ u, e = .returned u) ∧
      ((∃ pre line a, (∀ t ∈ pre, t.k ≠ 0) ∧ (nextT l a).e ≠ 0 ∧ E pre line a W') ∨ ∃ pre line a, (∀ t ∈ pre, t.k ≠ 0) ∧ (nextT l a).e = 0 ∧ (nextT l a).k = 0 ∧ J (pre ++ [tkT l line a]) (lineT l line a) (placeT l a + (nextT l a).sz) W') := by
  refine callsIn_of_wp Tryz.func135 rfl trivial ?_ rfl
  simp only [Tryz.ntmps135, List.size_toArray, List.length_cons, List.length_nil, Nat.reduceAdd, Nat.reduceSub, Array.replicate_succ, Array.replicate_zero, List.push_toArray, List.append_toArray, List.nil_append, List.cons_append]
  gi_wp2
  gi_loopw [3, 4, 5] (fun vl va vm wr => (∃ pre line a, vl = .int .i64 (line : Nat) ∧ va = .int .i64 (a : Nat) ∧ vm = .bool true ∧ a ≤ l.length ∧ (∀ t ∈ pre, t.k ≠ 0) ∧ J pre line a wr) ∨
      (vm = .bool false ∧ ((∃ pre line a, (∀ t ∈ pre, t.k ≠ 0) ∧ (nextT l a).e ≠ 0 ∧ E pre line a wr) ∨ ∃ pre line a, (∀ t ∈ pre, t.k ≠ 0) ∧ (nextT l a).e = 0 ∧ (nextT l a).k = 0 ∧ J (pre ++ [tkT l line a]) (lineT l line a) (placeT l a + (nextT l a).sz) wr)))
    (fun _ va vm _ => match vm with | .bool true => l.length + 1 - (intOf va).toNat | _ => 0)
  case atStart => exact .inl ⟨[], 1, 0, rfl, rfl, rfl, Nat.zero_le _, (fun t h => by cases h), h0⟩
  case round =>
    rcases hrel with ⟨pre, line, a, rfl, rfl, rfl, ha, hpk, hJ⟩ | ⟨rfl, hfin⟩
    · obtain ⟨hc, htab, hla⟩ := hJc _ _ _ _ hpk hJ
      have HJ : Hid (J pre line a wr) := hJ
      have HPK : Hid (∀ t ∈ pre, t.k ≠ 0) := hpk
      clear hpk
      have HTB : Hid (Tabs wr) := htab
      have hpl := placeT_le (l := l) ha
      obtain ⟨g, hg⟩ : ∃ g, g = gapN (l.drop a) := ⟨_, rfl⟩
      have hgl : a + g ≤ l.length := by rw [hg]; exact hpl
      have s1 := fun wx => str_from wx l a ha
      have s2 := fun wx => str_sub wx l a g hgl
      have s3 := fun wx => str_from wx l (a + g) hgl
      rw [Int.natCast_add] at s3
      have cg := fun wx => gap_any (l.drop a) wx (by rw [List.length_drop]; omega)
      rw [← hg] at cg
      obtain ⟨cn, hcn⟩ : ∃ cn, cn = Lib.countByte ((l.drop a).take g) 10 := ⟨_, rfl⟩
      have hcnl : cn ≤ g := by rw [hcn]; exact Nat.le_trans (count_le _ _) (List.length_take_le ..)
      have cc := fun wx => Tryz.strings_Count_one (strB ((l.drop a).take g)) 10 wx
      rw [show (strB ((l.drop a).take g)).data.toList = (l.drop a).take g from rfl, ← hcn] at cc
      have ct := fun wx (h : Tabs wx) => token_any (l.drop (a + g)) wx (by rw [List.length_drop]; omega) h
      obtain ⟨R, hR⟩ : ∃ R, R = tokT (l.drop (a + g)) := ⟨_, rfl⟩
      rw [← hR] at ct
      unfold resV at ct
      have HRN : Hid (nextT l a = R) := show nextT l a = R by unfold nextT; rw [← hg, ← hR]
      have HTK : Hid (tkT l line a = ⟨R.k, R.s, R.n, line + cn, a + g⟩) := show _ = _ by unfold tkT lineT placeT; rw [HRN.out, ← hg, ← hcn]
      have HCG : Hid (∀ wx, Calls Tryz.prog 136 #[.string (strB (l.drop a))] wx fun e w' => e = .returned (.int .i64 g) ∧ wx = w') := cg
      have HCC : Hid (∀ wx, Calls Tryz.prog 137 #[.string (strB ((l.drop a).take g)), .string ⟨#[10]⟩] wx fun e w' => e = .returned (.int .i64 cn) ∧ w' = wx) := cc
      have HCT : Hid (∀ wx, Tabs wx → Calls Tryz.prog 138 #[.string (strB (l.drop (a + g)))] wx fun e w' => e = .returned (.tuple #[.agg #[.int .i64 R.k, .string (strB R.s), .int .i64 R.n, .int .i64 0, .int .i64 0], .int .i64 R.sz, .int .i64 R.e]) ∧ Below wx.heap.size wx w') := ct
      have HSZ : Hid (R.e = 0 → R.sz ≤ l.length - (a + g) ∧ (R.k ≠ 0 → 1 ≤ R.sz)) := fun h => by
        have := tokT_sz (l.drop (a + g)) (by rw [← hR]; exact h)
        rw [← hR, List.length_drop] at this
        exact ⟨this.1, this.2.1⟩
      clear cg cc ct hg hcn hR hJ htab hpl
      have hl64 : line + cn ≤ 5000 := by omega
      have ha64 : a + g ≤ 4096 := by omega
      by_cases he : R.e = 0
      · obtain ⟨hsz, hk1⟩ := HSZ.out he
        have HYY : Hid (∀ W1 o, J pre line a W1 → YieldAt Fence.wide (6 - 1) Tryz.prog lp #[.agg #[.int .i64 R.k, .string (strB R.s), .int .i64 R.n, .int .i64 ((line : Int) + cn), .int .i64 ((a : Int) + g)], .int .i64 0] (W1.alloc o) fun e W' => e = .returned (.bool true) ∧ J (pre ++ [tkT l line a]) (line + cn) (a + g + R.sz) W' ∧ W'.heap[W1.heap.size]? = some o) := fun W1 o h => by
          have := hY pre line a W1 o HPK.out h (by rw [HRN.out]; exact he) ha
          rw [HTK.out, HRN.out] at this
          have e1 : lineT l line a = line + cn := by have := congrArg Tk.line HTK.out; exact this
          have e2 : placeT l a = a + g := by have := congrArg Tk.at0 HTK.out; exact this
          rw [e1, e2] at this
          unfold tokV at this
          simp only [Int.natCast_add] at this
          rw [HTK.out]
          exact this
        rw [he] at HCT
        gi_wp2_with (refine ⟨trivial, ?_⟩; first
          | (gi_at_call 136; refine (callsIn_wide.2 (HCG.out _)).mono ?_; rintro e w1 ⟨rfl, hw⟩; subst hw)
          | (gi_at_call 137; refine (callsIn_wide.2 (HCC.out _)).mono ?_; rintro e w1 ⟨rfl, hw⟩; subst hw)
          | (gi_at_call 138; refine (callsIn_wide.2 (HCT.out _ HTB.out)).mono ?_; rintro e w1 ⟨rfl, hb1⟩; obtain ⟨fn, tmps, assign, body, hy, hRR⟩ := HYY.out _ (.cells #[.int .i64 R.k, .string (strB R.s), .int .i64 R.n, .int .i64 ((line : Int) + cn), .int .i64 ((a : Int) + g)] 72) (hJg _ _ _ _ _ HJ.out hb1)))
        refine hRR.mono ?_
        rintro e W3 ⟨rfl, hJ3, hblk⟩
        have hck : W3.cell? ⟨w1.heap.size, 0, none⟩ = some (.int .i64 R.k) := by
          rw [cell_of_row W3 w1.heap.size 0 _ _ _ hblk]; rfl
        clear hRR hy hblk
        by_cases hk : R.k = 0
        · have hkb : ((R.k : Int) != 0) = false := by rw [hk]; rfl
          gi_wp2
          refine ⟨.inr ⟨rfl, .inr ⟨pre, line, a, HPK.out, by rw [HRN.out]; exact he, by rw [HRN.out]; exact hk, ?_⟩⟩, ?_⟩
          · have e1 : lineT l line a = line + cn := by have := congrArg Tk.line HTK.out; exact this
            have e2 : placeT l a = a + g := by have := congrArg Tk.at0 HTK.out; exact this
            rw [e1, e2, HRN.out]
            exact hJ3
          · simp [intOf]; omega
        · have hkb : ((R.k : Int) != 0) = true := by rw [bne_iff_ne]; omega
          have hsz1 := hk1 hk
          gi_wp2
          refine ⟨.inl ⟨_, line + cn, a + g + R.sz, by go_num, by go_num, rfl, by omega, ?_, hJ3⟩, ?_⟩
          · intro t ht
            rcases List.mem_append.1 ht with h | h
            · exact HPK.out t h
            · rw [List.mem_singleton] at h; rw [h, HTK.out]; exact hk
          simp [intOf]
          omega
      · have HYY : Hid (∀ W1 o, J pre line a W1 → YieldAt Fence.wide (6 - 1) Tryz.prog lp #[.agg #[.int .i64 R.k, .string (strB R.s), .int .i64 R.n, .int .i64 ((line : Int) + cn), .int .i64 ((a : Int) + g)], .int .i64 R.e] (W1.alloc o) fun e W' => e = .returned (.bool false) ∧ E pre line a W') := fun W1 o h => by
          have := hE pre line a W1 o HPK.out h (by rw [HRN.out]; exact he) ha
          rw [HTK.out, HRN.out] at this
          unfold tokV at this
          simp only [Int.natCast_add] at this
          exact this
        gi_wp2_with (refine ⟨trivial, ?_⟩; first
          | (gi_at_call 136; refine (callsIn_wide.2 (HCG.out _)).mono ?_; rintro e w1 ⟨rfl, hw⟩; subst hw)
          | (gi_at_call 137; refine (callsIn_wide.2 (HCC.out _)).mono ?_; rintro e w1 ⟨rfl, hw⟩; subst hw)
          | (gi_at_call 138; refine (callsIn_wide.2 (HCT.out _ HTB.out)).mono ?_; rintro e w1 ⟨rfl, hb1⟩; obtain ⟨fn, tmps, assign, body, hy, hRR⟩ := HYY.out _ (.cells #[.int .i64 R.k, .string (strB R.s), .int .i64 R.n, .int .i64 ((line : Int) + cn), .int .i64 ((a : Int) + g)] 72) (hJg _ _ _ _ _ HJ.out hb1)))
        refine hRR.mono ?_
        rintro e W3 ⟨rfl, hE3⟩
        clear hRR hy
        gi_wp2
        refine ⟨.inr ⟨rfl, .inl ⟨pre, line, a, HPK.out, by rw [HRN.out]; exact he, hE3⟩⟩, ?_⟩
        simp [intOf]
        omega
    · gi_wp2
      go_end0
      exact ⟨⟨_, rfl⟩, hfin⟩
end Go.Proofs.YtghhamgealkodaaGreatDoor
/- lex: the tokens of a text. -/
namespace Go.Proofs.YtghhamgealkodaaGreatDoor
open Go.RowKit

/-- From one place on these tokens are read, up to another. -/
def scanTo (l : List UInt8) : Nat → Nat → List Tk → Nat → Nat → Prop
  | line0, a0, [], line, a => line = line0 ∧ a = a0
  | line0, a0, t :: ts, line, a => (nextT l a0).e = 0 ∧ t = tkT l line0 a0 ∧ scanTo l (lineT l line0 a0) (placeT l a0 + (nextT l a0).sz) ts line a

theorem scanTo_snoc {l : List UInt8} {line a : Nat} (he : (nextT l a).e = 0) : ∀ {ts : List Tk} {line0 a0 : Nat}, scanTo l line0 a0 ts line a →
    scanTo l line0 a0 (ts ++ [tkT l line a]) (lineT l line a) (placeT l a + (nextT l a).sz)
  | [], line0, a0, ⟨h1, h2⟩ => by subst h1; subst h2; exact ⟨he, rfl, rfl, rfl⟩
  | t :: ts, line0, a0, ⟨h1, h2, h3⟩ => ⟨h1, h2, scanTo_snoc he h3⟩

theorem scanTo_last {l : List UInt8} {t : Tk} {line a : Nat} : ∀ {ts : List Tk} {line0 a0 : Nat}, scanTo l line0 a0 (ts ++ [t]) line a →
    ∃ line1 a1, scanTo l line0 a0 ts line1 a1 ∧ (nextT l a1).e = 0 ∧ t = tkT l line1 a1
  | [], line0, a0, h => ⟨line0, a0, ⟨rfl, rfl⟩, h.1, h.2.1⟩
  | _ :: ts, line0, a0, h => by
    obtain ⟨line1, a1, h1, h2, h3⟩ := scanTo_last (ts := ts) h.2.2
    exact ⟨line1, a1, ⟨h.1, h.2.1, h1⟩, h2, h3⟩

/-- The tokens from a place on; or where it is wrong, and what. -/
def scanS (l : List UInt8) : Nat → Nat → Nat → List Tk × Nat × Nat
  | 0, _, _ => ([], 0, 0)
  | f + 1, line, a =>
    if (nextT l a).e ≠ 0 then ([], placeT l a, (nextT l a).e) else if (nextT l a).k = 0 then ([tkT l line a], 0, 0)
    else if (scanS l f (lineT l line a) (placeT l a + (nextT l a).sz)).2.2 ≠ 0 then ([], (scanS l f (lineT l line a) (placeT l a + (nextT l a).sz)).2.1, (scanS l f (lineT l line a) (placeT l a + (nextT l a).sz)).2.2)
    else (tkT l line a :: (scanS l f (lineT l line a) (placeT l a + (nextT l a).sz)).1, 0, 0)
def scanB (l : List UInt8) : List Tk × Nat × Nat := if 4096 < l.length then ([], 0, 5) else scanS l (l.length + 1) 1 0

theorem nextT_move {l : List UInt8} {a : Nat} (ha : a ≤ l.length) (he : (nextT l a).e = 0) (hk : (nextT l a).k ≠ 0) : a < placeT l a + (nextT l a).sz ∧ placeT l a + (nextT l a).sz ≤ l.length := by
  have hp := placeT_le ha
  have hz := tokT_sz (l.drop (a + gapN (l.drop a))) he
  have h1 := hz.2.1 hk
  have h2 := hz.1
  rw [List.length_drop] at h2
  unfold placeT at hp ⊢
  unfold nextT
  omega

theorem scanS_err {l : List UInt8} {line a : Nat} (he : (nextT l a).e ≠ 0) : ∀ (ts : List Tk) (line0 a0 f : Nat), scanTo l line0 a0 ts line a → (∀ t ∈ ts, t.k ≠ 0) → a0 ≤ l.length → l.length < a0 + f →
    scanS l f line0 a0 = ([], placeT l a, (nextT l a).e)
  | [], line0, a0, f, ⟨h1, h2⟩, _, ha, hf => by
    subst h1; subst h2
    obtain ⟨f, rfl⟩ : ∃ g, f = g + 1 := ⟨f - 1, by omega⟩
    unfold scanS; rw [if_pos he]
  | t :: ts, line0, a0, f, ⟨h1, h2, h3⟩, hk, ha, hf => by
    obtain ⟨f, rfl⟩ : ∃ g, f = g + 1 := ⟨f - 1, by omega⟩
    have hk0 : (nextT l a0).k ≠ 0 := by have := hk t (List.mem_cons_self ..); rw [h2] at this; exact this
    have hm := nextT_move ha h1 hk0
    have ih := scanS_err he ts _ _ f h3 (fun t ht => hk t (List.mem_cons_of_mem _ ht)) hm.2 (by omega)
    unfold scanS
    rw [if_neg (by simp [h1]), if_neg hk0, ih, if_pos he]

theorem scanS_end {l : List UInt8} {line a : Nat} (he : (nextT l a).e = 0) (hz : (nextT l a).k = 0) : ∀ (ts : List Tk) (line0 a0 f : Nat), scanTo l line0 a0 ts line a → (∀ t ∈ ts, t.k ≠ 0) → a0 ≤ l.length → l.length < a0 + f →
    scanS l f line0 a0 = (ts ++ [tkT l line a], 0, 0)
  | [], line0, a0, f, ⟨h1, h2⟩, _, ha, hf => by
    subst h1; subst h2
    obtain ⟨f, rfl⟩ : ∃ g, f = g + 1 := ⟨f - 1, by omega⟩
    unfold scanS; rw [if_neg (by simp [he]), if_pos hz]; rfl
  | t :: ts, line0, a0, f, ⟨h1, h2, h3⟩, hk, ha, hf => by
    obtain ⟨f, rfl⟩ : ∃ g, f = g + 1 := ⟨f - 1, by omega⟩
    have hk0 : (nextT l a0).k ≠ 0 := by have := hk t (List.mem_cons_self ..); rw [h2] at this; exact this
    have hm := nextT_move ha h1 hk0
    have ih := scanS_end he hz ts _ _ f h3 (fun t ht => hk t (List.mem_cons_of_mem _ ht)) hm.2 (by omega)
    unfold scanS
    rw [if_neg (by simp [h1]), if_neg hk0, ih, if_neg (by simp), h2]
    rfl

theorem scanTo_len {l : List UInt8} {line a : Nat} : ∀ (ts : List Tk) (line0 a0 : Nat), scanTo l line0 a0 ts line a → (∀ t ∈ ts, t.k ≠ 0) → a0 ≤ l.length → line0 ≤ a0 + 1 → a0 + ts.length ≤ a ∧ a ≤ l.length ∧ line ≤ a + 1
  | [], line0, a0, ⟨h1, h2⟩, _, ha, hl => by subst h1; subst h2; exact ⟨by simp, ha, hl⟩
  | t :: ts, line0, a0, ⟨h1, h2, h3⟩, hk, ha, hl => by
    have hk0 : (nextT l a0).k ≠ 0 := by have := hk t (List.mem_cons_self ..); rw [h2] at this; exact this
    have hm := nextT_move ha h1 hk0
    have hc : lineT l line0 a0 ≤ placeT l a0 + 1 := by
      unfold lineT placeT
      have := count_le ((l.drop a0).take (gapN (l.drop a0))) 10
      have h2 : ((l.drop a0).take (gapN (l.drop a0))).length ≤ gapN (l.drop a0) := List.length_take_le ..
      omega
    have := scanTo_len ts _ _ h3 (fun t ht => hk t (List.mem_cons_of_mem _ ht)) hm.2 (by omega)
    rw [List.length_cons]
    omega

/-- The cells of tokens. -/
def tkCells (ts : List Tk) : List Value := ts.flatMap fun t => [.int .i64 t.k, .string (strB t.s), .int .i64 t.n, .int .i64 t.line, .int .i64 t.at0]
theorem tkCells_append (a b : List Tk) : tkCells (a ++ b) = tkCells a ++ tkCells b := by unfold tkCells; rw [List.flatMap_append]
theorem textF_s : ∀ (f : Nat) (meant : List UInt8) (at0 : Nat) (r : List UInt8), meant.length ≤ 255 → (textF f meant at0 r).s.length ≤ 255
  | 0, _, _, _, _ => by simp [textF]
  | _ + 1, _, _, [], _ => by simp [textF]
  | f + 1, meant, at0, x :: r, h => by
    unfold textF
    split
    · exact h
    · split
      · simp
      · split
        · simp
        · rename_i h3
          exact textF_s f _ _ _ (by rw [List.length_append]; simp; omega)

theorem tokT_s (l : List UInt8) : (tokT l).s.length ≤ l.length + 255 := by
  cases l with
  | nil => simp [tokT]
  | cons x r =>
    unfold tokT
    simp only
    split
    · have := nameL_le (x :: r)
      unfold nameR
      split
      · exact Nat.le_trans this (by omega)
      · split
        · simp
        · exact Nat.le_trans this (by omega)
    · split
      · unfold numT; split <;> exact Nat.zero_le _
      · split
        · have h9 : (textT (x :: r)).s.length ≤ 255 := textF_s (x :: r).length [] 1 ((x :: r).drop 1) (Nat.zero_le _)
          exact Nat.le_trans h9 (Nat.le_add_left 255 _)
        · unfold signT
          have h9 := bestS_len (x :: r) 25
          generalize bestS (x :: r) 25 = bb at h9 ⊢
          split
          · exact Nat.zero_le _
          · have h8 : 2 ≤ (x :: r).length + 255 := Nat.le_trans (by decide) (Nat.le_add_left 255 _)
            exact Nat.le_trans h9 h8
end Go.Proofs.YtghhamgealkodaaGreatDoor
/- lex.Scan. -/
namespace Go.Proofs.YtghhamgealkodaaGreatDoor
open Go.RowKit Go.Shelf

attribute [local go_sem] Oper.semAt_some

set_option maxRecDepth 100000 in
set_option maxHeartbeats 1000000 in
theorem clone_str (l : List UInt8) (w : World) (hl : l.length ≤ 281474976710656) :
    Calls Tryz.prog 102 #[.string (strB l)] w fun e w' => e = .returned (.string (strB l)) ∧ Below w.heap.size w w' := by
  go_enter Tryz.func102, Tryz.ntmps102
  go_wp2_with fail
  refine (Tryz.stringslite_Clone (strB l) w hl).mono ?_
  rintro e w1 ⟨rfl, hb⟩
  have HB : Hid (Below w.heap.size w w1) := hb
  clear hb
  go_wp2
  go_ret
  exact ⟨rfl, HB.out⟩

set_option maxRecDepth 100000 in
set_option maxHeartbeats 1000000 in
theorem tokens_in (l : List UInt8) (w : World) :
    CallsIn Fence.wide 6 Tryz.prog 101 #[.string (strB l)] w fun e w' => e = .returned (.func (.func 135) #[] #[.pointer (some ⟨w.heap.size, 0, none⟩)]) ∧ w' = w.alloc (.cells #[.string (strB l)] 9) := by
  refine callsIn_of_wp Tryz.func101 rfl trivial ?_ rfl
  simp only [Tryz.ntmps101, List.size_toArray, List.length_cons, List.length_nil, Nat.reduceAdd, Nat.reduceSub, Array.replicate_succ, Array.replicate_zero, List.push_toArray, List.append_toArray, List.nil_append, List.cons_append]
  gi_wp2
  go_ret
  exact ⟨rfl, rfl⟩

/-- A range over a function's value, in no round, under a fence without a bound. -/
theorem rangeFunc_x {n : Nat} {P : Program} {g : Operand} {ps : Array Tmp} {assign body : Code} {Q : Exit → Act → World → Prop} {a : Act} {w : World} {gf : Nat} {lb : Array Value}
    (hg : a.eval g = .func (.func gf) #[] lb) (eg : ∀ args w, (callFunc gf args).run P w = .ok (.enter gf args) w)
    (h : ∀ r0 : Loop, r0.state = .ready → r0.pending = none → r0.tmps = a.tmps → r0.params = ps → r0.assign = assign → r0.body = body →
      CallsIn Fence.wide (n - 1) P gf (#[.func (.yield (w.heap.size + 1)) #[] #[]] ++ lb) ((w.alloc (.deferred (some []))).alloc (.loop r0)) (rangePost Fence.wide n P (w.heap.size + 1) Q { a with defers := [{ target := .collected w.heap.size, args := #[] }] ++ a.defers })) :
    (Code.rangeFunc g ps assign body).wpIn Fence.wide n P Q a w :=
  wpIn_rangeFunc fun fn _ => ⟨_, _, _, { target := .fn (.func gf) lb, args := #[.func (.yield (w.heap.size + 1)) #[] #[]] }, _, gf, _, _, run_enterLoop_outer fn a.tmps ps assign body,
    by simp only [resolve, hg]; simp [go_sem]; rfl, fun _ _ => trivial, by simp [invoke, go_sem, eg]; rfl, (fun hd => by cases hd), h _ rfl rfl rfl rfl rfl rfl⟩

set_option maxRecDepth 100000 in
theorem info_tok : (Tryz.prog.info? 72).map (fun i => (i.zero, i.size, i.bytes)) = some (some (.agg #[.int .i64 0, .string ⟨#[]⟩, .int .i64 0, .int .i64 0, .int .i64 0]), 5, 48) := by kernel_rfl

/-- What holds between two rounds of Scan. -/
structure ScanJ (N : Nat) (w : World) (l : List UInt8) (ob : Obj) (pre : List Tk) (line a : Nat) (W : World) : Prop where
  all : ∃ r, Boxed W (N + 3) 64 r ∧ W.ownsRow (N + 7) 72 5 r pre.length (tkCells pre)
  r0 : Boxed W N 64 (.slice none 0 0)
  r1 : Boxed W (N + 1) 3 (.int .i64 0)
  r2 : Boxed W (N + 2) 26 (.int .i64 0)
  sb : Boxed W (N + 4) 9 (.string (strB l))
  bel : Below N w W
  defd : W.heap[N + 5]? = some (.deferred (some []))
  loop : W.heap[N + 6]? = some ob
  unto : scanTo l 1 0 pre line a

/-- What holds behind a token that is wrong. -/
structure ScanE (N : Nat) (w : World) (l : List UInt8) (ob : Obj) (pre : List Tk) (line a : Nat) (W : World) : Prop where
  r0 : Boxed W N 64 (.slice none 0 0)
  r1 : Boxed W (N + 1) 3 (.int .i64 (placeT l a))
  r2 : Boxed W (N + 2) 26 (.int .i64 (nextT l a).e)
  bel : Below N w W
  defd : W.heap[N + 5]? = some (.deferred (some []))
  loop : W.heap[N + 6]? = some ob
  unto : scanTo l 1 0 pre line a

theorem own_blockX {w w' : World} {B e sz n : Nat} {v : Value} {xs : List Value} (h : w.ownsRow B e sz v n xs) (hk : ∀ (k : Nat) (cur : Array Value), w.heap[k]? = some (Obj.cells cur e (0, 0)) → w'.heap[k]? = w.heap[k]?) : w'.ownsRow B e sz v n xs := by
  obtain ⟨h1, h2⟩ := h
  refine ⟨h1, ?_⟩
  rcases h2 with h2 | ⟨g, cap, cur, hv, hg, hh, r⟩
  · exact .inl h2
  · exact .inr ⟨g, cap, cur, hv, hg, (hk g cur hh).trans hh, r⟩

theorem own_baseX {w : World} {B B' e sz n : Nat} {v : Value} {xs : List Value} (h : w.ownsRow B e sz v n xs) (hB : B' ≤ B) : w.ownsRow B' e sz v n xs := by
  obtain ⟨h1, h2⟩ := h
  refine ⟨h1, ?_⟩
  rcases h2 with h2 | ⟨g, cap, cur, hv, hg, r⟩
  · exact .inl h2
  · exact .inr ⟨g, cap, cur, hv, Nat.le_trans hB hg, r⟩

theorem ScanJ.grow {N : Nat} {w : World} {l : List UInt8} {ob : Obj} {pre : List Tk} {line a : Nat} {W W' : World} (h : ScanJ N w l ob pre line a W) (hB : Below W.heap.size W W') : ScanJ N w l ob pre line a W' := by
  have hN : N + 6 < W.heap.size := (Array.getElem?_eq_some_iff.1 h.loop).1
  obtain ⟨⟨r, h1, h2⟩, b0, b1, b2, b4, hb, hd, hl, ht⟩ := h
  have key : ∀ {k : Nat} {o : Obj}, W.heap[k]? = some o → W'.heap[k]? = some o := fun {k o} hk => (hB.block k (Array.getElem?_eq_some_iff.1 hk).1).trans hk
  exact ⟨⟨r, key h1, own_blockX h2 (fun k cur hk => hB.block k (Array.getElem?_eq_some_iff.1 hk).1)⟩, key b0, key b1, key b2, key b4, hb.trans (hB.mono (by omega)), key hd, key hl, ht⟩

/-- The same but for the loop's record. -/
theorem ScanJ.put {N : Nat} {w : World} {l : List UInt8} {ob ob' : Obj} {pre : List Tk} {line a : Nat} {W : World} (h : ScanJ N w l ob pre line a W) (hob : ob.isCells = false) : ScanJ N w l ob' pre line a (W.putObj (N + 6) ob') := by
  have hN : N + 6 < W.heap.size := (Array.getElem?_eq_some_iff.1 h.loop).1
  have hl := h.loop
  obtain ⟨⟨r, h1, h2⟩, b0, b1, b2, b4, hb, hd, _, ht⟩ := h
  have key : ∀ {k : Nat}, k ≠ N + 6 → (W.putObj (N + 6) ob').heap[k]? = W.heap[k]? := fun {k} hk => World.putObj_heap_other hk
  refine ⟨⟨r, (key (by omega)).trans h1, own_blockX h2 (fun k cur hk => key (fun e => ?_))⟩, (key (by omega)).trans b0, (key (by omega)).trans b1, (key (by omega)).trans b2, (key (by omega)).trans b4, ?_, (key (by omega)).trans hd, World.putObj_heap_same hN, ht⟩
  · rw [e, hl] at hk; cases hk; cases hob
  · exact hb.trans ((Below.refl N W).grown (grownBy_putObj' W _ _) (by omega) (fun k e => by cases e; omega))

theorem setCell_same {W : World} {b i : Nat} {v : Value} {cur : Array Value} {t : TypeId} {fr : Nat × Nat} (h : W.heap[b]? = some (.cells cur t fr)) (hv : cur[i]? = some v) : W.setCell ⟨b, i, none⟩ v = W := by
  have e : W.heap.modify b (fun | .cells c elem frozen => .cells (if (none : Option Unit).isSome then c else c.setIfInBounds i v) elem frozen | o => o) = W.heap := by
    apply Array.ext_getElem?
    intro k
    by_cases hk : k = b
    · subst hk
      rw [Array.getElem?_modify, h]
      have : cur.setIfInBounds i v = cur := by
        apply Array.ext_getElem?
        intro j
        rw [Array.getElem?_setIfInBounds]
        by_cases hj : i = j
        · subst hj
          rw [hv]
          have := (Array.getElem?_eq_some_iff.1 hv).1
          simp [this]
        · simp [hj]
      simp [this]
    · rw [Array.getElem?_modify, if_neg (by omega)]
  cases W
  unfold World.setCell
  simp only at e ⊢
  congr 1

theorem results_cell3 {fn : Func} {p q s : Tmp} {t1 t2 t3 : TypeId} (h : fn.results = #[.cell p t1, .cell q t2, .cell s t3]) (tmps : Array Value) (P : Program) (w : World) {a1 a2 a3 : Addr} {v1 v2 v3 : Value}
    (h1 : tmps.getD p undef = .pointer (some a1)) (h2 : tmps.getD q undef = .pointer (some a2)) (h3 : tmps.getD s undef = .pointer (some a3))
    (l1 : (loadVar t1 a1).run P w = .ok v1 w) (l2 : (loadVar t2 a2).run P w = .ok v2 w) (l3 : (loadVar t3 a3).run P w = .ok v3 w) :
    (results fn tmps).run P w = .ok (.tuple #[v1, v2, v3]) w := by
  rw [Array.getD_eq_getD_getElem?] at h1 h2 h3
  simp only [results, h]
  simp [Sem.run_bind, Result.andThen, h1, h2, h3, l1, l2, l3, asAddr]

theorem row_frozen {W : World} {b i : Nat} {cur : Array Value} {t : TypeId} (h : W.heap[b]? = some (.cells cur t (0, 0))) : W.frozen? ⟨b, i, none⟩ = false := by simp [World.frozen?, h]

theorem cells_new (W : World) (cs : List Value) (t : TypeId) : ∀ j u, cs[j]? = some u → (W.alloc (.cells cs.toArray t)).cell? ((⟨W.heap.size, 0, none⟩ : Addr).add j) = some u := fun j u h => by
  rw [show (⟨W.heap.size, 0, none⟩ : Addr).add j = ⟨W.heap.size, j, none⟩ by simp [Addr.add]; try omega, cell_of_row _ _ _ _ _ _ (World.alloc_heap_new W _)]
  simpa using h

set_option maxRecDepth 100000 in
set_option maxHeartbeats 2000000 in
theorem scan_in (l : List UInt8) (w : World) (hl : l.length ≤ 4096) (ht : Tabs w) :
    Calls Tryz.prog 56 #[.string (strB l)] w fun e w' => ∃ (r : Value), e = .returned (.tuple #[r, .int .i64 (scanS l (l.length + 1) 1 0).2.1, .int .i64 (scanS l (l.length + 1) 1 0).2.2]) ∧
      w'.ownsRow w.heap.size 72 5 r (scanS l (l.length + 1) 1 0).1.length (tkCells (scanS l (l.length + 1) 1 0).1) ∧ Below w.heap.size w w' := by
  obtain ⟨i0, hi, hz0, hz1, hz2⟩ := info_parts info_tok
  have HT : Hid (Tabs w) := ht
  have hsz0 : (strB l).size = l.length := rfl
  clear ht
  refine (callsIn_wide (n := 7)).1 ?_
  refine callsIn_of_wp_marks Tryz.func56 rfl trivial ?_ rfl
  simp only [Tryz.ntmps56, List.size_toArray, List.length_cons, List.length_nil, Nat.reduceAdd, Nat.reduceSub, Array.replicate_succ, Array.replicate_zero, List.push_toArray, List.append_toArray, List.nil_append, List.cons_append]
  gi_wp2_with (refine ⟨trivial, ?_⟩; gi_at_call 101; refine (tokens_in _ _).mono ?_; rintro e w' ⟨rfl, rfl⟩)
  refine rangeFunc_x rfl (enters_of Tryz.func135 (by kernel_rfl) rfl) (fun r0 hst hpe htm hpa has hbo => ?_)
  obtain ⟨N, hN⟩ : ∃ N, N = w.heap.size := ⟨_, rfl⟩
  obtain ⟨W0, hW0⟩ : ∃ W0, W0 = ((((w.alloc (.cells #[.slice none 0 0] 64)).alloc (.cells #[.int .i64 0] 3)).alloc (.cells #[.int .i64 0] 26)).alloc (.cells #[.slice none 0 0] 64)).alloc (.cells #[.string (strB l)] 9) := ⟨_, rfl⟩
  have hsz : W0.heap.size = N + 5 := by rw [hW0, hN]; simp
  have hB0 : Below N w W0 := by
    rw [hW0, hN]
    exact (((((Below.refl _ w).alloc (Nat.le_refl _) _).alloc (by simp) _).alloc (by simp; omega) _).alloc (by simp; omega) _).alloc (by simp; omega) _
  have b0 : Boxed W0 N 64 (.slice none 0 0) := by rw [hW0, hN]; exact ((((Boxed.new w _ _).alloc _).alloc _).alloc _).alloc _
  have b1 : Boxed W0 (N + 1) 3 (.int .i64 0) := by
    have h := (((Boxed.new (w.alloc (.cells #[.slice none 0 0] 64)) 3 (.int .i64 0)).alloc (.cells #[.int .i64 0] 26)).alloc (.cells #[.slice none 0 0] 64)).alloc (.cells #[.string (strB l)] 9)
    rw [World.size_alloc] at h
    rw [hW0, hN]; exact h
  have b2 : Boxed W0 (N + 2) 26 (.int .i64 0) := by
    have h := ((Boxed.new ((w.alloc (.cells #[.slice none 0 0] 64)).alloc (.cells #[.int .i64 0] 3)) 26 (.int .i64 0)).alloc (.cells #[.slice none 0 0] 64)).alloc (.cells #[.string (strB l)] 9)
    rw [World.size_alloc, World.size_alloc] at h
    rw [hW0, hN]; exact h
  have b3 : Boxed W0 (N + 3) 64 (.slice none 0 0) := by
    have h := (Boxed.new (((w.alloc (.cells #[.slice none 0 0] 64)).alloc (.cells #[.int .i64 0] 3)).alloc (.cells #[.int .i64 0] 26)) 64 (.slice none 0 0)).alloc (.cells #[.string (strB l)] 9)
    rw [World.size_alloc, World.size_alloc, World.size_alloc] at h
    rw [hW0, hN]; exact h
  have b4 : Boxed W0 (N + 4) 9 (.string (strB l)) := by
    have h := Boxed.new ((((w.alloc (.cells #[.slice none 0 0] 64)).alloc (.cells #[.int .i64 0] 3)).alloc (.cells #[.int .i64 0] 26)).alloc (.cells #[.slice none 0 0] 64)) 9 (.string (strB l))
    rw [World.size_alloc, World.size_alloc, World.size_alloc, World.size_alloc] at h
    rw [hW0, hN]; exact h
  rw [← hW0, hsz]
  simp only [Nat.add_assoc, Nat.reduceAdd] at htm ⊢
  rw [← hN] at htm ⊢
  have HN : Hid (N = w.heap.size) := hN
  clear hN hW0
  have hd1 : ((W0.alloc (.deferred (some []))).alloc (.loop r0)).heap[N + 5]? = some (.deferred (some [])) := by
    rw [← hsz]
    exact (Below.heap_alloc _ _ _ (by simp)).trans (World.alloc_heap_new W0 _)
  have hl1 : ((W0.alloc (.deferred (some []))).alloc (.loop r0)).heap[N + 6]? = some (.loop r0) := by
    have := World.alloc_heap_new (W0.alloc (.deferred (some []))) (.loop r0)
    rwa [World.size_alloc, hsz] at this
  have hJ0 : ScanJ N w l (.loop r0) [] 1 0 ((W0.alloc (.deferred (some []))).alloc (.loop r0)) :=
    ⟨⟨.slice none 0 0, (b3.alloc _).alloc _, World.ownsRow_nil _ _ _ _⟩, (b0.alloc _).alloc _, (b1.alloc _).alloc _, (b2.alloc _).alloc _, (b4.alloc _).alloc _, ((hB0.alloc (by omega) _).alloc (by simp; omega) _), hd1, hl1, rfl, rfl⟩
  obtain ⟨rE, hrE⟩ : ∃ rE : Loop, rE = { r0 with state := .done, pending := some .ret } := ⟨_, rfl⟩
  have HRE : Hid (rE = { r0 with state := .done, pending := some .ret }) := hrE
  clear hrE
  refine (tokens1_in (N + 6) (N + 4) l hl (ScanJ N w l (.loop r0)) (ScanE N w l (.loop rE)) ?hJc ?hJg ?hE ?hY _ hJ0).mono ?_
  case hJc =>
    intro pre line a W hpk hJ
    exact ⟨hJ.sb.cell, HT.out.below hJ.bel (by rw [HN.out]; exact Nat.le_refl _), (scanTo_len pre 1 0 hJ.unto hpk (Nat.zero_le _) (by omega)).2.2⟩
  case hJg =>
    intro pre line a W W' h hB
    exact h.grow hB
  case hE =>
    intro pre line a W1 o hpk hJ he ha
    have hJy : ScanJ N w l (.loop r0) pre line a (W1.alloc o) := hJ.grow ((Below.refl _ W1).alloc (Nat.le_refl _) o)
    have hl2 := hJy.loop
    refine ⟨_, _, _, _, run_yield hl2 (by rw [hpa]; rfl), roundIn_of_wpIn trivial ?_⟩
    rw [has, hbo, htm, hpa]
    obtain ⟨T, hT⟩ : ∃ T, T = tkT l line a := ⟨_, rfl⟩
    rw [← hT]
    have HTT : Hid (T = tkT l line a) := hT
    clear hT
    obtain ⟨er, her⟩ : ∃ er, er = (nextT l a).e := ⟨_, rfl⟩
    rw [← her] at he ⊢
    have HER : Hid (er = (nextT l a).e) := her
    clear her
    have heb : ((er : Int) != 0) = true := by rw [bne_iff_ne]; omega
    unfold tokV
    simp only [List.zip_toArray, List.zip_cons_cons, List.zip_nil_right]
    gi_wp2
    have hJt : ScanJ N w l (.loop r0) pre line a ((W1.alloc o).alloc (.cells #[.int .i64 T.k, .string (strB T.s), .int .i64 T.n, .int .i64 T.line, .int .i64 T.at0] 72)) := hJy.grow ((Below.refl _ _).alloc (Nat.le_refl _) _)
    have hl3 := hJt.loop
    refine ⟨_, run_beginRound (P := Tryz.prog) hl3 hst, ?_⟩
    have hJb := hJt.put (ob' := .loop { r0 with state := .busy }) rfl
    have hNs : N + 6 < W1.heap.size := (Array.getElem?_eq_some_iff.1 hJ.loop).1
    have hb5 : (((W1.alloc o).alloc (.cells #[.int .i64 T.k, .string (strB T.s), .int .i64 T.n, .int .i64 T.line, .int .i64 T.at0] 72)).putObj (N + 6) (.loop { r0 with state := .busy })).heap[W1.heap.size + 1]? = some (.cells #[.int .i64 T.k, .string (strB T.s), .int .i64 T.n, .int .i64 T.line, .int .i64 T.at0] 72 (0, 0)) := by
      rw [World.putObj_heap_other (by omega)]
      have := World.alloc_heap_new (W1.alloc o) (.cells #[.int .i64 T.k, .string (strB T.s), .int .i64 T.n, .int .i64 T.line, .int .i64 T.at0] 72)
      rwa [World.size_alloc] at this
    generalize ((W1.alloc o).alloc (.cells #[.int .i64 T.k, .string (strB T.s), .int .i64 T.n, .int .i64 T.line, .int .i64 T.at0] 72)).putObj (N + 6) (.loop { r0 with state := .busy }) = Wb at hJb hb5 ⊢
    obtain ⟨M, hM⟩ : ∃ M, M = W1.heap.size := ⟨_, rfl⟩
    rw [← hM] at hb5 hNs ⊢
    clear hM hl3 hJt hl2 hJy hJ
    have HJB : Hid (ScanJ N w l (.loop { r0 with state := .busy }) pre line a Wb) := hJb
    have k0 := hJb.r0
    have k1 := hJb.r1
    have k2 := hJb.r2
    have kc0 := k0.cell
    have kf0 := k0.frozen
    have kc1 := k1.cell
    have kf1 := k1.frozen
    have kc2 := k2.cell
    have kf2 := k2.frozen
    clear hJb
    have q4 : Wb.cell? ⟨M + 1, 4, none⟩ = some (.int .i64 T.at0) := by rw [cell_of_row _ _ _ _ _ _ hb5]; rfl
    have s0 : Wb.setCell ⟨N, 0, none⟩ (.slice none 0 0) = Wb := setCell_same k0 rfl
    have kc3 : (Wb.setCell ⟨N + 1, 0, none⟩ (.int .i64 T.at0)).cell? ⟨N + 2, 0, none⟩ = some (.int .i64 0) := (k2.kept (grownBy_setCell' Wb (N + 1) _) (by simp)).cell
    have kf3 : (Wb.setCell ⟨N + 1, 0, none⟩ (.int .i64 T.at0)).frozen? ⟨N + 2, 0, none⟩ = false := (k2.kept (grownBy_setCell' Wb (N + 1) _) (by simp)).frozen
    have HF : Hid (∀ act, roundPost Tryz.prog (N + 6) (fun e W' => e = Ending.returned (Value.bool false) ∧ ScanE N w l (Obj.loop rE) pre line a W') Exit.ret act ((Wb.setCell ⟨N + 1, 0, none⟩ (.int .i64 T.at0)).setCell ⟨N + 2, 0, none⟩ (.int .i64 er)).drew) := by
      intro act
      have J := HJB.out
      have key : ∀ {k : Nat} {ob : Obj}, k ≠ N + 1 → k ≠ N + 2 → Wb.heap[k]? = some ob → ((Wb.setCell ⟨N + 1, 0, none⟩ (.int .i64 T.at0)).setCell ⟨N + 2, 0, none⟩ (.int .i64 er)).drew.heap[k]? = some ob := fun {k ob} h1 h2 h3 => by
        show ((Wb.setCell ⟨N + 1, 0, none⟩ (.int .i64 T.at0)).setCell ⟨N + 2, 0, none⟩ (.int .i64 er)).heap[k]? = some ob
        rw [Below.heap_setCell _ _ _ _ (by simpa using h2), Below.heap_setCell _ _ _ _ (by simpa using h1), h3]
      have m1 : Boxed ((Wb.setCell ⟨N + 1, 0, none⟩ (.int .i64 T.at0)).setCell ⟨N + 2, 0, none⟩ (.int .i64 er)).drew (N + 1) 3 (.int .i64 T.at0) := by
        have h := (k1.set (.int .i64 T.at0)).kept (grownBy_setCell' (Wb.setCell ⟨N + 1, 0, none⟩ (.int .i64 T.at0)) (N + 2) (.int .i64 er)) (by simp)
        exact h
      have m2 : Boxed ((Wb.setCell ⟨N + 1, 0, none⟩ (.int .i64 T.at0)).setCell ⟨N + 2, 0, none⟩ (.int .i64 er)).drew (N + 2) 26 (.int .i64 er) := (k2.kept (grownBy_setCell' Wb (N + 1) (.int .i64 T.at0)) (by simp)).set (.int .i64 er)
      have hB : Below N Wb ((Wb.setCell ⟨N + 1, 0, none⟩ (.int .i64 T.at0)).setCell ⟨N + 2, 0, none⟩ (.int .i64 er)).drew := (((Below.refl N Wb).setCell (p := ⟨N + 1, 0, none⟩) (by simp) _).setCell (p := ⟨N + 2, 0, none⟩) (by simp) _).trans (⟨rfl, rfl, rfl, Nat.le_refl _, fun _ _ => rfl⟩ : Below N ((Wb.setCell ⟨N + 1, 0, none⟩ (.int .i64 T.at0)).setCell ⟨N + 2, 0, none⟩ (.int .i64 er)) ((Wb.setCell ⟨N + 1, 0, none⟩ (.int .i64 T.at0)).setCell ⟨N + 2, 0, none⟩ (.int .i64 er)).drew)
      have m0 := key (k := N) (by omega) (by omega) J.r0
      have md := key (k := N + 5) (by omega) (by omega) J.defd
      have ml := key (k := N + 6) (by omega) (by omega) J.loop
      generalize ((Wb.setCell ⟨N + 1, 0, none⟩ (.int .i64 T.at0)).setCell ⟨N + 2, 0, none⟩ (.int .i64 er)).drew = X at m0 m1 m2 md ml hB ⊢
      have hX := (Array.getElem?_eq_some_iff.1 ml).1
      refine ⟨_, _, run_endRound (some .ret) ml, rfl, ?_⟩
      have er0 : ({ { r0 with state := .busy } with state := if (some Code.ret).isNone then .ready else .done, pending := some .ret } : Loop) = rE := by
        rw [HRE.out]; rfl
      rw [er0]
      have e1 : T.at0 = placeT l a := by rw [HTT.out]; rfl
      rw [e1] at m1
      rw [HER.out] at m2
      have put : ∀ {k : Nat} {ob : Obj}, k ≠ N + 6 → X.heap[k]? = some ob → (X.putObj (N + 6) (.loop rE)).heap[k]? = some ob := fun {k ob} h1 h2 => (World.putObj_heap_other h1).trans h2
      exact ⟨put (by omega) m0, put (by omega) m1, put (by omega) m2, (J.bel.trans hB).trans ((Below.refl N X).grown (grownBy_putObj' X _ _) (by omega) (fun k e => by cases e; omega)), put (by omega) md, World.putObj_heap_same hX, J.unto⟩
    gi_wp2
    gi_region
    all_goals (gi_wp2; exact HF.out _)
  case hY =>
    intro pre line a W1 o hpk hJ he ha
    have hJy : ScanJ N w l (.loop r0) pre line a (W1.alloc o) := hJ.grow ((Below.refl _ W1).alloc (Nat.le_refl _) o)
    have hpl := scanTo_len pre 1 0 hJ.unto hpk (Nat.zero_le _) (by omega)
    have hl2 := hJy.loop
    refine ⟨_, _, _, _, run_yield hl2 (by rw [hpa]; rfl), roundIn_of_wpIn trivial ?_⟩
    rw [has, hbo, htm, hpa]
    obtain ⟨T, hT⟩ : ∃ T, T = tkT l line a := ⟨_, rfl⟩
    rw [← hT]
    have HTT : Hid (T = tkT l line a) := hT
    clear hT
    unfold tokV
    simp only [List.zip_toArray, List.zip_cons_cons, List.zip_nil_right]
    gi_wp2
    have hJt : ScanJ N w l (.loop r0) pre line a ((W1.alloc o).alloc (.cells #[.int .i64 T.k, .string (strB T.s), .int .i64 T.n, .int .i64 T.line, .int .i64 T.at0] 72)) := hJy.grow ((Below.refl _ _).alloc (Nat.le_refl _) _)
    have hl3 := hJt.loop
    refine ⟨_, run_beginRound (P := Tryz.prog) hl3 hst, ?_⟩
    have hJb := hJt.put (ob' := .loop { r0 with state := .busy }) rfl
    have hNs : N + 6 < W1.heap.size := (Array.getElem?_eq_some_iff.1 hJ.loop).1
    have ho : (((W1.alloc o).alloc (.cells #[.int .i64 T.k, .string (strB T.s), .int .i64 T.n, .int .i64 T.line, .int .i64 T.at0] 72)).putObj (N + 6) (.loop { r0 with state := .busy })).heap[W1.heap.size]? = some o := by
      rw [World.putObj_heap_other (by omega), Below.heap_alloc _ _ _ (by simp)]
      exact World.alloc_heap_new W1 _
    have hb5 : (((W1.alloc o).alloc (.cells #[.int .i64 T.k, .string (strB T.s), .int .i64 T.n, .int .i64 T.line, .int .i64 T.at0] 72)).putObj (N + 6) (.loop { r0 with state := .busy })).heap[W1.heap.size + 1]? = some (.cells #[.int .i64 T.k, .string (strB T.s), .int .i64 T.n, .int .i64 T.line, .int .i64 T.at0] 72 (0, 0)) := by
      rw [World.putObj_heap_other (by omega)]
      have := World.alloc_heap_new (W1.alloc o) (.cells #[.int .i64 T.k, .string (strB T.s), .int .i64 T.n, .int .i64 T.line, .int .i64 T.at0] 72)
      rwa [World.size_alloc] at this
    have hkeep : ∀ k, k ≠ N + 6 → k < W1.heap.size → ∀ ob, W1.heap[k]? = some ob → (((W1.alloc o).alloc (.cells #[.int .i64 T.k, .string (strB T.s), .int .i64 T.n, .int .i64 T.line, .int .i64 T.at0] 72)).putObj (N + 6) (.loop { r0 with state := .busy })).heap[k]? = some ob := fun k h1 h2 ob h3 => by
      rw [World.putObj_heap_other h1, Below.heap_alloc _ _ _ (by simp; omega), Below.heap_alloc _ _ _ h2, h3]
    have hsb : (((W1.alloc o).alloc (.cells #[.int .i64 T.k, .string (strB T.s), .int .i64 T.n, .int .i64 T.line, .int .i64 T.at0] 72)).putObj (N + 6) (.loop { r0 with state := .busy })).heap.size = W1.heap.size + 2 := by
      simp
    generalize ((W1.alloc o).alloc (.cells #[.int .i64 T.k, .string (strB T.s), .int .i64 T.n, .int .i64 T.line, .int .i64 T.at0] 72)).putObj (N + 6) (.loop { r0 with state := .busy }) = Wb at hJb ho hb5 hsb hkeep ⊢
    have hTl : T.s.length ≤ 281474976710656 := by
      rw [HTT.out]
      have h1 := tokT_s (l.drop (a + gapN (l.drop a)))
      rw [List.length_drop] at h1
      have h2 : (tkT l line a).s = (tokT (l.drop (a + gapN (l.drop a)))).s := rfl
      rw [h2]
      omega
    obtain ⟨ra, ha1, ha2⟩ := hJ.all
    have hra : Boxed Wb (N + 3) 64 ra := hkeep _ (by omega) (by omega) _ ha1
    have hrl : ∀ g, some g = ra.ownBlock → g < W1.heap.size := fun g e => (ha2.lt g e.symm).2
    obtain ⟨M, hM⟩ : ∃ M, M = W1.heap.size := ⟨_, rfl⟩
    rw [← hM] at ho hb5 hsb hNs hrl ⊢
    have HRA : Hid (Boxed Wb (N + 3) 64 ra) := hra
    have HRL : Hid (∀ g, some g = ra.ownBlock → g < M) := hrl
    have HM : Hid (M = W1.heap.size) := hM
    clear hM hl3 hJt hl2 hJy hkeep hra hrl ha1 ha2 hJ
    have HJB : Hid (ScanJ N w l (.loop { r0 with state := .busy }) pre line a Wb) := hJb
    clear hJb
    have q1 : Wb.cell? ⟨M + 1, 1, none⟩ = some (.string (strB T.s)) := by rw [cell_of_row _ _ _ _ _ _ hb5]; rfl
    have hpn : pre.length ≤ 5000 := by omega
    gi_wp2_with (first
      | (refine ⟨trivial, ?_⟩; gi_at_call 102; refine (callsIn_wide.2 (clone_str _ _ hTl)).mono ?_; rintro e w3 ⟨rfl, hb3⟩
         have hb6 : w3.heap[M + 1]? = some (.cells #[.int .i64 T.k, .string (strB T.s), .int .i64 T.n, .int .i64 T.line, .int .i64 T.at0] 72 (0, 0)) := (hb3.block _ (by omega)).trans hb5
         have q2 : w3.setCell ⟨M + 1, 1, none⟩ (.string (strB T.s)) = w3 := setCell_same hb6 rfl
         have q3 := row_frozen (i := 1) hb6
         have c0 : w3.cell? ⟨M + 1, 0, none⟩ = some (.int .i64 T.k) := by rw [cell_of_row _ _ _ _ _ _ hb6]; rfl
         have c1 : w3.cell? ⟨M + 1, 1, none⟩ = some (.string (strB T.s)) := by rw [cell_of_row _ _ _ _ _ _ hb6]; rfl
         have c2 : w3.cell? ⟨M + 1, 2, none⟩ = some (.int .i64 T.n) := by rw [cell_of_row _ _ _ _ _ _ hb6]; rfl
         have c3 : w3.cell? ⟨M + 1, 3, none⟩ = some (.int .i64 T.line) := by rw [cell_of_row _ _ _ _ _ _ hb6]; rfl
         have c4 : w3.cell? ⟨M + 1, 4, none⟩ = some (.int .i64 T.at0) := by rw [cell_of_row _ _ _ _ _ _ hb6]; rfl
         have HJ3 : Hid (ScanJ N w l (.loop { r0 with state := .busy }) pre line a w3) := HJB.out.grow hb3
         obtain ⟨r, hr1, hr2⟩ := HJ3.out.all
         have hc0 := hr1.cell
         have hs3 : M + 2 ≤ w3.heap.size := by rw [← hsb]; exact hb3.size
         have ho3 : w3.heap[M]? = some o := (hb3.block _ (by omega)).trans ho)
      | (gi_at_builtin; refine wpListIn_append_own _ rfl _ _ 64 rfl (N + 7) 72 i0 _ 5 48 Tryz.underlying64 hi hz0 hz1 hz2 rfl (by decide) _ _ _ rfl (hr2.alloc _) ⟨w3.heap.size, 0, none⟩ 1 1 [.int .i64 T.k, .string (strB T.s), .int .i64 T.n, .int .i64 T.line, .int .i64 T.at0] rfl rfl (cells_new _ _ _) (by simp [Value.oneCell']) (by unfold maxLen; omega) (by omega) (by simp; omega) ?_; intro v' w4 hown' hgrow _; obtain ⟨g', cap', rfl⟩ := ownsRow_succ hown'; have hr5 := (hr1.alloc (.cells #[.int .i64 T.k, .string (strB T.s), .int .i64 T.n, .int .i64 T.line, .int .i64 T.at0] 72)).kept hgrow (hr1.not_row (by decide) hr2); have hc5 := hr5.cell; have hf5 := hr5.frozen))
    have hgr : (w3.alloc (.cells #[.int .i64 T.k, .string (strB T.s), .int .i64 T.n, .int .i64 T.line, .int .i64 T.at0] 72)).grownBy w4 r.ownBlock := hgrow
    have hrr : r = ra := by
      have h1 : Boxed w3 (N + 3) 64 ra := (hb3.block _ (by omega)).trans HRA.out
      have h2 := hr1.cell.symm.trans h1.cell
      exact Option.some.inj h2
    have key : ∀ k, k < w3.heap.size → some k ≠ r.ownBlock → w4.heap[k]? = w3.heap[k]? := fun k hk hn => (hgr.block k (by simp; omega) hn).trans (Below.heap_alloc _ _ _ hk)
    have key5 : ∀ {k : Nat} {ob : Obj}, k < N + 7 → k ≠ N + 3 → w3.heap[k]? = some ob → (w4.setCell ⟨N + 3, 0, none⟩ (.slice (some ⟨g', 0, none⟩) (pre.length + 1) cap')).heap[k]? = some ob := fun {k ob} h1 h2 h3 => by
      rw [Below.heap_setCell _ _ _ _ (by simpa using h2), key k (Array.getElem?_eq_some_iff.1 h3).1 (fun e => by have := (hr2.lt _ e.symm).1; omega), h3]
    have hJ5 : ScanJ N w l (.loop { r0 with state := .busy }) (pre ++ [T]) (lineT l line a) (placeT l a + (nextT l a).sz) (w4.setCell ⟨N + 3, 0, none⟩ (.slice (some ⟨g', 0, none⟩) (pre.length + 1) cap')) := by
      have J := HJ3.out
      refine ⟨⟨_, hr5.set _, ?_⟩, key5 (by omega) (by omega) J.r0, key5 (by omega) (by omega) J.r1, key5 (by omega) (by omega) J.r2, key5 (by omega) (by omega) J.sb, ?_, key5 (by omega) (by omega) J.defd, key5 (by omega) (by omega) J.loop, ?_⟩
      · rw [List.length_append, tkCells_append]
        exact hown'.kept (grownBy_setCell' w4 (N + 3) _) (.inr (hr5.not_row (by decide) hown').symm)
      · exact J.bel.trans ((((Below.refl N w3).alloc (by omega) _).grown hgr (by simp; omega) (fun j ej => by have := (hr2.lt j ej).1; omega)).setCell (p := ⟨N + 3, 0, none⟩) (by simp) _)
      · rw [HTT.out]; exact scanTo_snoc he J.unto
    have hl8 := hJ5.loop
    have ho5 : (w4.setCell ⟨N + 3, 0, none⟩ (.slice (some ⟨g', 0, none⟩) (pre.length + 1) cap')).heap[M]? = some o := by
      rw [Below.heap_setCell _ _ _ _ (by simp; omega), key M (by omega) (fun e => by rw [hrr] at e; have := HRL.out _ e; omega), ho3]
    refine ⟨_, _, run_endRound none hl8, rfl, ?_⟩
    have er0 : ({ { r0 with state := .busy } with state := if (none : Option Code).isNone then .ready else .done, pending := none } : Loop) = r0 := by
      cases r0; simp_all
    rw [er0]
    refine ⟨hJ5.put rfl, ?_⟩
    rw [World.putObj_heap_other (by omega)]
    exact ho5
  rintro e W2 ⟨⟨u, rfl⟩, hfin⟩
  rcases hfin with ⟨pre, line, a, hpk, he, hE⟩ | ⟨pre, line, a, hpk, he, hk, hJ⟩
  · have hl2 := hE.loop
    have hes : rE.state ≠ .busy := by rw [HRE.out]; simp
    have hep : rE.pending = some .ret := by rw [HRE.out]
    refine ⟨rE.pending, _, run_endLoop (P := Tryz.prog) hl2 hes, ?_⟩
    rw [hep]
    have hX := (Array.getElem?_eq_some_iff.1 hl2).1
    have hE4 : ScanE N w l (.loop { rE with state := .exhausted }) pre line a (W2.putObj (N + 6) (.loop { rE with state := .exhausted })) := by
      have put : ∀ {k : Nat} {ob : Obj}, k ≠ N + 6 → W2.heap[k]? = some ob → (W2.putObj (N + 6) (.loop { rE with state := .exhausted })).heap[k]? = some ob := fun {k ob} h1 h2 => (World.putObj_heap_other h1).trans h2
      exact ⟨put (by omega) hE.r0, put (by omega) hE.r1, put (by omega) hE.r2, hE.bel.trans ((Below.refl N W2).grown (grownBy_putObj' W2 _ _) (by omega) (fun k e => by cases e; omega)), put (by omega) hE.defd, World.putObj_heap_same hX, hE.unto⟩
    rw [hep] at hE4
    dsimp only
    generalize W2.putObj (N + 6) (.loop { rE with state := .exhausted, pending := some .ret }) = W4 at hE4 ⊢
    have HE4 : Hid (ScanE N w l (.loop { rE with state := .exhausted, pending := some .ret }) pre line a W4) := hE4
    have kc0 := hE4.r0.cell
    have kc1 := hE4.r1.cell
    have kc2 := hE4.r2.cell
    clear hE4 hE hl2 hJ0 hl1 hd1
    gi_wp2
    have hK := HE4.out.defd
    have hKs := (Array.getElem?_eq_some_iff.1 hK).1
    refine ⟨by simp, .inl ⟨_, _, rfl, run_takeDeferred hK, ?_⟩⟩
    have put : ∀ {k : Nat} {ob : Obj} (ob' : Obj), k ≠ N + 5 → W4.heap[k]? = some ob → (W4.putObj (N + 5) ob').heap[k]? = some ob := fun {k ob} ob' h1 h2 => (World.putObj_heap_other h1).trans h2
    have m0 : Boxed (W4.putObj (N + 5) (.deferred none)) N 64 (.slice none 0 0) := put _ (by omega) HE4.out.r0
    have m1 : Boxed (W4.putObj (N + 5) (.deferred none)) (N + 1) 3 (.int .i64 (placeT l a)) := put _ (by omega) HE4.out.r1
    have m2 : Boxed (W4.putObj (N + 5) (.deferred none)) (N + 2) 26 (.int .i64 (nextT l a).e) := put _ (by omega) HE4.out.r2
    have c0 := m0.cell
    have c1 := m1.cell
    have c2 := m2.cell
    refine ⟨_, results_cell3 rfl _ _ _ rfl rfl rfl (by simp [go_sem, c0]; rfl) (by simp [go_sem, c1]; rfl) (by simp [go_sem, c2]; rfl), .slice none 0 0, ?_⟩
    rw [scanS_err he pre 1 0 (l.length + 1) HE4.out.unto hpk (Nat.zero_le _) (by omega), ← HN.out]
    exact ⟨rfl, World.ownsRow_nil _ _ _ _, HE4.out.bel.trans ((Below.refl N W4).grown (grownBy_putObj' W4 _ _) (by omega) (fun k e => by cases e; omega))⟩
  · have hl2 := hJ.loop
    refine ⟨r0.pending, _, run_endLoop (P := Tryz.prog) hl2 (by rw [hst]; simp), ?_⟩
    have hJ4 := hJ.put (ob' := .loop { r0 with state := .exhausted }) rfl
    generalize W2.putObj (N + 6) (.loop { r0 with state := .exhausted }) = W4 at hJ4 ⊢
    rw [hpe]
    show Exit.inBlock 0 _ Exit.normal _ W4
    have HJ4 : Hid (ScanJ N w l (Obj.loop { r0 with state := .exhausted }) (pre ++ [tkT l line a]) (lineT l line a) (placeT l a + (nextT l a).sz) W4) := hJ4
    obtain ⟨r, hr1, hr2⟩ := hJ4.all
    have hr3 := hr2
    rw [List.length_append] at hr3
    obtain ⟨g', cap', rfl⟩ := ownsRow_succ hr3
    clear hr3
    have k0 := hJ4.r0
    have k1 := hJ4.r1
    have k2 := hJ4.r2
    have kc0 := k0.cell
    have kf0 := k0.frozen
    have kc1 := k1.cell
    have kf1 := k1.frozen
    have kc2 := k2.cell
    have kf2 := k2.frozen
    have kc3 := hr1.cell
    have j1 := k1.kept (grownBy_setCell' W4 N (.slice (some ⟨g', 0, none⟩) (pre.length + 1) cap')) (by simp)
    have j2 := k2.kept (grownBy_setCell' W4 N (.slice (some ⟨g', 0, none⟩) (pre.length + 1) cap')) (by simp)
    have jc1 := j1.cell
    have jf1 := j1.frozen
    have jc2 := j2.cell
    have jf2 := j2.frozen
    have js1 : (W4.setCell ⟨N, 0, none⟩ (.slice (some ⟨g', 0, none⟩) (pre.length + 1) cap')).setCell ⟨N + 1, 0, none⟩ (.int .i64 0) = W4.setCell ⟨N, 0, none⟩ (.slice (some ⟨g', 0, none⟩) (pre.length + 1) cap') := setCell_same j1 rfl
    have js2 : (W4.setCell ⟨N, 0, none⟩ (.slice (some ⟨g', 0, none⟩) (pre.length + 1) cap')).setCell ⟨N + 2, 0, none⟩ (.int .i64 0) = W4.setCell ⟨N, 0, none⟩ (.slice (some ⟨g', 0, none⟩) (pre.length + 1) cap') := setCell_same j2 rfl
    have jc0 := (k0.set (.slice (some ⟨g', 0, none⟩) (pre.length + 1) cap')).cell
    clear hJ4 hJ hl2 hJ0 hl1 hd1
    gi_wp2
    have hto := HJ4.out.unto
    have hK : (W4.setCell ⟨N, 0, none⟩ (.slice (some ⟨g', 0, none⟩) (pre.length + 1) cap')).heap[N + 5]? = some (.deferred (some [])) := by
      rw [Below.heap_setCell _ _ _ _ (by simp)]; exact HJ4.out.defd
    have hKs := (Array.getElem?_eq_some_iff.1 hK).1
    have m0' := k0.set (.slice (some ⟨g', 0, none⟩) (pre.length + 1) cap')
    have hr5 := hr2.kept (grownBy_setCell' W4 N (.slice (some ⟨g', 0, none⟩) (pre.length + 1) cap')) (.inr (k0.not_row (by decide) hr2).symm)
    have hB5 : Below N w (W4.setCell ⟨N, 0, none⟩ (.slice (some ⟨g', 0, none⟩) (pre.length + 1) cap')) := HJ4.out.bel.trans ((Below.refl N W4).setCell (p := ⟨N, 0, none⟩) (Nat.le_refl _) _)
    generalize W4.setCell ⟨N, 0, none⟩ (.slice (some ⟨g', 0, none⟩) (pre.length + 1) cap') = W5 at hK hKs m0' hr5 hB5 j1 j2 ⊢
    refine ⟨by simp, .inl ⟨_, _, rfl, run_takeDeferred hK, ?_⟩⟩
    have put : ∀ {k : Nat} {ob : Obj} (ob' : Obj), k ≠ N + 5 → W5.heap[k]? = some ob → (W5.putObj (N + 5) ob').heap[k]? = some ob := fun {k ob} ob' h1 h2 => (World.putObj_heap_other h1).trans h2
    have m0 : Boxed (W5.putObj (N + 5) (.deferred none)) N 64 (.slice (some ⟨g', 0, none⟩) (pre.length + 1) cap') := put _ (by omega) m0'
    have m1 : Boxed (W5.putObj (N + 5) (.deferred none)) (N + 1) 3 (.int .i64 0) := put _ (by omega) j1
    have m2 : Boxed (W5.putObj (N + 5) (.deferred none)) (N + 2) 26 (.int .i64 0) := put _ (by omega) j2
    have c0 := m0.cell
    have c1 := m1.cell
    have c2 := m2.cell
    refine ⟨_, results_cell3 rfl _ _ _ rfl rfl rfl (by simp [go_sem, c0]; rfl) (by simp [go_sem, c1]; rfl) (by simp [go_sem, c2]; rfl), .slice (some ⟨g', 0, none⟩) (pre.length + 1) cap', ?_⟩
    obtain ⟨line', a', h1, h2, h3⟩ := scanTo_last hto
    have hk' : (nextT l a').k = 0 := by rw [← hk]; exact (congrArg Tk.k h3).symm
    rw [scanS_end h2 hk' pre 1 0 (l.length + 1) h1 hpk (Nat.zero_le _) (by omega), ← HN.out, ← h3, List.length_append]
    rw [List.length_append] at hr5
    exact ⟨rfl, ownsRow_putObj (own_baseX hr5 (show N ≤ N + 7 by omega)) _ hK rfl, hB5.trans ((Below.refl N W5).grown (grownBy_putObj' W5 _ _) (by omega) (fun k e => by cases e; omega))⟩
end Go.Proofs.YtghhamgealkodaaGreatDoor
