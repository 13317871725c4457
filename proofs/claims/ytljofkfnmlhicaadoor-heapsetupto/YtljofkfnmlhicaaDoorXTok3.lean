/- lex: signs, and a byte of a text. -/
import Derived.Test.YtljofkfnmlhicaaDoorXTok2
import Derived.Test.YtljofkfnmlhicaaDoorWAll
import Derived.Deep.MidRow
namespace Go.Proofs.YtljofkfnmlhicaaDoor
open Go.RowKit

/-- The longer one of two signs, if it stands here. -/
def longer (l best x : List UInt8) : List UInt8 := if best.length < x.length ∧ Lib.hasPrefix l x = true then x else best
def bestS (l : List UInt8) (n : Nat) : List UInt8 := (signsL.take n).foldl (longer l) []
def signT (l : List UInt8) : TR := if bestS l 25 = [] then ⟨0, [], 0, 0, 6⟩ else ⟨4, bestS l 25, 0, (bestS l 25).length, 0⟩

theorem bestS_succ (l : List UInt8) (n : Nat) (h : n < signsL.length) : bestS l (n + 1) = longer l (bestS l n) signsL[n] := by
  unfold bestS; rw [List.take_succ_eq_append_getElem h, List.foldl_append]; rfl

theorem bestS_len (l : List UInt8) (n : Nat) : (bestS l n).length ≤ 2 := by
  have key : ∀ (xs : List (List UInt8)) (b : List UInt8), (∀ x ∈ xs, x.length ≤ 2) → b.length ≤ 2 → (xs.foldl (longer l) b).length ≤ 2 := by
    intro xs
    induction xs with
    | nil => intro b _ hb; exact hb
    | cons x xs ih =>
      intro b hx hb
      refine ih _ (fun y hy => hx y (List.mem_cons_of_mem _ hy)) ?_
      unfold longer
      split
      · exact hx x (List.mem_cons_self ..)
      · exact hb
  exact key _ _ (fun x hx => by
    have : ∀ x ∈ signsL, x.length ≤ 2 := by decide
    exact this x (List.mem_of_mem_take hx)) (by simp)

def signsC : List Value := signsL.map fun x => .string (strB x)
def signsV : Value := .agg signsC.toArray

theorem signs_range {w : World} (ht : Tabs w) : w.rangeAt 0 0 signsC := fun j v hv => by
  unfold signsC at hv
  rw [List.getElem?_map] at hv
  rcases Nat.lt_or_ge j signsL.length with h | h
  · rw [List.getElem?_eq_getElem h] at hv
    simp only [Option.map_some, Option.some.injEq] at hv
    rw [Nat.zero_add, ht.signs j h, hv]
  · rw [List.getElem?_eq_none h] at hv; cases hv

set_option maxRecDepth 100000 in
theorem signs_size : (Tryd.prog.info? 111).map (·.size) = some signsC.length := by kernel_rfl

set_option maxHeartbeats 4000000 in
set_option maxRecDepth 100000 in
theorem signToken_any (l : List UInt8) (w : World) (ht : Tabs w) :
    Calls Tryd.prog 75 #[.string (strB l)] w fun e w' => e = .returned (resV (signT l)) ∧ Below w.heap.size w w' := by
  have HT : Hid (Tabs w) := ht
  clear ht
  go_enter Tryd.func75, Tryd.ntmps75
  go_wp2_with (refine wpList_load_mid rfl 111 _ rfl 0 0 rfl signsC _ (signs_range (HT.out.alloc _)) Tryd.underlying111 rfl signs_size ?_)
  have HI : Hid (∀ (wx : World) (i : Nat) (h : i < 25), (Instr.index 111 signsV (.int .i64 (i : Int))).run Tryd.prog wx = .ok (.string (strB (signsL[i]'h))) wx) := fun wx i h => idx_signs wx i h
  rw [show Value.agg signsC.toArray = signsV from rfl]
  generalize signsV = A at *
  go_loop [5, 9] (fun vb v => ∃ i : Nat, i ≤ 25 ∧ v = .int .i64 i ∧ vb = .string (strB (bestS l i))) (fun _ v => 25 - (intOf v).toNat)
  case atStart => exact ⟨0, Nat.zero_le _, rfl, rfl⟩
  case round =>
    obtain ⟨i, hi, rfl, rfl⟩ := hrel
    have hbl := bestS_len l i
    obtain ⟨b, hb⟩ : ∃ b, b = bestS l i := ⟨_, rfl⟩
    rw [← hb] at hbl ⊢
    have HB : Hid (b = bestS l i) := hb
    clear hb
    by_cases hlt : i < 25
    · have hidx := fun wx => HI.out wx i hlt
      obtain ⟨x, hx⟩ : ∃ x, x = signsL[i]'hlt := ⟨_, rfl⟩
      rw [← hx] at hidx
      have hx2 : x.length ≤ 2 := by
        have : ∀ x ∈ signsL, x.length ≤ 2 := by decide
        rw [hx]; exact this _ (List.getElem_mem _)
      have HN : Hid (bestS l (i + 1) = longer l b x) := show bestS l (i + 1) = longer l b x by rw [bestS_succ l i hlt, HB.out, hx]
      have hsx : (strB x).size = x.length := rfl
      have hsb : (strB b).size = b.length := rfl
      clear hx
      by_cases hlen : b.length < x.length
      · have cp := fun wx => Tryd.strings_HasPrefix (strB l) (strB x) wx
        cases hp : Lib.hasPrefix l x with
        | true =>
          have e1 : Lib.hasPrefix (strB l).data.toList (strB x).data.toList = true := hp
          rw [e1] at cp
          have HN2 : Hid (bestS l (i + 1) = x) := show bestS l (i + 1) = x by rw [HN.out]; unfold longer; rw [if_pos ⟨hlen, hp⟩]
          clear e1
          go_wp2_with (go_at_call 84; refine (cp _).mono ?_; rintro e w1 ⟨rfl, rfl⟩)
          refine ⟨⟨i + 1, by omega, by go_num, by rw [HN2.out]⟩, by simp [intOf]; omega⟩
        | false =>
          have e1 : Lib.hasPrefix (strB l).data.toList (strB x).data.toList = false := hp
          rw [e1] at cp
          have HN2 : Hid (bestS l (i + 1) = b) := show bestS l (i + 1) = b by rw [HN.out]; unfold longer; rw [if_neg (fun h => by rw [hp] at h; exact absurd h.2 (by decide))]
          clear e1
          go_wp2_with (go_at_call 84; refine (cp _).mono ?_; rintro e w1 ⟨rfl, rfl⟩)
          refine ⟨⟨i + 1, by omega, by go_num, by rw [HN2.out]⟩, by simp [intOf]; omega⟩
      · have HN2 : Hid (bestS l (i + 1) = b) := show bestS l (i + 1) = b by rw [HN.out]; unfold longer; rw [if_neg (fun h => hlen h.1)]
        go_wp2
        refine ⟨⟨i + 1, by omega, by go_num, by rw [HN2.out]⟩, by simp [intOf]; omega⟩
    · obtain rfl : i = 25 := by omega
      have hsb : (strB b).size = b.length := rfl
      cases b with
      | nil =>
        have HR : Hid (signT l = ⟨0, [], 0, 0, 6⟩) := by unfold signT; rw [← HB.out, if_pos rfl]; rfl
        go_wp2
        refine bodyPost_ret (v := resV ⟨0, [], 0, 0, 6⟩) (by simp [results, Tryd.results75, go_sem, resV]) rfl ⟨by rw [HR.out], ?_⟩
        exact (Below.refl w.heap.size w).alloc (Nat.le_refl _) _
      | cons y ys =>
        have HR : Hid (signT l = ⟨4, y :: ys, 0, (y :: ys).length, 0⟩) := by unfold signT; rw [← HB.out, if_neg (by simp)]; rfl
        go_wp2
        refine bodyPost_ret (v := resV ⟨4, y :: ys, 0, (y :: ys).length, 0⟩) (by simp [results, Tryd.results75, go_sem, resV]) rfl ⟨by rw [HR.out], ?_⟩
        exact (Below.refl w.heap.size w).alloc (Nat.le_refl _) _

/-- The byte that is meant, and how many bytes stand for it: none, if it may not stand there. -/
def tbR : List UInt8 → Nat × Nat
  | [] => (0, 0)
  | x :: r => if x.toNat < 32 ∨ 126 < x.toNat then (0, 0) else if x.toNat ≠ 92 then (x.toNat, 1) else
    match r with
    | [] => (0, 0)
    | y :: _ => if y.toNat = 92 then (92, 2) else if y.toNat = 34 then (34, 2) else if y.toNat = 110 then (10, 2) else (0, 0)
end Go.Proofs.YtljofkfnmlhicaaDoor
