import Derived.Test.YtghhamgealkodaaGreatDoorMQ3
import Derived.Lib.AppendIntMem
import Derived.Lib.Builder
import Derived.Lib.AppendStr
import Derived.Test.YtghhamgealkodaaGreatDoorProg
import Derived.WalkKit
import Derived.LaidEql
import Derived.Stop.Asserts
import Derived.RowKitTokens
import Derived.Below
/- lex.Scan, for any text. -/
namespace Go.Proofs.YtghhamgealkodaaGreatDoor
open Go.RowKit Go.Shelf

attribute [local go_sem] Oper.semAt_some

set_option maxRecDepth 100000 in
set_option maxHeartbeats 2000000 in
theorem scan_big (l : List UInt8) (w : World) (hl : 4096 < l.length) :
    Calls Tryz.prog 56 #[.string (strB l)] w fun e w' => e = .returned (.tuple #[.slice none 0 0, .int .i64 0, .int .i64 5]) ∧ Below w.heap.size w w' := by
  have hsz0 : (strB l).size = l.length := rfl
  have hl' : (4096 : Int) < l.length := by omega
  refine (callsIn_wide (n := 7)).1 ?_
  refine callsIn_of_wp_marks Tryz.func56 rfl trivial ?_ rfl
  simp only [Tryz.ntmps56, List.size_toArray, List.length_cons, List.length_nil, Nat.reduceAdd, Nat.reduceSub, Array.replicate_succ, Array.replicate_zero, List.push_toArray, List.append_toArray, List.nil_append, List.cons_append]
  gi_wp2
  have m0 : Boxed (((w.alloc (.cells #[.slice none 0 0] 64)).alloc (.cells #[.int .i64 0] 3)).alloc (.cells #[.int .i64 5] 26)) w.heap.size 64 (.slice none 0 0) := ((Boxed.new w _ _).alloc _).alloc _
  have m1 : Boxed (((w.alloc (.cells #[.slice none 0 0] 64)).alloc (.cells #[.int .i64 0] 3)).alloc (.cells #[.int .i64 5] 26)) (w.heap.size + 1) 3 (.int .i64 0) := by
    have h := (Boxed.new (w.alloc (.cells #[.slice none 0 0] 64)) 3 (.int .i64 0)).alloc (.cells #[.int .i64 5] 26)
    rw [World.size_alloc] at h; exact h
  have m2 : Boxed (((w.alloc (.cells #[.slice none 0 0] 64)).alloc (.cells #[.int .i64 0] 3)).alloc (.cells #[.int .i64 5] 26)) (w.heap.size + 1 + 1) 26 (.int .i64 5) := by
    have h := Boxed.new ((w.alloc (.cells #[.slice none 0 0] 64)).alloc (.cells #[.int .i64 0] 3)) 26 (.int .i64 5)
    rw [World.size_alloc, World.size_alloc] at h; exact h
  have hB : Below w.heap.size w (((w.alloc (.cells #[.slice none 0 0] 64)).alloc (.cells #[.int .i64 0] 3)).alloc (.cells #[.int .i64 5] 26)) := (((Below.refl _ w).alloc (Nat.le_refl _) _).alloc (by simp) _).alloc (by simp; omega) _
  have c0 := m0.cell
  have c1 := m1.cell
  have c2 := m2.cell
  generalize ((w.alloc (.cells #[.slice none 0 0] 64)).alloc (.cells #[.int .i64 0] 3)).alloc (.cells #[.int .i64 5] 26) = W at c0 c1 c2 hB ⊢
  exact ⟨_, results_cell3 rfl _ _ _ rfl rfl rfl (by simp [go_sem, c0]) (by simp [go_sem, c1]) (by simp [go_sem, c2]), rfl, hB⟩

/-- What Scan answers. -/
theorem scan_any (l : List UInt8) (w : World) (ht : Tabs w) :
    Calls Tryz.prog 56 #[.string (strB l)] w fun e w' => ∃ (r : Value), e = .returned (.tuple #[r, .int .i64 (scanB l).2.1, .int .i64 (scanB l).2.2]) ∧
      w'.ownsRow w.heap.size 72 5 r (scanB l).1.length (tkCells (scanB l).1) ∧ Below w.heap.size w w' := by
  by_cases h : 4096 < l.length
  · refine (scan_big l w h).mono ?_
    rintro e w' ⟨rfl, hB⟩
    unfold scanB
    rw [if_pos h]
    exact ⟨_, rfl, World.ownsRow_nil _ _ _ _, hB⟩
  · refine (scan_in l w (by omega) ht).mono ?_
    rintro e w' hx
    unfold scanB
    rw [if_neg h]
    exact hx
end Go.Proofs.YtghhamgealkodaaGreatDoor
/- lex: what Scan answers for the document's examples. -/
namespace Go.Proofs.YtghhamgealkodaaGreatDoor
open Go.RowKit

/-- gapN, by its length. -/
def gapF : Nat → List UInt8 → Nat
  | 0, _ => 0
  | f + 1, l => if remB (l.drop (rowN blankN l)) = true then
      rowN blankN l + (rowN noEndN (l.drop (rowN blankN l)) + gapF f ((l.drop (rowN blankN l)).drop (rowN noEndN (l.drop (rowN blankN l)))))
    else rowN blankN l

theorem gapF_eq : ∀ (f : Nat) (l : List UInt8), l.length < f → gapN l = gapF f l
  | 0, l, h => by omega
  | f + 1, l, h => by
    rw [gapN, gapF]
    by_cases hr : remB (l.drop (rowN blankN l)) = true
    · rw [dif_pos hr, if_pos hr, gapF_eq f _ (by
        have := remB_row hr
        have h3 := rowN_le noEndN (l.drop (rowN blankN l))
        simp only [List.length_drop] at *
        omega)]
    · rw [dif_neg hr, if_neg hr]

theorem gapN_fun : gapN = fun l => gapF (l.length + 1) l := funext fun l => gapF_eq _ l (Nat.lt_succ_self _)

def nextG (g : List UInt8 → Nat) (l : List UInt8) (a : Nat) : TR := tokT (l.drop (a + g (l.drop a)))
def lineG (g : List UInt8 → Nat) (l : List UInt8) (line a : Nat) : Nat := line + Lib.countByte ((l.drop a).take (g (l.drop a))) 10
def placeG (g : List UInt8 → Nat) (l : List UInt8) (a : Nat) : Nat := a + g (l.drop a)
def tkG (g : List UInt8 → Nat) (l : List UInt8) (line a : Nat) : Tk := ⟨(nextG g l a).k, (nextG g l a).s, (nextG g l a).n, lineG g l line a, placeG g l a⟩
def scanG (g : List UInt8 → Nat) (l : List UInt8) : Nat → Nat → Nat → List Tk × Nat × Nat
  | 0, _, _ => ([], 0, 0)
  | f + 1, line, a =>
    if (nextG g l a).e ≠ 0 then ([], placeG g l a, (nextG g l a).e) else if (nextG g l a).k = 0 then ([tkG g l line a], 0, 0)
    else if (scanG g l f (lineG g l line a) (placeG g l a + (nextG g l a).sz)).2.2 ≠ 0 then ([], (scanG g l f (lineG g l line a) (placeG g l a + (nextG g l a).sz)).2.1, (scanG g l f (lineG g l line a) (placeG g l a + (nextG g l a).sz)).2.2)
    else (tkG g l line a :: (scanG g l f (lineG g l line a) (placeG g l a + (nextG g l a).sz)).1, 0, 0)

theorem scanS_G (l : List UInt8) : ∀ (f line a : Nat), scanS l f line a = scanG gapN l f line a
  | 0, _, _ => rfl
  | f + 1, line, a => by
    unfold scanS scanG
    rw [scanS_G l f]
    rfl

def scanC (l : List UInt8) : List Tk × Nat × Nat := scanG (fun l => gapF (l.length + 1) l) l (l.length + 1) 1 0
theorem scanB_C {l : List UInt8} (h : l.length ≤ 4096) : scanB l = scanC l := by
  unfold scanB scanC
  rw [if_neg (by omega), scanS_G, gapN_fun]

end Go.Proofs.YtghhamgealkodaaGreatDoor
/- the laws' lives, layer 3. -/
namespace Go.Proofs.YtghhamgealkodaaGreatDoor
open Go.RowKit Go.Shelf

theorem row_cells {w : World} {B e sz n : Nat} {v : Value} {xs : List Value} (h : w.ownsRow B e sz v n xs) (hn : 1 ≤ n) : ∃ g cap, v = .slice (some ⟨g, 0, none⟩) n cap ∧ B ≤ g ∧ g < w.heap.size ∧ n ≤ cap ∧ ∀ j u, xs[j]? = some u → w.cell? ⟨g, j, none⟩ = some u := by
  obtain ⟨-, ⟨-, h0⟩ | ⟨g, cap, cur, rfl, hg, hh, hc, -, -, hx⟩⟩ := h
  · omega
  · refine ⟨g, cap, rfl, hg, (Array.getElem?_eq_some_iff.1 hh).1, hc, fun j u hj => ?_⟩
    rw [cell_of_row _ _ _ _ _ _ hh]
    rw [← hx, List.getElem?_take] at hj
    split at hj
    · rw [Array.getElem?_toList] at hj; exact hj
    · cases hj

end Go.Proofs.YtghhamgealkodaaGreatDoor
/- lex: how a byte, and a text, is written. -/
namespace Go.Proofs.YtghhamgealkodaaGreatDoor
open Go.RowKit Go.Shelf

/-- A byte as it is written in a text. -/
def escB (c : UInt8) : List UInt8 := if c.toNat = 92 then [92, 92] else if c.toNat = 34 then [92, 34] else if c.toNat = 10 then [92, 110] else [c]
/-- A text as it is written. -/
def quoteB (s : List UInt8) : List UInt8 := 34 :: (s.flatMap escB ++ [34])

theorem esc_in {c : UInt8} {i : Nat} (hi : i < 3) (he : (escM[i]'hi) = c.toNat) : escB c = [92, (escW[i]'hi).toUInt8] := by
  have hc : i = 0 ∨ i = 1 ∨ i = 2 := by omega
  unfold escB
  rcases hc with rfl | rfl | rfl
  · rw [← he]; rfl
  · rw [← he]; rfl
  · rw [← he]; rfl
theorem esc_out {c : UInt8} (h : ∀ j (hj : j < 3), (escM[j]'hj) ≠ c.toNat) : escB c = [c] := by
  have h0 : 92 ≠ c.toNat := h 0 (by decide)
  have h1 : 34 ≠ c.toNat := h 1 (by decide)
  have h2 : 10 ≠ c.toNat := h 2 (by decide)
  unfold escB
  rw [if_neg (by omega), if_neg (by omega), if_neg (by omega)]
theorem esc_len (c : UInt8) : (escB c).length ≤ 2 := by
  unfold escB
  split
  · simp
  · split
    · simp
    · split <;> simp

theorem bytesAt_two {w : World} {g r q : Nat} (hr : r < 256) (hq : q < 256) (hc : w.cell? ⟨g, 0, none⟩ = some (.int .u8 (r : Int))) (hd : w.cell? ⟨g, 1, none⟩ = some (.int .u8 (q : Int))) : bytesAt w (.slice (some ⟨g, 0, none⟩) 2 2) [r.toUInt8, q.toUInt8] :=
  bytesAt_lit rfl (by unfold maxLen; decide) (fun j u hj => by
    match j, hj with
    | 0, hj => simp [Lib.byteCells, Lib.toUInt8_toNat hr] at hj; subst hj; exact hc
    | 1, hj => simp [Lib.byteCells, Lib.toUInt8_toNat hq] at hj; subst hj; exact hd)

set_option maxHeartbeats 2000000 in
set_option maxRecDepth 100000 in
theorem appTB_any (B : Nat) (v : Value) (us : List UInt8) (c : UInt8) (w : World) (hown : w.ownsRow B 5 1 v us.length (Lib.byteCells us)) (hB : B ≤ w.heap.size) (hl : us.length ≤ 1000000000) (ht : Tabs w) :
    Calls Tryz.prog 200 #[v, .int .u8 (c.toNat : Int)] w fun e w' => ∃ v', e = .returned v' ∧ w'.ownsRow B 5 1 v' (us ++ escB c).length (Lib.byteCells (us ++ escB c)) ∧
      Below B w w' ∧ ∀ k, k < w.heap.size → some k ≠ v.ownBlock → w'.heap[k]? = w.heap[k]? := by
  have e0 := ht.escs 0 (by decide)
  have e1 := ht.escs 1 (by decide)
  have e2 := ht.escs 2 (by decide)
  have e3 := ht.escs 3 (by decide)
  have e4 := ht.escs 4 (by decide)
  have e5 := ht.escs 5 (by decide)
  simp only [List.getElem_cons_zero, List.getElem_cons_succ] at e0 e1 e2 e3 e4 e5
  clear ht
  have HO : Hid (w.ownsRow B 5 1 v us.length (Lib.byteCells us)) := hown
  obtain ⟨n, hn⟩ : ∃ n, n = c.toNat := ⟨_, rfl⟩
  have hn256 : n < 256 := by rw [hn]; exact UInt8.toNat_lt c
  rw [← hn]
  have HN : Hid (n = c.toNat) := hn
  clear hown hn
  go_enter Tryz.func200, Tryz.ntmps200
  go_wp2
  clear e0 e1 e2 e3 e4 e5
  go_loopw [8] (fun x wr => ∃ i : Nat, i ≤ 3 ∧ x = .int .i64 i ∧ (∀ j (hj : j < 3), j < i → (escM[j]'hj) ≠ n) ∧ Below w.heap.size w wr) (fun x _ => 3 - (intOf x).toNat)
  case atStart => exact ⟨0, Nat.zero_le _, rfl, fun j _ h => by omega, Below.refl _ _⟩
  case round =>
    obtain ⟨i, hi, rfl, hall, hbw⟩ := hrel
    have HA : Hid (∀ j (hj : j < 3), j < i → (escM[j]'hj) ≠ n) := hall
    have HB : Hid (Below w.heap.size w wr) := hbw
    have hszw := hbw.size
    have HOW : Hid (wr.ownsRow B 5 1 v us.length (Lib.byteCells us)) := own_keptX HO.out hbw (Nat.le_refl _)
    clear hall hbw
    by_cases hlt : i < 3
    · have hidx := fun wx => idx_escs wx i hlt
      obtain ⟨a, ha⟩ : ∃ a, a = escM[i]'hlt := ⟨_, rfl⟩
      obtain ⟨b, hb⟩ : ∃ b, b = escW[i]'hlt := ⟨_, rfl⟩
      have hb256 : b < 256 := by
        have : ∀ j (hj : j < 3), (escW[j]'hj) < 256 := by decide
        rw [hb]; exact this i hlt
      rw [← ha, ← hb] at hidx
      by_cases he : a = n
      · have HE : Hid (escB c = [(92 : Nat).toUInt8, b.toUInt8]) := show _ = _ by rw [hb]; exact esc_in hlt (by rw [← ha, he, HN.out])
        subst he
        clear ha hb
        go_wp2_with (at_builtin; refine append_bytes rfl _ _ rfl B _ us rfl ((HOW.out.alloc _).alloc _) _ [(92 : Nat).toUInt8, b.toUInt8] rfl (bytesAt_two (by decide) hb256 (by simp) (by simp)) (by simp; omega) (by simp; omega) ?_; intro v3 w3 hown3 hgrow)
        have hbl : ∀ k, k < w.heap.size → some k ≠ v.ownBlock → w3.heap[k]? = w.heap[k]? := fun k hk hne => by
          rw [hgrow.block k (by simp; omega) hne, Below.heap_alloc _ _ _ (by simp; omega), Below.heap_alloc _ _ _ (by omega), HB.out.block k hk]
        have hB3 : Below B w w3 := (((HB.out.mono hB).alloc (by omega) _).alloc (by simp; omega) _).grown hgrow (by simp; omega) (fun q hq => (HO.out.lt q hq).1)
        go_ret
        refine ⟨v3, rfl, ?_, hB3, hbl⟩
        rw [HE.out]
        exact hown3
      · have hbe : ((a : Int) == (n : Int)) = false := by rw [beq_eq_false_iff_ne]; omega
        have HE : Hid ((escM[i]'hlt) ≠ n) := show (escM[i]'hlt) ≠ n by rw [← ha]; exact he
        clear ha hb he
        go_wp2
        refine ⟨⟨i + 1, by omega, by go_num, fun j hj hji => ?_, HB.out.alloc hszw _⟩, by simp [intOf]; omega⟩
        by_cases h : j < i
        · exact HA.out j hj h
        · obtain rfl : j = i := by omega
          exact HE.out
    · obtain rfl : i = 3 := by omega
      have HE : Hid (escB c = [n.toUInt8]) := show _ = _ by
        rw [esc_out (fun j hj => by rw [← HN.out]; exact HA.out j hj hj), HN.out]
        congr 1
        exact (UInt8.toNat_inj.1 (Lib.toUInt8_toNat (by rw [← HN.out]; exact hn256))).symm
      go_wp2_with (at_builtin; refine append_bytes rfl _ _ rfl B _ us rfl (HOW.out.alloc _) _ [n.toUInt8] rfl (bytesAt_one hn256 (by simp)) (by simp; omega) (by simp; omega) ?_; intro v3 w3 hown3 hgrow)
      have hbl : ∀ k, k < w.heap.size → some k ≠ v.ownBlock → w3.heap[k]? = w.heap[k]? := fun k hk hne => by
        rw [hgrow.block k (by simp; omega) hne, Below.heap_alloc _ _ _ (by omega), HB.out.block k hk]
      have hB3 : Below B w w3 := ((HB.out.mono hB).alloc (by omega) _).grown hgrow (by simp; omega) (fun q hq => (HO.out.lt q hq).1)
      go_ret
      refine ⟨v3, rfl, ?_, hB3, hbl⟩
      rw [HE.out]
      exact hown3

theorem own_fresh1 (w : World) (c : Nat) (hc : c < 256) : (w.alloc (.cells #[.int .u8 (c : Int)] 5)).ownsRow w.heap.size 5 1 (.slice (some ⟨w.heap.size, 0, none⟩) 1 1) [c.toUInt8].length (Lib.byteCells [c.toUInt8]) := by
  refine ⟨by simp [Lib.byteCells], .inr ⟨w.heap.size, 1, #[.int .u8 (c : Int)], rfl, Nat.le_refl _, World.alloc_heap_new w _, Nat.le_refl _, by unfold maxLen; decide, by simp, ?_⟩⟩
  simp [Lib.byteCells, Lib.toUInt8_toNat hc]

theorem flat_take (s : List UInt8) (i : Nat) (h : i < s.length) : (s.take (i + 1)).flatMap escB = (s.take i).flatMap escB ++ escB s[i] := by
  rw [List.take_succ_eq_append_getElem h, List.flatMap_append]
  simp

theorem flat_len (s : List UInt8) : (s.flatMap escB).length ≤ 2 * s.length := by
  induction s with
  | nil => simp
  | cons x s ih =>
    have := esc_len x
    rw [List.flatMap_cons, List.length_append, List.length_cons]
    omega

set_option maxHeartbeats 4000000 in
set_option maxRecDepth 100000 in
theorem quoted_any (s : List UInt8) (w : World) (hl : s.length ≤ 100000000) (ht : Tabs w) :
    Calls Tryz.prog 184 #[.string (strB s)] w fun e w' => e = .returned (.string (strB (quoteB s))) ∧ Below w.heap.size w w' := by
  have HT : Hid (Tabs w) := ht
  have hsz : (strB s).size = s.length := rfl
  obtain ⟨w1, hw1⟩ : ∃ w1, w1 = w.alloc (.cells #[.int .u8 ((34 : Nat) : Int)] 5) := ⟨_, rfl⟩
  have hz1 : w1.heap.size = w.heap.size + 1 := by rw [hw1]; simp
  have hb1 : Below w.heap.size w w1 := by rw [hw1]; exact (Below.refl _ w).alloc (Nat.le_refl _) _
  have ho1 : w1.ownsRow w.heap.size 5 1 (.slice (some ⟨w.heap.size, 0, none⟩) 1 1) [(34 : Nat).toUInt8].length (Lib.byteCells [(34 : Nat).toUInt8]) := by rw [hw1]; exact own_fresh1 w 34 (by decide)
  have hconv := fun (wx : World) => Lib.run_convert_string_bytes (P := Tryz.prog) wx 9 129 5 (strB s) Tryz.underlying9 Tryz.underlying129 Tryz.underlying5
  have hz2 : (Lib.bytesWorld w1 5 (strB s)).heap.size = w1.heap.size + 1 := Lib.bytesWorld_size w1 5 _
  have hb2 : Below w1.heap.size w1 (Lib.bytesWorld w1 5 (strB s)) := bytesWorld_below w1 5 _
  have hcl : ∀ j (h : j < s.length), (Lib.bytesWorld w1 5 (strB s)).cell? ⟨w1.heap.size, j, none⟩ = some (.int .u8 ((s[j]).toNat : Int)) := fun j h => by
    have h9 := Lib.bytesWorld_cell w1 5 (strB s) j h
    rw [h9]
    simp [List.getD_eq_getElem?_getD, List.getElem?_eq_getElem h]
  have hnw := Lib.bytesWorld_at_new w1 5 (strB s)
  have hfz : ∀ cur, (Lib.bytesWorld w1 5 (strB s)).heap[w1.heap.size]? ≠ some (.cells cur 5 (0, 0)) := fun cur h => by
    rw [hnw] at h
    simp at h
  have hgc := grownCap_ge w1 (strB s).size 0 5
  have hgm := grownCap_le_maxLen w1 (strB s).size 0 5 (by rw [strB_size]; unfold maxLen; omega)
  rw [strB_size] at hgc hgm
  unfold maxLen at hgm
  rw [hz1] at hz2 hcl hfz
  clear hnw ht
  go_enter Tryz.func184, Tryz.ntmps184
  go_wp2_with fail
  rw [show w.alloc (Obj.cells #[Value.int IntKind.u8 34] 5) = w1 from hw1.symm]
  generalize grownCap w1 s.length 0 5 = cp at *
  have HCL : Hid (∀ j (h : j < s.length), (Lib.bytesWorld w1 5 (strB s)).cell? ⟨w.heap.size + 1, j, none⟩ = some (.int .u8 ((s[j]).toNat : Int))) := hcl
  have HFZ : Hid (∀ cur, (Lib.bytesWorld w1 5 (strB s)).heap[w.heap.size + 1]? ≠ some (.cells cur 5 (0, 0))) := hfz
  have HB2 : Hid (Below w.heap.size w (Lib.bytesWorld w1 5 (strB s))) := hb1.trans (hb2.mono (by omega))
  have HO2 : Hid ((Lib.bytesWorld w1 5 (strB s)).ownsRow w.heap.size 5 1 (.slice (some ⟨w.heap.size, 0, none⟩) 1 1) [(34 : Nat).toUInt8].length (Lib.byteCells [(34 : Nat).toUInt8])) := own_keptX ho1 hb2 (Nat.le_refl _)
  have HZ2 : Hid ((Lib.bytesWorld w1 5 (strB s)).heap.size = w.heap.size + 2) := hz2
  clear hcl hfz hb1 hb2 ho1 hz2 hconv hw1 hz1
  generalize Lib.bytesWorld w1 5 (strB s) = w2 at *
  go_loopw [3, 10] (fun vb vi wr => ∃ i : Nat, i ≤ s.length ∧ vi = .int .i64 i ∧ wr.ownsRow w.heap.size 5 1 vb (34 :: (s.take i).flatMap escB).length (Lib.byteCells (34 :: (s.take i).flatMap escB)) ∧ Below w.heap.size w wr ∧ wr.heap[w.heap.size + 1]? = w2.heap[w.heap.size + 1]?) (fun _ vi _ => s.length - (intOf vi).toNat)
  case atStart => exact ⟨0, Nat.zero_le _, rfl, HO2.out, HB2.out, rfl⟩
  case round =>
    obtain ⟨i, hi, rfl, hown, hbw, hkp⟩ := hrel
    have hszw := hbw.size
    have HB : Hid (Below w.heap.size w wr) := hbw
    have HO : Hid (wr.ownsRow w.heap.size 5 1 u3 (34 :: (s.take i).flatMap escB).length (Lib.byteCells (34 :: (s.take i).flatMap escB))) := hown
    have HKP : Hid (wr.heap[w.heap.size + 1]? = w2.heap[w.heap.size + 1]?) := hkp
    have hfl : (34 :: (s.take i).flatMap escB).length ≤ 2 * s.length + 1 := by
      have h9 := flat_len (s.take i)
      rw [List.length_take] at h9
      rw [List.length_cons]
      omega
    clear hown hbw hkp
    by_cases hlt : i < s.length
    · have hc : wr.cell? ⟨w.heap.size + 1, i, none⟩ = some (.int .u8 ((s[i]).toNat : Int)) := by
        rw [World.cell?_of_block HKP.out]; exact HCL.out i hlt
      have hi2 : (i : Int) < s.length := by omega
      have ca := appTB_any w.heap.size u3 (34 :: (s.take i).flatMap escB) s[i] wr HO.out hszw (by omega) (HT.out.below HB.out (Nat.le_refl _))
      have HNX : Hid ((34 :: (s.take i).flatMap escB) ++ escB s[i] = 34 :: (s.take (i + 1)).flatMap escB) := by
        show _ = _
        rw [flat_take s i hlt]; rfl
      rw [HNX.out] at ca
      have HNB : Hid (some (w.heap.size + 1) ≠ u3.ownBlock) := fun e => by
        obtain ⟨-, ⟨hv, -⟩ | ⟨g, cap, cur, hv, -, hh, -⟩⟩ := HO.out
        · rw [hv] at e; simp [Value.ownBlock] at e
        · rw [hv] at e
          simp [Value.ownBlock] at e
          rw [← e, HKP.out] at hh
          exact HFZ.out _ hh
      have hz : w.heap.size + 1 < wr.heap.size := World.block_lt_of_cell? wr _ hc
      obtain ⟨n, hn⟩ : ∃ n, n = (s[i]).toNat := ⟨_, rfl⟩
      rw [← hn] at hc ca
      clear hn
      go_wp2_with fail
      refine ca.mono ?_
      clear ca
      rintro e w3 ⟨v3, rfl, ho3, hb3, hk3⟩
      have HO3 : Hid (w3.ownsRow w.heap.size 5 1 v3 (34 :: (s.take (i + 1)).flatMap escB).length (Lib.byteCells (34 :: (s.take (i + 1)).flatMap escB))) := ho3
      have HB3 : Hid (Below w.heap.size w w3) := HB.out.trans hb3
      have HK3 : Hid (w3.heap[w.heap.size + 1]? = w2.heap[w.heap.size + 1]?) := (hk3 _ hz HNB.out).trans HKP.out
      clear ho3 hb3 hk3
      go_wp2
      exact ⟨⟨i + 1, by omega, by go_num, HO3.out, HB3.out, HK3.out⟩, by simp [intOf]; omega⟩
    · obtain rfl : i = s.length := by omega
      have hi2 : ¬ (s.length : Int) < s.length := by omega
      have HQ : Hid (quoteB s = (34 :: (s.take s.length).flatMap escB) ++ [(34 : Nat).toUInt8]) := by
        show _ = _
        rw [List.take_length]; rfl
      obtain ⟨us, hus⟩ : ∃ us, us = 34 :: (s.take s.length).flatMap escB := ⟨_, rfl⟩
      rw [← hus] at HQ HO hfl
      clear hus
      go_wp2_with (at_builtin; refine append_bytes rfl _ _ rfl w.heap.size _ us rfl (HO.out.alloc _) _ [(34 : Nat).toUInt8] rfl (bytesAt_one (by decide) (by simp)) (by simp; omega) (by simp; omega) ?_; intro v3 w3 hown3 hgrow; obtain ⟨b3, cap3, rfl, hrow3, -, -, -⟩ := own_row hown3; have hcv := conv_row w3 b3 _ cap3 hrow3; rw [show (us ++ [(34 : Nat).toUInt8]).length = us.length + 1 by simp] at hcv ⊢)
      have HB3 : Hid (Below w.heap.size w w3) := (HB.out.alloc hszw _).grown hgrow (by simp; omega) (fun q hq => (HO.out.lt q hq).1)
      clear hrow3 hown3 hgrow
      go_ret
      rw [HQ.out]
      exact ⟨rfl, HB3.out⟩
end Go.Proofs.YtghhamgealkodaaGreatDoor
/- lex: how a token is written. -/
namespace Go.Proofs.YtghhamgealkodaaGreatDoor
open Go.RowKit Go.Shelf

/-- The tables, and that of Itoa. -/
def TabsP (w : World) : Prop := Tabs w ∧ Lib.TabIs Tryz.prog w "internal/strconv.uint64pow10" .u64 Lib.pow10Tab

theorem TabsP.below {w w' : World} {B : Nat} (h : TabsP w) (hb : Below B w w') (hB : w.heap.size ≤ B) : TabsP w' :=
  ⟨h.1.below hb hB, Lib.tabBelow_of_tabIs h.2 w' (hb.mono hB)⟩

/-- How a token is written, if it is one. -/
def wrB (k n : Int) (s : List UInt8) : List UInt8 := if k = 2 then Lib.itoa n else if k = 3 then quoteB s else s

set_option maxHeartbeats 4000000 in
set_option maxRecDepth 100000 in
theorem written_any (k n a b : Int) (s : List UInt8) (w : World) (hn0 : -9223372036854775808 ≤ n) (hn1 : n ≤ 9223372036854775807) (hl : s.length ≤ 100000000) (ht : TabsP w) :
    Calls Tryz.prog 153 #[.agg #[.int .i64 k, .string (strB s), .int .i64 n, .int .i64 a, .int .i64 b]] w fun e w' => e = .returned (.string (strB (wrB k n s))) ∧ Below w.heap.size w w' := by
  obtain ⟨w1, hw1⟩ : ∃ w1, w1 = w.alloc (.cells #[.int .i64 k, .string (strB s), .int .i64 n, .int .i64 a, .int .i64 b] 72) := ⟨_, rfl⟩
  have hb1 : Below w.heap.size w w1 := by rw [hw1]; exact (Below.refl _ w).alloc (Nat.le_refl _) _
  have HT : Hid (TabsP w1) := ht.below hb1 (Nat.le_refl _)
  have HB1 : Hid (Below w.heap.size w w1) := hb1
  have hz1 := hb1.size
  clear ht hb1
  by_cases h2 : k = 2
  · have HR : Hid (wrB k n s = Lib.itoa n) := if_pos h2
    have c1 := Tryz.strconv_Itoa n hn0 hn1 w1 HT.out.2
    rw [hw1] at c1
    subst h2
    go_enter Tryz.func153, Tryz.ntmps153
    go_wp2_with fail
    refine c1.mono ?_
    clear c1
    rintro e w2 ⟨rfl, q, os, hw2⟩
    have HB2 : Hid (Below w.heap.size w w2) := by
      show Below w.heap.size w w2
      rw [← hw1] at hw2
      rw [hw2]
      exact HB1.out.trans (Lib.below_grow w.heap.size w1 hz1 q os)
    clear hw2 hw1
    go_wp2
    go_ret
    rw [HR.out]
    exact ⟨rfl, HB2.out⟩
  · have h2b : (k == 2) = false := by rw [beq_eq_false_iff_ne]; exact h2
    by_cases h3 : k = 3
    · have HR : Hid (wrB k n s = quoteB s) := show _ = _ by unfold wrB; rw [if_neg h2, if_pos h3]
      have c1 := quoted_any s w1 hl HT.out.1
      rw [hw1] at c1
      subst h3
      go_enter Tryz.func153, Tryz.ntmps153
      go_wp2_with fail
      refine c1.mono ?_
      clear c1
      rintro e w2 ⟨rfl, hb2⟩
      have HB2 : Hid (Below w.heap.size w w2) := by
        show Below w.heap.size w w2
        rw [← hw1] at hb2
        exact HB1.out.trans (hb2.mono hz1)
      clear hb2 hw1
      go_wp2
      go_ret
      rw [HR.out]
      exact ⟨rfl, HB2.out⟩
    · have h3b : (k == 3) = false := by rw [beq_eq_false_iff_ne]; exact h3
      have HR : Hid (wrB k n s = s) := show _ = _ by unfold wrB; rw [if_neg h2, if_neg h3]
      have HB2 : Hid (Below w.heap.size w (w.alloc (.cells #[.int .i64 k, .string (strB s), .int .i64 n, .int .i64 a, .int .i64 b] 72))) := by rw [← hw1]; exact HB1.out
      clear hw1
      go_enter Tryz.func153, Tryz.ntmps153
      go_wp2
      go_ret
      rw [HR.out]
      exact ⟨rfl, HB2.out⟩

/-- Is a token read from what is written of it? -/
def backB (k n : Int) (s : List UInt8) : Prop := (tokT (wrB k n s)).e = 0 ∧ ((tokT (wrB k n s)).k : Int) = k ∧ (tokT (wrB k n s)).s = s ∧ ((tokT (wrB k n s)).n : Int) = n
instance (k n : Int) (s : List UInt8) : Decidable (backB k n s) := by unfold backB; infer_instance
/-- A token's text, or ErrArg. -/
def tkB (k n : Int) (s : List UInt8) : List UInt8 × Nat := if backB k n s then (wrB k n s, 0) else ([], 2)

theorem wrB_len (k n : Int) (s : List UInt8) (hn0 : -9223372036854775808 ≤ n) (hn1 : n ≤ 9223372036854775807) : (wrB k n s).length ≤ 2 * s.length + 30 := by
  have key : ∀ u : Nat, u ≤ 9223372036854775808 → (Lib.decDigits u).length ≤ 20 := fun u hu => by
    rw [Lib.decDigits_length]
    rcases Nat.lt_or_ge (Lib.nDigits u) 21 with h | h
    · omega
    · exfalso
      have h1 := Lib.nDigits_pos u
      have : ∀ (j u : Nat), j + 1 ≤ Lib.nDigits u → 10 ^ j ≤ u ∨ j = 0 := by
        intro j
        induction j with
        | zero => intro u _; exact .inr rfl
        | succ j ih =>
          intro u hj
          by_cases hu : u < 10
          · rw [Lib.nDigits_small hu] at hj; omega
          · rw [Lib.nDigits_big hu] at hj
            left
            rcases ih (u / 10) (by omega) with h9 | h9
            · rw [Nat.pow_succ]; omega
            · subst h9; omega
      rcases this 19 u (by omega) with h9 | h9
      · have : (10 : Nat) ^ 19 = 10000000000000000000 := by decide
        omega
      · omega
  unfold wrB
  split
  · unfold Lib.itoa
    split
    · have := key n.natAbs (by omega)
      rw [List.length_cons]
      omega
    · have := key n.toNat (by omega)
      omega
  · split
    · unfold quoteB
      have := flat_len s
      rw [List.length_cons, List.length_append, List.length_singleton]
      omega
    · omega

set_option maxHeartbeats 4000000 in
set_option maxRecDepth 100000 in
theorem lexText_any (k n a b : Int) (s : List UInt8) (w : World) (hn0 : -9223372036854775808 ≤ n) (hn1 : n ≤ 9223372036854775807) (hl : s.length ≤ 100000000) (ht : TabsP w) :
    Calls Tryz.prog 130 #[.agg #[.int .i64 k, .string (strB s), .int .i64 n, .int .i64 a, .int .i64 b]] w fun e w' => e = .returned (.tuple #[.string (strB (tkB k n s).1), .int .i64 (tkB k n s).2]) ∧ Below w.heap.size w w' := by
  obtain ⟨w1, hw1⟩ : ∃ w1, w1 = w.alloc (.cells #[.int .i64 k, .string (strB s), .int .i64 n, .int .i64 0, .int .i64 0] 72) := ⟨_, rfl⟩
  have hb1 : Below w.heap.size w w1 := by rw [hw1]; exact (Below.refl _ w).alloc (Nat.le_refl _) _
  have hz1 : w1.heap.size = w.heap.size + 1 := by rw [hw1]; simp
  have hblk : w1.heap[w.heap.size]? = some (.cells #[.int .i64 k, .string (strB s), .int .i64 n, .int .i64 0, .int .i64 0] 72 (0, 0)) := by rw [hw1]; exact World.alloc_heap_new w _
  have HT : Hid (TabsP w1) := ht.below hb1 (Nat.le_refl _)
  have HB1 : Hid (Below w.heap.size w w1) := hb1
  have c1 := written_any k n 0 0 s w1 hn0 hn1 hl HT.out
  have hwl := wrB_len k n s hn0 hn1
  have HTK : Hid (tkB k n s = if backB k n s then (wrB k n s, 0) else ([], 2)) := rfl
  have HBB : Hid (backB k n s ↔ (tokT (wrB k n s)).e = 0 ∧ ((tokT (wrB k n s)).k : Int) = k ∧ (tokT (wrB k n s)).s = s ∧ ((tokT (wrB k n s)).n : Int) = n) := Iff.rfl
  obtain ⟨x, hx⟩ : ∃ x, x = wrB k n s := ⟨_, rfl⟩
  rw [← hx] at c1 hwl HTK HBB
  obtain ⟨R, hR⟩ : ∃ R, R = tokT x := ⟨_, rfl⟩
  rw [← hR] at HBB
  have c2 := fun wx (h : Tabs wx) => token_any x wx (by omega) h
  rw [← hR] at c2
  unfold resV at c2
  have c3 := fun wx => clone_str x wx (by omega)
  clear ht hb1 hx hR
  rw [hw1] at c1
  go_enter Tryz.func130, Tryz.ntmps130
  go_wp2_with fail
  refine c1.mono ?_
  clear c1
  rw [← hw1]
  rintro e w2 ⟨rfl, hb2⟩
  have hT2 := HT.out.below hb2 (Nat.le_refl _)
  have hblk2 := (hb2.block w.heap.size (by omega)).trans hblk
  have HB2 : Hid (Below w.heap.size w w2) := HB1.out.trans (hb2.mono (by omega))
  have hz2 : w.heap.size + 1 ≤ w2.heap.size := by rw [← hz1]; exact hb2.size
  have c2' := c2 w2 hT2.1
  clear hb2 c2 hw1 hblk hT2
  go_wp2_with fail
  refine c2'.mono ?_
  clear c2'
  rintro e w3 ⟨rfl, hb3⟩
  have hblk3 := (hb3.block w.heap.size (by omega)).trans hblk2
  have HB3 : Hid (Below w.heap.size w w3) := HB2.out.trans (hb3.mono (by omega))
  have hz3 : w.heap.size + 1 ≤ w3.heap.size := Nat.le_trans hz2 hb3.size
  have q0 : ∀ o, (w3.alloc o).cell? ⟨w.heap.size, 0, none⟩ = some (.int .i64 k) := fun o => Lib.cell?_alloc_some o (by rw [cell_of_row _ _ _ _ _ _ hblk3]; rfl)
  have q1 : ∀ o, (w3.alloc o).cell? ⟨w.heap.size, 1, none⟩ = some (.string (strB s)) := fun o => Lib.cell?_alloc_some o (by rw [cell_of_row _ _ _ _ _ _ hblk3]; rfl)
  have q2 : ∀ o, (w3.alloc o).cell? ⟨w.heap.size, 2, none⟩ = some (.int .i64 n) := fun o => Lib.cell?_alloc_some o (by rw [cell_of_row _ _ _ _ _ _ hblk3]; rfl)
  have q3 : ∀ o, (w3.alloc o).cell? ⟨w.heap.size, 3, none⟩ = some (.int .i64 0) := fun o => Lib.cell?_alloc_some o (by rw [cell_of_row _ _ _ _ _ _ hblk3]; rfl)
  have q4 : ∀ o, (w3.alloc o).cell? ⟨w.heap.size, 4, none⟩ = some (.int .i64 0) := fun o => Lib.cell?_alloc_some o (by rw [cell_of_row _ _ _ _ _ _ hblk3]; rfl)
  clear hb3 hblk2 hblk3
  by_cases he : R.e = 0
  · rw [he]
    by_cases hk : (R.k : Int) = k
    · by_cases hs : R.s = s
      · by_cases hn : (R.n : Int) = n
        · have HTT : Hid (tkB k n s = (x, 0)) := HTK.out.trans (if_pos (HBB.out.2 ⟨he, hk, hs, hn⟩))
          rw [hk, hs, hn]
          have c3' := c3 (w3.alloc (.cells #[.int .i64 k, .string (strB s), .int .i64 n, .int .i64 0, .int .i64 0] 72))
          go_wp2_with fail
          refine c3'.mono ?_
          clear c3' c3
          rintro e w4 ⟨rfl, hb4⟩
          have HB4 : Hid (Below w.heap.size w w4) := (HB3.out.alloc (by omega) _).trans (hb4.mono (by simp; omega))
          clear hb4
          go_wp2
          go_ret2
          rw [HTT.out]
          exact ⟨rfl, HB4.out⟩
        · have HTT : Hid (tkB k n s = ([], 2)) := HTK.out.trans (if_neg (fun h => hn (HBB.out.1 h).2.2.2))
          have hnb : ((R.n : Int) == n) = false := by rw [beq_eq_false_iff_ne]; exact hn
          rw [hk, hs]
          clear c3
          go_wp2
          go_ret2
          rw [HTT.out]
          exact ⟨rfl, HB3.out.alloc (by omega) _⟩
      · have HTT : Hid (tkB k n s = ([], 2)) := HTK.out.trans (if_neg (fun h => hs (HBB.out.1 h).2.2.1))
        have hsb : (R.s == s) = false := by rw [beqL]; exact decide_eq_false hs
        rw [hk]
        clear c3
        go_wp2
        go_ret2
        rw [HTT.out]
        exact ⟨rfl, HB3.out.alloc (by omega) _⟩
    · have HTT : Hid (tkB k n s = ([], 2)) := HTK.out.trans (if_neg (fun h => hk (HBB.out.1 h).2.1))
      have hkb : ((R.k : Int) == k) = false := by rw [beq_eq_false_iff_ne]; exact hk
      clear c3
      go_wp2
      go_ret2
      rw [HTT.out]
      exact ⟨rfl, HB3.out.alloc (by omega) _⟩
  · have HTT : Hid (tkB k n s = ([], 2)) := HTK.out.trans (if_neg (fun h => he (HBB.out.1 h).1))
    have heb : ((R.e : Int) != 0) = true := by rw [bne_iff_ne]; omega
    clear c3
    go_wp2
    go_ret2
    rw [HTT.out]
    exact ⟨rfl, HB3.out.alloc (by omega) _⟩
end Go.Proofs.YtghhamgealkodaaGreatDoor
/- syntax: the writer's strings.Builder, which lies inside the writer. -/
namespace Go.Proofs.YtghhamgealkodaaGreatDoor
open Go.RowKit Go.Shelf

/-- append of a text onto bytes that are owned, and where the row then lies. -/
theorem run_append_strW (B : Nat) (ty : TypeId) (v : Value) (us bs : List UInt8) (w : World) (hown : w.ownsRow B 5 1 v us.length (Lib.byteCells us)) (hb : us.length + bs.length ≤ 140737488355328) (hB : B ≤ w.heap.size) :
    ∃ v' w', (Builtin.append_ #[129, 9] ty #[v, .string (strB bs)]).run Tryz.prog w = .ok v' w' ∧ w'.ownsRow B 5 1 v' (us ++ bs).length (Lib.byteCells (us ++ bs)) ∧ w.grownBy w' v.ownBlock ∧ (v'.ownBlock = v.ownBlock ∨ ∀ k, v'.ownBlock = some k → w.heap.size ≤ k) := by
  obtain ⟨i0, hi, hz0, hz1, hz2⟩ := info_parts info_u8
  have hsz : (strB bs).size = bs.length := strB_size bs
  obtain ⟨v', w', hr, ho, hg, -⟩ := Lib.run_append_own_string (P := Tryz.prog) w B 129 9 ty 5 i0 Tryz.underlying129 Tryz.underlying9 hi hz0 hz1 hz2 v us.length _ hown (strB bs) (by rw [hsz]; unfold maxLen; omega) (by omega) hB
  refine ⟨v', w', hr, ?_, hg, ?_⟩
  · rw [List.length_append, Lib.byteCells_append]
    rw [hsz] at ho
    exact ho
  · rcases hown.2 with ⟨rfl, hx⟩ | ⟨g, cap, cur, rfl, hbg, hgg, hnc, hcm, hcs, htake⟩
    · right
      have hown2 : w.ownsRow w.heap.size 5 1 (.slice none 0 0) us.length (Lib.byteCells us) := ⟨hown.1, .inl ⟨rfl, hx⟩⟩
      obtain ⟨v2, w2, hr2, ho2, -, -⟩ := Lib.run_append_own_string (P := Tryz.prog) w w.heap.size 129 9 ty 5 i0 Tryz.underlying129 Tryz.underlying9 hi hz0 hz1 hz2 _ us.length _ hown2 (strB bs) (by rw [hsz]; unfold maxLen; omega) (by omega) (Nat.le_refl _)
      have e := hr.symm.trans hr2
      simp only [Result.ok.injEq] at e
      intro k hk
      rw [e.1] at hk
      exact (ho2.lt k hk).1
    · by_cases hroom : us.length + (strB bs).size ≤ cap
      · left
        have hr2 := Lib.run_append_room_string (P := Tryz.prog) w 129 9 ty 5 i0 Tryz.underlying129 Tryz.underlying9 hi hz1 g us.length cap cur hgg (strB bs) hroom (by omega)
        have e := hr.symm.trans hr2
        simp only [Result.ok.injEq] at e
        rw [e.1]; rfl
      · right
        have hxl : (Lib.byteCells us).length = us.length := by simpa using hown.1
        have hr2 := Lib.run_append_grow_string (P := Tryz.prog) w 129 9 ty 5 i0 (.int .u8 0) Tryz.underlying129 Tryz.underlying9 hi hz0 ⟨g, 0, none⟩ us.length cap (Lib.byteCells us) (by rw [hz1]; omega) (hown.cells (g := g) rfl) (strB bs) (by omega) (by omega) (by rw [hz2]; exact growslice_fits (by omega) (by omega))
        have e := hr.symm.trans hr2
        simp only [Result.ok.injEq] at e
        intro k hk
        rw [e.1] at hk
        simp [Value.ownBlock] at hk
        omega

/-- .. the operation, for the walk. -/
theorem append_strW {ops : Array Oper} {rest : List Oper} {o : Oper} {a : Act} {w : World} {Q : Exit → Act → World → Prop} (hgd : o.guard = none) (s x : Operand)
    (ho : o.op = .call { callee := .builtin .append, args := #[s, x], argTypes := #[129, 9] })
    (B : Nat) (v : Value) (us : List UInt8) (hs : a.eval s = v) (hown : w.ownsRow B 5 1 v us.length (Lib.byteCells us)) (bs : List UInt8) (hx : a.eval x = .string (strB bs))
    (hb : us.length + bs.length ≤ 140737488355328) (hB : B ≤ w.heap.size)
    (h : ∀ v' w', w'.ownsRow B 5 1 v' (us ++ bs).length (Lib.byteCells (us ++ bs)) → w.grownBy w' v.ownBlock → (v'.ownBlock = v.ownBlock ∨ ∀ k, v'.ownBlock = some k → w.heap.size ≤ k) → wpList Tryz.prog ops Q rest (a.put o.dst v') w') : wpList Tryz.prog ops Q (o :: rest) a w := by
  refine wpList_plain hgd fun K hK => ?_
  obtain ⟨v', w', hr, h2, h3, h4⟩ := run_append_strW B o.type v us bs w hown hb hB
  unfold Oper.wp execOp
  simp only [ho, resolve, invoke, builtin, Sem.run_bind, Sem.run_pure, Result.andThen_ok, List.map_toArray, List.map_cons, List.map_nil, hs, hx, hr]
  exact hK _ _ (h v' w' h2 h3 h4)

/-- The writer at block r holds the bytes l, in a row in block q; is it too long? -/
structure WrAt (r : Nat) (q : Option Nat) (l : List UInt8) (lo : Bool) (w : World) : Prop where
  has : ∃ p v, w.heap[r]? = some (.cells #[p, v, .bool lo] 133 (0, 0)) ∧ (p = .pointer none ∨ p = .pointer (some ⟨r, 0, none⟩)) ∧ w.ownsRow 0 5 1 v l.length (Lib.byteCells l) ∧ v.ownBlock = q
  other : q ≠ some r
/-- All but the writer's block, and its row's, is kept; the row lies where it lay, or in a new block. -/
structure WrTo (r : Nat) (q : Option Nat) (w : World) (q' : Option Nat) (w' : World) : Prop where
  os : w'.os = w.os
  tape : w'.tape = w.tape
  output : w'.output = w.output
  size : w.heap.size ≤ w'.heap.size
  block : ∀ k, k < w.heap.size → k ≠ r → q ≠ some k → w'.heap[k]? = w.heap[k]?
  row : q' = q ∨ ∀ k, q' = some k → w.heap.size ≤ k

theorem WrTo.refl (r : Nat) (q : Option Nat) (w : World) : WrTo r q w q w := ⟨rfl, rfl, rfl, Nat.le_refl _, fun _ _ _ _ => rfl, .inl rfl⟩
theorem WrTo.trans {r : Nat} {q q1 q2 : Option Nat} {w w1 w2 : World} (h : WrTo r q w q1 w1) (h2 : WrTo r q1 w1 q2 w2) : WrTo r q w q2 w2 := by
  refine ⟨h2.os.trans h.os, h2.tape.trans h.tape, h2.output.trans h.output, Nat.le_trans h.size h2.size, fun k hk hr hq => ?_, ?_⟩
  · refine (h2.block k (Nat.lt_of_lt_of_le hk h.size) hr fun e => ?_).trans (h.block k hk hr hq)
    rcases h.row with h9 | h9
    · exact hq (h9 ▸ e)
    · have := h9 k e; omega
  · rcases h2.row with e | e
    · rw [e]; exact h.row
    · exact .inr fun k hk => Nat.le_trans h.size (e k hk)
theorem WrTo.alloc {r : Nat} {q q' : Option Nat} {w w' : World} (h : WrTo r q w q' w') (ob : Obj) : WrTo r q w q' (w'.alloc ob) :=
  ⟨h.os, h.tape, h.output, by have := h.size; simp; omega, fun k hk hr hq => (Below.heap_alloc _ _ _ (Nat.lt_of_lt_of_le hk h.size)).trans (h.block k hk hr hq), h.row⟩
theorem WrTo.below {r : Nat} {q : Option Nat} {w w' : World} (h : Below w.heap.size w w') : WrTo r q w q w' := ⟨h.os, h.tape, h.output, h.size, fun k hk _ _ => h.block k hk, .inl rfl⟩
/-- A cell of a block that is not the writer's is set. -/
theorem WrTo.set {r P j : Nat} {q q' : Option Nat} {w w' : World} (h : WrTo r q w q' w') (hP : w.heap.size ≤ P) (v : Value) : WrTo r q w q' (w'.setCell ⟨P, j, none⟩ v) :=
  ⟨h.os, h.tape, h.output, by have := h.size; simpa using this, fun k hk hr hq => (Below.heap_setCell _ _ _ _ (by simp; omega)).trans (h.block k hk hr hq), h.row⟩

theorem WrAt.lt {r : Nat} {q : Option Nat} {l : List UInt8} {lo : Bool} {w : World} (h : WrAt r q l lo w) : r < w.heap.size ∧ ∀ k, q = some k → k < w.heap.size := by
  obtain ⟨⟨p, v, hb, -, ho, rfl⟩, -⟩ := h
  exact ⟨(Array.getElem?_eq_some_iff.1 hb).1, fun k hk => (ho.lt k hk).2⟩
theorem WrAt.keep {r : Nat} {q : Option Nat} {l : List UInt8} {lo : Bool} {w w' : World} (h : WrAt r q l lo w) (hr : w'.heap[r]? = w.heap[r]?) (hq : ∀ k, q = some k → w'.heap[k]? = w.heap[k]?) : WrAt r q l lo w' := by
  obtain ⟨⟨p, v, hb, hp, ho, rfl⟩, hne⟩ := h
  refine ⟨⟨p, v, hr.trans hb, hp, ⟨ho.1, ?_⟩, rfl⟩, hne⟩
  rcases ho.2 with h9 | ⟨g, cap, cur, rfl, h2, h3, h4⟩
  · exact .inl h9
  · exact .inr ⟨g, cap, cur, rfl, h2, (hq g rfl).trans h3, h4⟩
theorem WrAt.alloc {r : Nat} {q : Option Nat} {l : List UInt8} {lo : Bool} {w : World} (h : WrAt r q l lo w) (ob : Obj) : WrAt r q l lo (w.alloc ob) :=
  h.keep (Below.heap_alloc _ _ _ h.lt.1) fun k hk => Below.heap_alloc _ _ _ (h.lt.2 k hk)
theorem WrAt.below {r : Nat} {q : Option Nat} {l : List UInt8} {lo : Bool} {w w' : World} (h : WrAt r q l lo w) (hb : Below w.heap.size w w') : WrAt r q l lo w' :=
  h.keep (hb.block _ h.lt.1) fun k hk => hb.block _ (h.lt.2 k hk)

set_option maxRecDepth 100000 in
theorem info_builder : (Tryz.prog.info? 131).map (·.size) = some 2 := by kernel_rfl
set_option maxRecDepth 100000 in
theorem lies_builder : liesAt Tryz.prog Tryz.prog.depth 133 (3 / Tryz.prog.cellsOf 133) 0 131 1 = true := by kernel_rfl

set_option maxRecDepth 100000 in
theorem check_used (r : Nat) (w : World) (h0 : w.cell? ⟨r, 0, none⟩ = some (.pointer (some ⟨r, 0, none⟩))) :
    Calls Tryz.prog 154 #[.pointer (some ⟨r, 0, none⟩)] w fun e w' => e = .returned (.tuple #[]) ∧ w' = w := by
  obtain ⟨j, hj, _⟩ := Option.map_eq_some_iff.1 info_builder
  go_enter Tryz.func154, Tryz.ntmps154
  go_wp2
  rw [Lib.run_neq_ptr_same w _ Tryz.underlying128 hj]
  go_wp2
  go_end0
  exact ⟨rfl, rfl⟩

set_option maxRecDepth 100000 in
theorem check_fresh (r : Nat) (w : World) (h0 : w.cell? ⟨r, 0, none⟩ = some (.pointer none)) (hsh : w.shape? r = some (133, 3)) (hfz : w.frozen? ⟨r, 0, none⟩ = false) :
    Calls Tryz.prog 154 #[.pointer (some ⟨r, 0, none⟩)] w fun e w' => e = .returned (.tuple #[]) ∧ w' = w.setCell ⟨r, 0, none⟩ (.pointer (some ⟨r, 0, none⟩)) := by
  obtain ⟨j, hj, hjs⟩ := Option.map_eq_some_iff.1 info_builder
  go_enter Tryz.func154, Tryz.ntmps154
  go_wp2
  rw [Lib.run_to_unsafe w ⟨r, 0, none⟩ Tryz.underlying128 Tryz.underlying178 hj (by rw [hjs]; decide) hsh (Nat.zero_lt_succ 2)]
  simp only [Result.andThen]
  rw [Oper.upon_value]
  go_wp2
  rw [run_callFunc_extern Tryz.func185 (by kernel_rfl) (by kernel_rfl) (by kernel_rfl) (e := Extern.AbiNoEscape.same) (by kernel_rfl)]
  rw [Lib.run_noEscape]
  simp only [Result.andThen]
  rw [Oper.upon_value]
  go_wp2
  rw [Lib.run_from_unsafe w ⟨r, 0, none⟩ Tryz.underlying178 Tryz.underlying128 hj hsh lies_builder]
  simp only [Result.andThen]
  rw [Oper.upon_value]
  go_wp2
  go_end0
  exact ⟨rfl, rfl⟩
end Go.Proofs.YtghhamgealkodaaGreatDoor
/- syntax: errors.As at the error with which a reader gives up (after the guide's worked example Toyas). -/
namespace Go.Proofs.YtghhamgealkodaaGreatDoor
open Go.RowKit Go.Extern.Stop Go.Stop Go.Extern

/-! The model's entries for internal/reflectlite, at this program's types. -/
set_option maxRecDepth 100000 in
theorem rl_valueOfP (t : Addr) (w : World) : (ReflectliteValue.unpack (.iface 156 (.pointer (some t)))).run Tryz.prog w
    = .ok (.agg #[.pointer (some ⟨11, 156, none⟩), .pointer (some ⟨w.heap.size, 0, none⟩), .int .u64 150]) (w.alloc (.cells #[.pointer (some t)] 156)) := by kernel_rfl
set_option maxRecDepth 100000 in
theorem rl_typeP (a : Addr) (w : World) : (ReflectliteValue.methodAny (ReflectliteValue.valueError "reflectlite.Value.Type" 0) (fun t _ _ _ => ReflectliteType.toType t) #[.agg #[.pointer (some ⟨11, 156, none⟩), .pointer (some a), .int .u64 150]]).run Tryz.prog w
    = .ok (.iface 200 (.agg #[.pointer (some ⟨11, 156, none⟩)])) w := by kernel_rfl
set_option maxRecDepth 100000 in
theorem rl_methodKind (h : Value) (w : World) : (Go.method 389 200 (.agg #[h]) "Kind").run Tryz.prog w = .ok (245, h) w := by kernel_rfl
set_option maxRecDepth 100000 in
theorem rl_kindP (w : World) : ((ReflectliteType.abiMethod fun t => (fun a : Nat => Value.int IntKind.u8 (a : Int)) <$> Rtype.kind t) #[.pointer (some ⟨11, 156, none⟩)]).run Tryz.prog w = .ok (.int .u8 22) w := by kernel_rfl
set_option maxRecDepth 100000 in
theorem rl_kindS (w : World) : ((ReflectliteType.abiMethod fun t => (fun a : Nat => Value.int IntKind.u8 (a : Int)) <$> Rtype.kind t) #[.pointer (some ⟨11, 154, none⟩)]).run Tryz.prog w = .ok (.int .u8 25) w := by kernel_rfl
theorem rl_m (z : Sem Value) (f : TypeId → Addr → Nat → Nat → Sem Value) (v : Value) :
    ReflectliteValue.method z f #[v] = (do match ← ReflectliteValue.parts v with | none => z | some (t, a, fl) => f t a fl (fl % 32)) := rfl
set_option maxRecDepth 100000 in
theorem rl_partsP (a : Addr) (w : World) : (ReflectliteValue.parts (.agg #[.pointer (some ⟨11, 156, none⟩), .pointer (some a), .int .u64 150])).run Tryz.prog w = .ok (some (156, a, 150)) w := by kernel_rfl
theorem rl_isNilP (a p : Addr) (W : World) (ha : W.cell? a = some (.pointer (some p))) :
    (ReflectliteValue.method (ReflectliteValue.valueError "reflectlite.Value.IsNil" 0) ReflectliteValue.isNil #[.agg #[.pointer (some ⟨11, 156, none⟩), .pointer (some a), .int .u64 150]]).run Tryz.prog W = .ok (.bool false) W := by
  rw [rl_m]
  simp only [Sem.run_bind, rl_partsP, Result.andThen]
  simp [ReflectliteValue.isNil, loadVar, isAgg, underlying, Tryz.underlying156, ha, Result.andThen]
set_option maxRecDepth 100000 in
theorem rl_methodElem (h : Value) (w : World) : (Go.method 389 200 (.agg #[h]) "Elem").run Tryz.prog w = .ok (256, .agg #[h]) w := by kernel_rfl
set_option maxRecDepth 100000 in
theorem rl_methodImplements (h : Value) (w : World) : (Go.method 389 200 (.agg #[h]) "Implements").run Tryz.prog w = .ok (257, .agg #[h]) w := by kernel_rfl
set_option maxRecDepth 100000 in
theorem rl_methodAssignableTo (h : Value) (w : World) : (Go.method 389 200 (.agg #[h]) "AssignableTo").run Tryz.prog w = .ok (254, .agg #[h]) w := by kernel_rfl
set_option maxRecDepth 100000 in
theorem rl_elemP (w : World) : (ReflectliteType.method ReflectliteType.elem #[.agg #[.pointer (some ⟨11, 156, none⟩)]]).run Tryz.prog w = .ok (.iface 200 (.agg #[.pointer (some ⟨11, 154, none⟩)])) w := by kernel_rfl
set_option maxRecDepth 100000 in
theorem rl_implementsS (w : World) : (ReflectliteType.relation "Implements" ReflectliteType.implements_ #[.agg #[.pointer (some ⟨11, 154, none⟩)], .iface 200 (.agg #[.pointer (some ⟨11, 151, none⟩)])]).run Tryz.prog w = .ok (.bool true) w := by kernel_rfl
set_option maxRecDepth 100000 in
theorem rl_typeOfS (v : Value) (w : World) : (ReflectliteType.typeOf #[.iface 154 v]).run Tryz.prog w = .ok (.iface 200 (.agg #[.pointer (some ⟨11, 154, none⟩)])) w := by kernel_rfl
set_option maxRecDepth 100000 in
theorem rl_assignableS (w : World) : (ReflectliteType.relation "AssignableTo" ReflectliteType.assignableTo #[.agg #[.pointer (some ⟨11, 154, none⟩)], .iface 200 (.agg #[.pointer (some ⟨11, 154, none⟩)])]).run Tryz.prog w = .ok (.bool true) w := by kernel_rfl
set_option maxRecDepth 100000 in
theorem rl_valueOfS (a b : Value) (w : World) : (ReflectliteValue.unpack (.iface 154 (.agg #[a, b]))).run Tryz.prog w
    = .ok (.agg #[.pointer (some ⟨11, 154, none⟩), .pointer (some ⟨w.heap.size, 0, none⟩), .int .u64 153]) (w.alloc (.cells #[a, b] 154)) := by kernel_rfl
set_option maxRecDepth 100000 in
theorem rl_elemOfP (w : World) : (Rtype.elem? 156).run Tryz.prog w = .ok (some 154) w := by kernel_rfl
set_option maxRecDepth 100000 in
theorem rl_mkS (p : Addr) (w : World) : (ReflectliteValue.mk 154 p ReflectliteValue.flagAddr).run Tryz.prog w = .ok (.agg #[.pointer (some ⟨11, 154, none⟩), .pointer (some p), .int .u64 409]) w := by kernel_rfl
theorem rl_elemVP (a p : Addr) (W : World) (ha : W.cell? a = some (.pointer (some p))) :
    (ReflectliteValue.method (ReflectliteValue.valueError "reflectlite.Value.Elem" 0) ReflectliteValue.elem #[.agg #[.pointer (some ⟨11, 156, none⟩), .pointer (some a), .int .u64 150]]).run Tryz.prog W
      = .ok (.agg #[.pointer (some ⟨11, 154, none⟩), .pointer (some p), .int .u64 409]) W := by
  rw [rl_m]
  simp only [Sem.run_bind, rl_partsP, Result.andThen]
  simp [ReflectliteValue.elem, loadVar, isAgg, underlying, Tryz.underlying156, ha, Result.andThen, rl_elemOfP, rl_mkS]
set_option maxRecDepth 100000 in
theorem rl_partsSa (a : Addr) (w : World) : (ReflectliteValue.parts (.agg #[.pointer (some ⟨11, 154, none⟩), .pointer (some a), .int .u64 409])).run Tryz.prog w = .ok (some (154, a, 409)) w := by kernel_rfl
set_option maxRecDepth 100000 in
theorem rl_partsS (a : Addr) (w : World) : (ReflectliteValue.parts (.agg #[.pointer (some ⟨11, 154, none⟩), .pointer (some a), .int .u64 153])).run Tryz.prog w = .ok (some (154, a, 153)) w := by kernel_rfl
set_option maxRecDepth 100000 in
theorem rl_directS (w : World) : (Rtype.directlyAssignable 154 154).run Tryz.prog w = .ok true w := by kernel_rfl
end Go.Proofs.YtghhamgealkodaaGreatDoor
/- syntax: errors.As at the error with which a reader gives up: what is set. -/
namespace Go.Proofs.YtghhamgealkodaaGreatDoor
open Go.RowKit Go.Extern.Stop Go.Stop Go.Extern

theorem rl_s (v x : Value) : ReflectliteValue.set #[v, x] = (do
    let (some (dst, a, fl), some (src, b, _)) := (← ReflectliteValue.parts v, ← ReflectliteValue.parts x)
      | unsupported (.noEntry "extern/(internal/reflectlite.Value).Set.zeroValue")
    if fl / ReflectliteValue.flagAddr % 2 == 0 then unsupported (.noEntry "extern/(internal/reflectlite.Value).Set.unaddressable")
    let val ← loadVar src b
    if ← Rtype.directlyAssignable dst src then storeVar dst a val
    else if ← Rtype.implements dst src then
      if (← Rtype.kind src) == 20 then
        match val with
        | .nilIface => unsupported (.noEntry "extern/reflectlite: a nil value of one interface type handed on as a value of another")
        | _ => storeVar dst a val
      else storeVar dst a (.iface src val)
    else panicString ("reflectlite.Set: value of type " ++ (← Rtype.spelt src) ++ " is not assignable to type " ++ (← Rtype.spelt dst))
    pure (.tuple #[])) := rfl

theorem rl_setS (g h : Nat) (x y : Int) (o0 o1 : Value) (W : World) (hx : W.cell? ⟨h, 0, none⟩ = some (.int .i64 x)) (hy : W.cell? ⟨h, 1, none⟩ = some (.int .i64 y)) (h0 : W.cell? ⟨g, 0, none⟩ = some o0) (h1 : W.cell? ⟨g, 1, none⟩ = some o1) (f0 : W.frozen? ⟨g, 0, none⟩ = false) (f1 : W.frozen? ⟨g, 1, none⟩ = false) :
    (ReflectliteValue.set #[.agg #[.pointer (some ⟨11, 154, none⟩), .pointer (some ⟨g, 0, none⟩), .int .u64 409], .agg #[.pointer (some ⟨11, 154, none⟩), .pointer (some ⟨h, 0, none⟩), .int .u64 153]]).run Tryz.prog W
      = .ok (.tuple #[]) ((W.setCell ⟨g, 0, none⟩ (.int .i64 x)).setCell ⟨g, 1, none⟩ (.int .i64 y)) := by
  have hl : (loadCells ⟨h, 0, none⟩ 2).run Tryz.prog W = .ok #[.int .i64 x, .int .i64 y] W := by
    have e := run_loadCells_list (P := Tryz.prog) W ⟨h, 0, none⟩ [.int .i64 x, .int .i64 y] (fun j v hj => by
      match j, hj with
      | 0, hj => simp at hj; subst hj; simpa [Addr.add] using hx
      | 1, hj => simp at hj; subst hj; simpa [Addr.add] using hy)
    exact e
  rw [rl_s]
  simp only [Sem.run_bind, rl_partsSa, rl_partsS, Result.andThen]
  simp [ReflectliteValue.flagAddr, loadVar, hl, Result.andThen, rl_directS, storeVar, Value.cells, storeCells, Addr.add]
  rw [run_store Tryz.prog W ⟨g, 0, none⟩ _ _ (by rfl)]
  simp [h0, f0]
  have h1' : (W.setCell ⟨g, 0, none⟩ (.int .i64 x)).cell? ⟨g, 1, none⟩ = some o1 := by
    rw [World.cell?_setCell_other W _ _ _ (by simp)]; exact h1
  rw [run_store Tryz.prog (W.setCell ⟨g, 0, none⟩ (.int .i64 x)) ⟨g, 1, none⟩ _ _ (by rfl)]
  simp [h1', f1]
end Go.Proofs.YtghhamgealkodaaGreatDoor
