/- lex: how a byte, and a text, is written. -/
import Derived.Test.YtchpmnmngeebjaaGreatDoorXLives
import Derived.Lib.AppendIntMem
namespace Go.Proofs.YtchpmnmngeebjaaGreatDoor
open Go.RowKit Go.Shelf

/-- A byte as it is written in a text. -/
def escB (c : UInt8) : List UInt8 := if c.toNat = 92 then [92, 92] else if c.toNat = 34 then [92, 34] else if c.toNat = 10 then [92, 110] else [c]
/-- A text as it is written. -/
def quoteB (s : List UInt8) : List UInt8 := 34 :: (s.flatMap escB ++ [34])

theorem esc_in {c : UInt8} {i : Nat} (hi : i < 3) (he : (escM[i]'hi) = c.toNat) : escB c = [92, (escW[i]'hi).toUInt8] := by
  have hc : i = 0 ∨ i = 1 ∨ i = 2 := by omega
  unfold escB
  rcases hc with rfl | rfl | rfl
  · rw [← he]; rfl
  · rw [← he]; rfl
  · rw [← he]; rfl
theorem esc_out {c : UInt8} (h : ∀ j (hj : j < 3), (escM[j]'hj) ≠ c.toNat) : escB c = [c] := by
  have h0 : 92 ≠ c.toNat := h 0 (by decide)
  have h1 : 34 ≠ c.toNat := h 1 (by decide)
  have h2 : 10 ≠ c.toNat := h 2 (by decide)
  unfold escB
  rw [if_neg (by omega), if_neg (by omega), if_neg (by omega)]
theorem esc_len (c : UInt8) : (escB c).length ≤ 2 := by
  unfold escB
  split
  · simp
  · split
    · simp
    · split <;> simp

theorem bytesAt_two {w : World} {g r q : Nat} (hr : r < 256) (hq : q < 256) (hc : w.cell? ⟨g, 0, none⟩ = some (.int .u8 (r : Int))) (hd : w.cell? ⟨g, 1, none⟩ = some (.int .u8 (q : Int))) : bytesAt w (.slice (some ⟨g, 0, none⟩) 2 2) [r.toUInt8, q.toUInt8] :=
  bytesAt_lit rfl (by unfold maxLen; decide) (fun j u hj => by
    match j, hj with
    | 0, hj => simp [Lib.byteCells, Lib.toUInt8_toNat hr] at hj; subst hj; exact hc
    | 1, hj => simp [Lib.byteCells, Lib.toUInt8_toNat hq] at hj; subst hj; exact hd)

set_option maxHeartbeats 2000000 in
set_option maxRecDepth 100000 in
theorem appTB_any (B : Nat) (v : Value) (us : List UInt8) (c : UInt8) (w : World) (hown : w.ownsRow B 5 1 v us.length (Lib.byteCells us)) (hB : B ≤ w.heap.size) (hl : us.length ≤ 1000000000) (ht : Tabs w) :
    Calls Tryz.prog 85 #[v, .int .u8 (c.toNat : Int)] w fun e w' => ∃ v', e = .returned v' ∧ w'.ownsRow B 5 1 v' (us ++ escB c).length (Lib.byteCells (us ++ escB c)) ∧
      Below B w w' ∧ ∀ k, k < w.heap.size → some k ≠ v.ownBlock → w'.heap[k]? = w.heap[k]? := by
  have e0 := ht.escs 0 (by decide)
  have e1 := ht.escs 1 (by decide)
  have e2 := ht.escs 2 (by decide)
  have e3 := ht.escs 3 (by decide)
  have e4 := ht.escs 4 (by decide)
  have e5 := ht.escs 5 (by decide)
  simp only [List.getElem_cons_zero, List.getElem_cons_succ] at e0 e1 e2 e3 e4 e5
  clear ht
  have HO : Hid (w.ownsRow B 5 1 v us.length (Lib.byteCells us)) := hown
  obtain ⟨n, hn⟩ : ∃ n, n = c.toNat := ⟨_, rfl⟩
  have hn256 : n < 256 := by rw [hn]; exact UInt8.toNat_lt c
  rw [← hn]
  have HN : Hid (n = c.toNat) := hn
  clear hown hn
  go_enter Tryz.func85, Tryz.ntmps85
  go_wp2
  clear e0 e1 e2 e3 e4 e5
  go_loopw [8] (fun x wr => ∃ i : Nat, i ≤ 3 ∧ x = .int .i64 i ∧ (∀ j (hj : j < 3), j < i → (escM[j]'hj) ≠ n) ∧ Below w.heap.size w wr) (fun x _ => 3 - (intOf x).toNat)
  case atStart => exact ⟨0, Nat.zero_le _, rfl, fun j _ h => by omega, Below.refl _ _⟩
  case round =>
    obtain ⟨i, hi, rfl, hall, hbw⟩ := hrel
    have HA : Hid (∀ j (hj : j < 3), j < i → (escM[j]'hj) ≠ n) := hall
    have HB : Hid (Below w.heap.size w wr) := hbw
    have hszw := hbw.size
    have HOW : Hid (wr.ownsRow B 5 1 v us.length (Lib.byteCells us)) := own_keptX HO.out hbw (Nat.le_refl _)
    clear hall hbw
    by_cases hlt : i < 3
    · have hidx := fun wx => idx_escs wx i hlt
      obtain ⟨a, ha⟩ : ∃ a, a = escM[i]'hlt := ⟨_, rfl⟩
      obtain ⟨b, hb⟩ : ∃ b, b = escW[i]'hlt := ⟨_, rfl⟩
      have hb256 : b < 256 := by
        have : ∀ j (hj : j < 3), (escW[j]'hj) < 256 := by decide
        rw [hb]; exact this i hlt
      rw [← ha, ← hb] at hidx
      by_cases he : a = n
      · have HE : Hid (escB c = [(92 : Nat).toUInt8, b.toUInt8]) := show _ = _ by rw [hb]; exact esc_in hlt (by rw [← ha, he, HN.out])
        subst he
        clear ha hb
        go_wp2_with (at_builtin; refine append_bytes rfl _ _ rfl B _ us rfl ((HOW.out.alloc _).alloc _) _ [(92 : Nat).toUInt8, b.toUInt8] rfl (bytesAt_two (by decide) hb256 (by simp) (by simp)) (by simp; omega) (by simp; omega) ?_; intro v3 w3 hown3 hgrow)
        have hbl : ∀ k, k < w.heap.size → some k ≠ v.ownBlock → w3.heap[k]? = w.heap[k]? := fun k hk hne => by
          rw [hgrow.block k (by simp; omega) hne, Below.heap_alloc _ _ _ (by simp; omega), Below.heap_alloc _ _ _ (by omega), HB.out.block k hk]
        have hB3 : Below B w w3 := (((HB.out.mono hB).alloc (by omega) _).alloc (by simp; omega) _).grown hgrow (by simp; omega) (fun q hq => (HO.out.lt q hq).1)
        go_ret
        refine ⟨v3, rfl, ?_, hB3, hbl⟩
        rw [HE.out]
        exact hown3
      · have hbe : ((a : Int) == (n : Int)) = false := by rw [beq_eq_false_iff_ne]; omega
        have HE : Hid ((escM[i]'hlt) ≠ n) := show (escM[i]'hlt) ≠ n by rw [← ha]; exact he
        clear ha hb he
        go_wp2
        refine ⟨⟨i + 1, by omega, by go_num, fun j hj hji => ?_, HB.out.alloc hszw _⟩, by simp [intOf]; omega⟩
        by_cases h : j < i
        · exact HA.out j hj h
        · obtain rfl : j = i := by omega
          exact HE.out
    · obtain rfl : i = 3 := by omega
      have HE : Hid (escB c = [n.toUInt8]) := show _ = _ by
        rw [esc_out (fun j hj => by rw [← HN.out]; exact HA.out j hj hj), HN.out]
        congr 1
        exact (UInt8.toNat_inj.1 (Lib.toUInt8_toNat (by rw [← HN.out]; exact hn256))).symm
      go_wp2_with (at_builtin; refine append_bytes rfl _ _ rfl B _ us rfl (HOW.out.alloc _) _ [n.toUInt8] rfl (bytesAt_one hn256 (by simp)) (by simp; omega) (by simp; omega) ?_; intro v3 w3 hown3 hgrow)
      have hbl : ∀ k, k < w.heap.size → some k ≠ v.ownBlock → w3.heap[k]? = w.heap[k]? := fun k hk hne => by
        rw [hgrow.block k (by simp; omega) hne, Below.heap_alloc _ _ _ (by omega), HB.out.block k hk]
      have hB3 : Below B w w3 := ((HB.out.mono hB).alloc (by omega) _).grown hgrow (by simp; omega) (fun q hq => (HO.out.lt q hq).1)
      go_ret
      refine ⟨v3, rfl, ?_, hB3, hbl⟩
      rw [HE.out]
      exact hown3

theorem own_fresh1 (w : World) (c : Nat) (hc : c < 256) : (w.alloc (.cells #[.int .u8 (c : Int)] 5)).ownsRow w.heap.size 5 1 (.slice (some ⟨w.heap.size, 0, none⟩) 1 1) [c.toUInt8].length (Lib.byteCells [c.toUInt8]) := by
  refine ⟨by simp [Lib.byteCells], .inr ⟨w.heap.size, 1, #[.int .u8 (c : Int)], rfl, Nat.le_refl _, World.alloc_heap_new w _, Nat.le_refl _, by unfold maxLen; decide, by simp, ?_⟩⟩
  simp [Lib.byteCells, Lib.toUInt8_toNat hc]

theorem flat_take (s : List UInt8) (i : Nat) (h : i < s.length) : (s.take (i + 1)).flatMap escB = (s.take i).flatMap escB ++ escB s[i] := by
  rw [List.take_succ_eq_append_getElem h, List.flatMap_append]
  simp

theorem flat_len (s : List UInt8) : (s.flatMap escB).length ≤ 2 * s.length := by
  induction s with
  | nil => simp
  | cons x s ih =>
    have := esc_len x
    rw [List.flatMap_cons, List.length_append, List.length_cons]
    omega

set_option maxHeartbeats 4000000 in
set_option maxRecDepth 100000 in
theorem quoted_any (s : List UInt8) (w : World) (hl : s.length ≤ 100000000) (ht : Tabs w) :
    Calls Tryz.prog 73 #[.string (strB s)] w fun e w' => e = .returned (.string (strB (quoteB s))) ∧ Below w.heap.size w w' := by
  have HT : Hid (Tabs w) := ht
  have hsz : (strB s).size = s.length := rfl
  obtain ⟨w1, hw1⟩ : ∃ w1, w1 = w.alloc (.cells #[.int .u8 ((34 : Nat) : Int)] 5) := ⟨_, rfl⟩
  have hz1 : w1.heap.size = w.heap.size + 1 := by rw [hw1]; simp
  have hb1 : Below w.heap.size w w1 := by rw [hw1]; exact (Below.refl _ w).alloc (Nat.le_refl _) _
  have ho1 : w1.ownsRow w.heap.size 5 1 (.slice (some ⟨w.heap.size, 0, none⟩) 1 1) [(34 : Nat).toUInt8].length (Lib.byteCells [(34 : Nat).toUInt8]) := by rw [hw1]; exact own_fresh1 w 34 (by decide)
  have hconv := fun (wx : World) => Lib.run_convert_string_bytes (P := Tryz.prog) wx 9 73 5 (strB s) Tryz.underlying9 Tryz.underlying73 Tryz.underlying5
  have hz2 : (Lib.bytesWorld w1 5 (strB s)).heap.size = w1.heap.size + 1 := Lib.bytesWorld_size w1 5 _
  have hb2 : Below w1.heap.size w1 (Lib.bytesWorld w1 5 (strB s)) := bytesWorld_below w1 5 _
  have hcl : ∀ j (h : j < s.length), (Lib.bytesWorld w1 5 (strB s)).cell? ⟨w1.heap.size, j, none⟩ = some (.int .u8 ((s[j]).toNat : Int)) := fun j h => by
    have h9 := Lib.bytesWorld_cell w1 5 (strB s) j h
    rw [h9]
    simp [List.getD_eq_getElem?_getD, List.getElem?_eq_getElem h]
  have hnw := Lib.bytesWorld_at_new w1 5 (strB s)
  have hfz : ∀ cur, (Lib.bytesWorld w1 5 (strB s)).heap[w1.heap.size]? ≠ some (.cells cur 5 (0, 0)) := fun cur h => by
    rw [hnw] at h
    simp at h
  have hgc := grownCap_ge w1 (strB s).size 0 5
  have hgm := grownCap_le_maxLen w1 (strB s).size 0 5 (by rw [strB_size]; unfold maxLen; omega)
  rw [strB_size] at hgc hgm
  unfold maxLen at hgm
  rw [hz1] at hz2 hcl hfz
  clear hnw ht
  go_enter Tryz.func73, Tryz.ntmps73
  go_wp2_with fail
  rw [show w.alloc (Obj.cells #[Value.int IntKind.u8 34] 5) = w1 from hw1.symm]
  generalize grownCap w1 s.length 0 5 = cp at *
  have HCL : Hid (∀ j (h : j < s.length), (Lib.bytesWorld w1 5 (strB s)).cell? ⟨w.heap.size + 1, j, none⟩ = some (.int .u8 ((s[j]).toNat : Int))) := hcl
  have HFZ : Hid (∀ cur, (Lib.bytesWorld w1 5 (strB s)).heap[w.heap.size + 1]? ≠ some (.cells cur 5 (0, 0))) := hfz
  have HB2 : Hid (Below w.heap.size w (Lib.bytesWorld w1 5 (strB s))) := hb1.trans (hb2.mono (by omega))
  have HO2 : Hid ((Lib.bytesWorld w1 5 (strB s)).ownsRow w.heap.size 5 1 (.slice (some ⟨w.heap.size, 0, none⟩) 1 1) [(34 : Nat).toUInt8].length (Lib.byteCells [(34 : Nat).toUInt8])) := own_keptX ho1 hb2 (Nat.le_refl _)
  have HZ2 : Hid ((Lib.bytesWorld w1 5 (strB s)).heap.size = w.heap.size + 2) := hz2
  clear hcl hfz hb1 hb2 ho1 hz2 hconv hw1 hz1
  generalize Lib.bytesWorld w1 5 (strB s) = w2 at *
  go_loopw [3, 10] (fun vb vi wr => ∃ i : Nat, i ≤ s.length ∧ vi = .int .i64 i ∧ wr.ownsRow w.heap.size 5 1 vb (34 :: (s.take i).flatMap escB).length (Lib.byteCells (34 :: (s.take i).flatMap escB)) ∧ Below w.heap.size w wr ∧ wr.heap[w.heap.size + 1]? = w2.heap[w.heap.size + 1]?) (fun _ vi _ => s.length - (intOf vi).toNat)
  case atStart => exact ⟨0, Nat.zero_le _, rfl, HO2.out, HB2.out, rfl⟩
  case round =>
    obtain ⟨i, hi, rfl, hown, hbw, hkp⟩ := hrel
    have hszw := hbw.size
    have HB : Hid (Below w.heap.size w wr) := hbw
    have HO : Hid (wr.ownsRow w.heap.size 5 1 u3 (34 :: (s.take i).flatMap escB).length (Lib.byteCells (34 :: (s.take i).flatMap escB))) := hown
    have HKP : Hid (wr.heap[w.heap.size + 1]? = w2.heap[w.heap.size + 1]?) := hkp
    have hfl : (34 :: (s.take i).flatMap escB).length ≤ 2 * s.length + 1 := by
      have h9 := flat_len (s.take i)
      rw [List.length_take] at h9
      rw [List.length_cons]
      omega
    clear hown hbw hkp
    by_cases hlt : i < s.length
    · have hc : wr.cell? ⟨w.heap.size + 1, i, none⟩ = some (.int .u8 ((s[i]).toNat : Int)) := by
        rw [World.cell?_of_block HKP.out]; exact HCL.out i hlt
      have hi2 : (i : Int) < s.length := by omega
      have ca := appTB_any w.heap.size u3 (34 :: (s.take i).flatMap escB) s[i] wr HO.out hszw (by omega) (HT.out.below HB.out (Nat.le_refl _))
      have HNX : Hid ((34 :: (s.take i).flatMap escB) ++ escB s[i] = 34 :: (s.take (i + 1)).flatMap escB) := by
        show _ = _
        rw [flat_take s i hlt]; rfl
      rw [HNX.out] at ca
      have HNB : Hid (some (w.heap.size + 1) ≠ u3.ownBlock) := fun e => by
        obtain ⟨-, ⟨hv, -⟩ | ⟨g, cap, cur, hv, -, hh, -⟩⟩ := HO.out
        · rw [hv] at e; simp [Value.ownBlock] at e
        · rw [hv] at e
          simp [Value.ownBlock] at e
          rw [← e, HKP.out] at hh
          exact HFZ.out _ hh
      have hz : w.heap.size + 1 < wr.heap.size := World.block_lt_of_cell? wr _ hc
      obtain ⟨n, hn⟩ : ∃ n, n = (s[i]).toNat := ⟨_, rfl⟩
      rw [← hn] at hc ca
      clear hn
      go_wp2_with fail
      refine ca.mono ?_
      clear ca
      rintro e w3 ⟨v3, rfl, ho3, hb3, hk3⟩
      have HO3 : Hid (w3.ownsRow w.heap.size 5 1 v3 (34 :: (s.take (i + 1)).flatMap escB).length (Lib.byteCells (34 :: (s.take (i + 1)).flatMap escB))) := ho3
      have HB3 : Hid (Below w.heap.size w w3) := HB.out.trans hb3
      have HK3 : Hid (w3.heap[w.heap.size + 1]? = w2.heap[w.heap.size + 1]?) := (hk3 _ hz HNB.out).trans HKP.out
      clear ho3 hb3 hk3
      go_wp2
      exact ⟨⟨i + 1, by omega, by go_num, HO3.out, HB3.out, HK3.out⟩, by simp [intOf]; omega⟩
    · obtain rfl : i = s.length := by omega
      have hi2 : ¬ (s.length : Int) < s.length := by omega
      have HQ : Hid (quoteB s = (34 :: (s.take s.length).flatMap escB) ++ [(34 : Nat).toUInt8]) := by
        show _ = _
        rw [List.take_length]; rfl
      obtain ⟨us, hus⟩ : ∃ us, us = 34 :: (s.take s.length).flatMap escB := ⟨_, rfl⟩
      rw [← hus] at HQ HO hfl
      clear hus
      go_wp2_with (at_builtin; refine append_bytes rfl _ _ rfl w.heap.size _ us rfl (HO.out.alloc _) _ [(34 : Nat).toUInt8] rfl (bytesAt_one (by decide) (by simp)) (by simp; omega) (by simp; omega) ?_; intro v3 w3 hown3 hgrow; obtain ⟨b3, cap3, rfl, hrow3, -, -, -⟩ := own_row hown3; have hcv := conv_row w3 b3 _ cap3 hrow3; rw [show (us ++ [(34 : Nat).toUInt8]).length = us.length + 1 by simp] at hcv ⊢)
      have HB3 : Hid (Below w.heap.size w w3) := (HB.out.alloc hszw _).grown hgrow (by simp; omega) (fun q hq => (HO.out.lt q hq).1)
      clear hrow3 hown3 hgrow
      go_ret
      rw [HQ.out]
      exact ⟨rfl, HB3.out⟩
end Go.Proofs.YtchpmnmngeebjaaGreatDoor
