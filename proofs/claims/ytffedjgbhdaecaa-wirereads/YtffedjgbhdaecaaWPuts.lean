/- PutInt, PutBool, PutText: the bytes, and what is put behind them, in memory of the call's own. -/
import Derived.Test.YtffedjgbhdaecaaWConcat
import Derived.Lib.ConvBytes
namespace Go.Proofs.Ytffedjgbhdaecaa
open Go.RowKit

theorem numB_len {n : Int} (h0 : -9223372036854775808 ≤ n) (h1 : n ≤ 9223372036854775807) : (numB n).length ≤ 10 :=
  Lib.uvarint_length64 (Lib.zigzag_lt h0 h1)

theorem own_base {B C e n : Nat} {w : World} {v : Value} {xs : List Value} (h : w.ownsRow B e 1 v n xs) (hC : C ≤ B) : w.ownsRow C e 1 v n xs := by
  obtain ⟨h1, h2⟩ := h
  refine ⟨h1, ?_⟩
  rcases h2 with h2 | ⟨g, cap, cur, hv, hg, r⟩
  · exact .inl h2
  · exact .inr ⟨g, cap, cur, hv, by omega, r⟩

set_option maxRecDepth 100000 in
theorem concat2 (g : Nat) (v0 v1 : Value) (b0 b1 : List UInt8) (w : World) (h0 : w.cell? ⟨g, 0, none⟩ = some v0) (h1 : w.cell? ⟨g, 1, none⟩ = some v1)
    (hb0 : bytesAt w v0 b0) (hb1 : bytesAt w v1 b1) (hl : b0.length + b1.length ≤ 140737488355328) :
    Calls Try.prog 41 #[.slice (some ⟨g, 0, none⟩) 2 2] w fun e w' => ∃ v, e = .returned v ∧
      w'.ownsRow w.heap.size 5 1 v (b0 ++ b1).length (Lib.byteCells (b0 ++ b1)) ∧ Below w.heap.size w w' := by
  have h := concat_any g 2 [(v0, b0), (v1, b1)] w
    (fun j p hj => by
      match j, hj with
      | 0, hj => simp at hj; subst hj; exact h0
      | 1, hj => simp at hj; subst hj; exact h1)
    (fun p hp => by
      simp at hp
      rcases hp with rfl | rfl
      · exact hb0
      · exact hb1) (by simp) (by simpa [catB] using hl)
  have e : catB [(v0, b0), (v1, b1)] [(v0, b0), (v1, b1)].length = b0 ++ b1 := by simp [catB]
  rw [e] at h
  exact h

set_option maxRecDepth 100000 in
theorem concat3 (g : Nat) (v0 v1 v2 : Value) (b0 b1 b2 : List UInt8) (w : World) (h0 : w.cell? ⟨g, 0, none⟩ = some v0) (h1 : w.cell? ⟨g, 1, none⟩ = some v1) (h2 : w.cell? ⟨g, 2, none⟩ = some v2)
    (hb0 : bytesAt w v0 b0) (hb1 : bytesAt w v1 b1) (hb2 : bytesAt w v2 b2) (hl : b0.length + b1.length + b2.length ≤ 140737488355328) :
    Calls Try.prog 41 #[.slice (some ⟨g, 0, none⟩) 3 3] w fun e w' => ∃ v, e = .returned v ∧
      w'.ownsRow w.heap.size 5 1 v (b0 ++ (b1 ++ b2)).length (Lib.byteCells (b0 ++ (b1 ++ b2))) ∧ Below w.heap.size w w' := by
  have h := concat_any g 3 [(v0, b0), (v1, b1), (v2, b2)] w
    (fun j p hj => by
      match j, hj with
      | 0, hj => simp at hj; subst hj; exact h0
      | 1, hj => simp at hj; subst hj; exact h1
      | 2, hj => simp at hj; subst hj; exact h2)
    (fun p hp => by
      simp at hp
      rcases hp with rfl | rfl | rfl
      · exact hb0
      · exact hb1
      · exact hb2) (by simp) (by simp [catB]; omega)
  have e : catB [(v0, b0), (v1, b1), (v2, b2)] [(v0, b0), (v1, b1), (v2, b2)].length = b0 ++ (b1 ++ b2) := by simp [catB]
  rw [e] at h
  exact h

set_option maxHeartbeats 1000000 in
set_option maxRecDepth 100000 in
theorem putInt_any (v : Value) (bs : List UInt8) (n : Int) (h0 : -9223372036854775808 ≤ n) (h1 : n ≤ 9223372036854775807) (w : World) (hv : bytesAt w v bs) (hb : bs.length + 10 ≤ 140737488355328) :
    Calls Try.prog 34 #[v, .int .i64 n] w fun e w' => ∃ v', e = .returned v' ∧
      w'.ownsRow w.heap.size 5 1 v' (bs ++ numB n).length (Lib.byteCells (bs ++ numB n)) ∧ Below w.heap.size w w' := by
  have hv0 := hv
  have HV : Hid (bytesAt w v bs) := hv0
  have hnl := numB_len h0 h1
  obtain ⟨base, cap, rfl, hrest⟩ := hv
  clear hrest hv0
  go_enter Try.func34, Try.ntmps34
  go_wp2_with fail
  refine (intBytes_any w.heap.size n h0 h1 w (Nat.le_refl _)).mono ?_
  rintro e w1 ⟨v1, rfl, hown1, hb1⟩
  have hB1 := bytesAt_own hown1
  have HB1 : Hid (bytesAt w1 v1 (numB n)) := hB1
  obtain ⟨base1, cap1, rfl, hrest⟩ := hB1
  clear hrest
  have hsz := hb1.size
  go_wp2_with fail
  have c0 : (w1.alloc (Obj.cells #[Value.slice base bs.length cap, Value.slice base1 (numB n).length cap1] 22)).cell? ⟨w1.heap.size, 0, none⟩ = some (Value.slice base bs.length cap) := by simp
  have c1 : (w1.alloc (Obj.cells #[Value.slice base bs.length cap, Value.slice base1 (numB n).length cap1] 22)).cell? ⟨w1.heap.size, 1, none⟩ = some (Value.slice base1 (numB n).length cap1) := by simp
  refine (concat2 w1.heap.size _ _ bs (numB n) _ c0 c1 (bytesAt_alloc (bytesAt_below HV.out hb1 (Nat.le_refl _)) _) (bytesAt_alloc HB1.out _) (by omega)).mono ?_
  rintro e w2 ⟨v2, rfl, hown2, hb2⟩
  have hf1 : w2.ownsRow w.heap.size 5 1 v2 (bs ++ numB n).length (Lib.byteCells (bs ++ numB n)) := own_base hown2 (by simp; omega)
  have hf2 : Below w.heap.size w w2 := (hb1.alloc hsz _).trans (hb2.mono (by simp; omega))
  have HF : Hid (w2.ownsRow w.heap.size 5 1 v2 (bs ++ numB n).length (Lib.byteCells (bs ++ numB n)) ∧ Below w.heap.size w w2) := ⟨hf1, hf2⟩
  clear hf1 hf2 hown1 hown2 hb1 hb2 c0 c1 hsz
  go_wp2
  go_ret
  exact ⟨_, rfl, HF.out⟩

/-- A truth's byte. -/
def boolB (is : Bool) : List UInt8 := [if is then 1 else 0]

theorem bytesAt_new1 (w : World) (x : UInt8) : bytesAt (w.alloc (Obj.cells #[Value.int .u8 (x.toNat : Int)] 5)) (Value.slice (some ⟨w.heap.size, 0, none⟩) 1 1) [x] := by
  refine ⟨some ⟨w.heap.size, 0, none⟩, 1, rfl, (fun h => by cases h), Nat.le_refl _, by unfold maxLen; omega, fun a ha j u hj => ?_⟩
  cases ha
  match j, hj with
  | 0, hj => simp [Lib.byteCells] at hj; subst hj; simp [Addr.add]

set_option maxHeartbeats 1000000 in
set_option maxRecDepth 100000 in
theorem putBool_any (v : Value) (bs : List UInt8) (is : Bool) (w : World) (hv : bytesAt w v bs) (hb : bs.length + 10 ≤ 140737488355328) :
    Calls Try.prog 36 #[v, .bool is] w fun e w' => ∃ v', e = .returned v' ∧
      w'.ownsRow w.heap.size 5 1 v' (bs ++ boolB is).length (Lib.byteCells (bs ++ boolB is)) ∧ Below w.heap.size w w' := by
  have hv0 := hv
  have HV : Hid (bytesAt w v bs) := hv0
  obtain ⟨base, cap, rfl, hrest⟩ := hv
  clear hrest hv0
  cases is with
  | true =>
    have hn1 := bytesAt_new1 w 1
    go_enter Try.func36, Try.ntmps36
    go_wp2_with fail
    refine (concat2 (w.heap.size + 1) (Value.slice base bs.length cap) (Value.slice (some ⟨w.heap.size, 0, none⟩) 1 1) bs (boolB true) _ (by simp) (by simp) (bytesAt_alloc (bytesAt_alloc HV.out _) _) (bytesAt_alloc hn1 _) (by simp [boolB]; omega)).mono ?_
    rintro e w2 ⟨v2, rfl, hown2, hb2⟩
    have HF : Hid (w2.ownsRow w.heap.size 5 1 v2 (bs ++ boolB true).length (Lib.byteCells (bs ++ boolB true)) ∧ Below w.heap.size w w2) :=
      ⟨own_base hown2 (by simp; omega), (((Below.refl _ _).alloc (Nat.le_refl _) _).alloc (by simp) _).trans (hb2.mono (by simp; omega))⟩
    clear hown2 hb2 hn1
    go_wp2
    go_ret
    exact ⟨_, rfl, HF.out⟩
  | false =>
    have hn1 := bytesAt_new1 w 0
    go_enter Try.func36, Try.ntmps36
    go_wp2_with fail
    refine (concat2 (w.heap.size + 1) (Value.slice base bs.length cap) (Value.slice (some ⟨w.heap.size, 0, none⟩) 1 1) bs (boolB false) _ (by simp) (by simp) (bytesAt_alloc (bytesAt_alloc HV.out _) _) (bytesAt_alloc hn1 _) (by simp [boolB]; omega)).mono ?_
    rintro e w2 ⟨v2, rfl, hown2, hb2⟩
    have HF : Hid (w2.ownsRow w.heap.size 5 1 v2 (bs ++ boolB false).length (Lib.byteCells (bs ++ boolB false)) ∧ Below w.heap.size w w2) :=
      ⟨own_base hown2 (by simp; omega), (((Below.refl _ _).alloc (Nat.le_refl _) _).alloc (by simp) _).trans (hb2.mono (by simp; omega))⟩
    clear hown2 hb2 hn1
    go_wp2
    go_ret
    exact ⟨_, rfl, HF.out⟩

/-- A text's bytes. -/
def textB (s : ByteArray) : List UInt8 := numB s.size ++ s.data.toList

theorem data_len (s : ByteArray) : s.data.toList.length = s.size := by rw [Array.length_toList]; rfl

theorem bytesWorld_below (w : World) (e : TypeId) (s : ByteArray) : Below w.heap.size w (Lib.bytesWorld w e s) := by
  refine ⟨rfl, rfl, rfl, by rw [Lib.bytesWorld_size]; omega, fun k hk => Lib.bytesWorld_at_old w e s k hk⟩

theorem add_zero' (b j : Nat) : (⟨b, 0, none⟩ : Addr).add j = ⟨b, j, none⟩ := by
  unfold Addr.add
  split
  · simp_all
  · simp

theorem bytesAt_conv (w : World) (e : TypeId) (s : ByteArray) (hs : s.size ≤ maxLen) : bytesAt (Lib.bytesWorld w e s) (.slice (some ⟨w.heap.size, 0, none⟩) s.size (grownCap w s.size 0 e)) s.data.toList := by
  refine ⟨some ⟨w.heap.size, 0, none⟩, grownCap w s.size 0 e, by rw [data_len], (fun h => by cases h), by rw [data_len]; exact grownCap_ge w _ _ _, grownCap_le_maxLen w _ _ _ hs, fun a ha j u hj => ?_⟩
  cases ha
  have hjl : j < s.data.toList.length := by
    rcases Nat.lt_or_ge j s.data.toList.length with h | h
    · exact h
    · rw [List.getElem?_eq_none (by rw [Lib.byteCells_length]; exact h)] at hj; cases hj
  have h := Lib.bytesWorld_cell w e s j (by rw [← data_len]; exact hjl)
  have e1 : (⟨w.heap.size, 0, none⟩ : Addr).add j = ⟨w.heap.size, j, none⟩ := add_zero' w.heap.size j
  rw [e1, h]
  unfold Lib.byteCells at hj
  rw [List.getElem?_map, List.getElem?_eq_getElem hjl] at hj
  rw [List.getD_eq_getElem?_getD, List.getElem?_eq_getElem hjl]
  exact hj

set_option maxHeartbeats 1000000 in
set_option maxRecDepth 100000 in
theorem putText_any (v : Value) (bs : List UInt8) (s : ByteArray) (w : World) (hv : bytesAt w v bs) (hb : bs.length + s.size + 10 ≤ 140737488355328) :
    Calls Try.prog 35 #[v, .string s] w fun e w' => ∃ v', e = .returned v' ∧
      w'.ownsRow w.heap.size 5 1 v' (bs ++ textB s).length (Lib.byteCells (bs ++ textB s)) ∧ Below w.heap.size w w' := by
  have hv0 := hv
  have HV : Hid (bytesAt w v bs) := hv0
  have h0 : -9223372036854775808 ≤ (s.size : Int) := by omega
  have h1 : (s.size : Int) ≤ 9223372036854775807 := by omega
  have hnl := numB_len h0 h1
  obtain ⟨base, cap, rfl, hrest⟩ := hv
  clear hrest hv0
  have hconv := fun (wx : World) => Lib.run_convert_string_bytes (P := Try.prog) wx 9 22 5 s Try.underlying9 Try.underlying22 Try.underlying5
  go_enter Try.func35, Try.ntmps35
  go_wp2_with fail
  refine (intBytes_any w.heap.size s.size h0 h1 w (Nat.le_refl _)).mono ?_
  rintro e w1 ⟨v1, rfl, hown1, hb1⟩
  have hB1 := bytesAt_own hown1
  have HB1 : Hid (bytesAt w1 v1 (numB s.size)) := hB1
  obtain ⟨base1, cap1, rfl, hrest⟩ := hB1
  clear hrest
  have hsz := hb1.size
  have HC : Hid (bytesAt (Lib.bytesWorld w1 5 s) (.slice (some ⟨w1.heap.size, 0, none⟩) s.size (grownCap w1 s.size 0 5)) s.data.toList) := bytesAt_conv w1 5 s (by unfold maxLen; omega)
  have HZ : (Lib.bytesWorld w1 5 s).heap.size = w1.heap.size + 1 := Lib.bytesWorld_size w1 5 s
  have HBW : Hid (Below w1.heap.size w1 (Lib.bytesWorld w1 5 s)) := bytesWorld_below w1 5 s
  go_wp2_with fail
  generalize hwb : Lib.bytesWorld w1 5 s = wb at *
  generalize grownCap w1 s.size 0 5 = cp at *
  have c0 : (wb.alloc (Obj.cells #[Value.slice base bs.length cap, Value.slice base1 (numB s.size).length cap1, Value.slice (some ⟨w1.heap.size, 0, none⟩) s.size cp] 22)).cell? ⟨w1.heap.size + 1, 0, none⟩ = some (Value.slice base bs.length cap) := by rw [← HZ]; simp
  have c1 : (wb.alloc (Obj.cells #[Value.slice base bs.length cap, Value.slice base1 (numB s.size).length cap1, Value.slice (some ⟨w1.heap.size, 0, none⟩) s.size cp] 22)).cell? ⟨w1.heap.size + 1, 1, none⟩ = some (Value.slice base1 (numB s.size).length cap1) := by rw [← HZ]; simp
  have c2 : (wb.alloc (Obj.cells #[Value.slice base bs.length cap, Value.slice base1 (numB s.size).length cap1, Value.slice (some ⟨w1.heap.size, 0, none⟩) s.size cp] 22)).cell? ⟨w1.heap.size + 1, 2, none⟩ = some (Value.slice (some ⟨w1.heap.size, 0, none⟩) s.size cp) := by rw [← HZ]; simp
  refine (concat3 (w1.heap.size + 1) _ _ _ bs (numB s.size) s.data.toList _ c0 c1 c2 (bytesAt_alloc (bytesAt_below (bytesAt_below HV.out hb1 (Nat.le_refl _)) HBW.out (Nat.le_refl _)) _) (bytesAt_alloc (bytesAt_below HB1.out HBW.out (Nat.le_refl _)) _) (bytesAt_alloc HC.out _) (by rw [data_len]; omega)).mono ?_
  rintro e w2 ⟨v2, rfl, hown2, hb2⟩
  have HF : Hid (w2.ownsRow w.heap.size 5 1 v2 (bs ++ textB s).length (Lib.byteCells (bs ++ textB s)) ∧ Below w.heap.size w w2) :=
    ⟨own_base hown2 (by simp; omega), ((hb1.trans (HBW.out.mono hsz)).alloc (by omega) _).trans (hb2.mono (by simp; omega))⟩
  clear hown2 hb2 hown1 hb1 c0 c1 c2 HZ hsz hconv
  go_wp2
  go_ret
  exact ⟨_, rfl, HF.out⟩
end Go.Proofs.Ytffedjgbhdaecaa
