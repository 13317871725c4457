/- The document's frames, all of them: hindcastref02.All. -/
import Derived.Test.YtffedjgbhdaecaaFRefGet
import Derived.Test.YtffedjgbhdaecaaFAll
namespace Go.Proofs.Ytffedjgbhdaecaa
open Go.RowKit

set_option maxRecDepth 100000 in
theorem info_str : (Try.prog.info? 9).map (fun i => (i.zero, i.size, i.bytes)) = some (some (.string .empty), 1, 16) := by kernel_rfl

/-- Bytes as a string's value. -/
def strV (x : List UInt8) : Value := .string ⟨x.toArray⟩

theorem getL_nil : getL [] = ([], 0, 3) := by decide +kernel
theorem getAt_end {bs : List UInt8} {a : Nat} (h : bs.length ≤ a) : (getAt bs a).2.2 ≠ 0 := by
  unfold getAt
  rw [List.drop_eq_nil_of_le h, getL_nil, if_pos (by simp)]
  simp

theorem framesTo_det {bs : List UInt8} {e e' : Nat} (n1 : (getAt bs e).2.2 ≠ 0) (n2 : (getAt bs e').2.2 ≠ 0) (xs : List (List UInt8)) : ∀ (ys : List (List UInt8)) (a : Nat), framesTo bs a xs e → framesTo bs a ys e' → xs = ys ∧ e = e' := by
  induction xs with
  | nil =>
    intro ys a h1 h2
    obtain rfl : e = a := h1
    cases ys with
    | nil =>
      obtain rfl : e' = e := h2
      exact ⟨rfl, rfl⟩
    | cons y ys =>
      obtain ⟨b, hb, _⟩ := h2
      rw [hb] at n1; exact absurd rfl n1
  | cons x xs ih =>
    intro ys a h1 h2
    obtain ⟨b, hb, h1⟩ := h1
    cases ys with
    | nil =>
      obtain rfl : e' = a := h2
      rw [hb] at n2; exact absurd rfl n2
    | cons y ys =>
      obtain ⟨c, hc, h2⟩ := h2
      rw [hb] at hc
      cases hc
      obtain ⟨r1, r2⟩ := ih ys b h1 h2
      exact ⟨by rw [r1], r2⟩

theorem own_keptC {w w' : World} {B C e n : Nat} {v : Value} {xs : List Value} (h : w.ownsRow B e 1 v n xs) (hb : Below C w w') (hC : w.heap.size ≤ C) : w'.ownsRow B e 1 v n xs :=
  own_block h (fun k cur hk => hb.block k (by have := (Array.getElem?_eq_some_iff.1 hk).1; omega))

set_option maxHeartbeats 2000000 in
set_option maxRecDepth 100000 in
theorem refAll_any (s : ByteArray) (w : World) (hs : s.size ≤ 1048576) :
    Calls Try.prog 19 #[.string s] w fun e w' => ∃ (r : Value) (a : Nat) (xs : List (List UInt8)), e = .returned (.tuple #[r, .int .i64 a]) ∧ framesTo s.data.toList 0 xs a ∧ a ≤ s.size ∧ (getAt s.data.toList a).2.2 ≠ 0 ∧
      w'.ownsRow w.heap.size 9 1 r xs.length (xs.map strV) ∧ Below w.heap.size w w' := by
  obtain ⟨i0, hi, hz0, hz1, hz2⟩ := info_parts info_str
  obtain ⟨bs, hbs⟩ : ∃ bs, bs = s.data.toList := ⟨_, rfl⟩
  have hbl : bs.length = s.size := by rw [hbs, data_len]
  have HG : Hid (∀ (a : Nat) (wx : World), a ≤ s.size → Calls Try.prog 17 #[.string s, .int .i64 a] wx fun e w' => e = .returned (.tuple #[.string ⟨(getAt bs a).1.toArray⟩, .int .i64 (getAt bs a).2.1, .int .i64 (getAt bs a).2.2]) ∧ Below wx.heap.size wx w') := fun a wx ha => by
    rw [hbs]; exact refGet_in s a wx hs ha
  rw [← hbs]
  have HBL : Hid (bs.length = s.size) := hbl
  clear hbs hbl
  go_enter Try.func19, Try.ntmps19
  go_wp2
  go_loopw [4, 5] (fun vo va wr => ∃ (k : Nat) (xs : List (List UInt8)), va = .int .i64 k ∧ framesTo bs 0 xs k ∧ k ≤ s.size ∧ wr.ownsRow w.heap.size 9 1 vo xs.length (xs.map strV) ∧ Below w.heap.size w wr) (fun _ a _ => s.size - (intOf a).toNat)
  case atStart => exact ⟨0, [], rfl, rfl, Nat.zero_le _, World.ownsRow_nil _ _ _ _, Below.refl _ _⟩
  case round =>
    obtain ⟨k, xs, rfl, hfr, hk, hown, hbw⟩ := hrel
    have hszw := hbw.size
    have hlen := framesTo_len hfr (Nat.zero_le _)
    have HFR : Hid (framesTo bs 0 xs k) := hfr
    have HBW : Hid (Below w.heap.size w wr) := hbw
    have hxl : 4 * xs.length ≤ s.size := by omega
    clear hfr hbw hlen
    by_cases hlt : k < s.size
    · obtain ⟨x, b, er, hg⟩ : ∃ x b er, getAt bs k = (x, b, er) := ⟨_, _, _, rfl⟩
      have c := HG.out k wr (by omega)
      rw [hg] at c
      have HGE : Hid (getAt bs k = (x, b, er)) := hg
      clear hg
      go_wp2_with fail
      refine c.mono ?_
      clear c
      rintro e w1 ⟨rfl, hb1⟩
      have hsz1 := hb1.size
      have HB1 : Hid (Below w.heap.size w w1) := HBW.out.trans (hb1.mono hszw)
      have hown1 : w1.ownsRow w.heap.size 9 1 u4 xs.length (xs.map strV) := own_keptC hown hb1 (Nat.le_refl _)
      clear hown hb1
      by_cases he : er = 0
      · subst he
        have hbd := getAt_bound HGE.out (by rw [HBL.out]; omega)
        rw [HBL.out] at hbd
        go_wp2_with (at_builtin; refine wpList_append_own _ rfl _ _ 45 rfl w.heap.size 9 i0 (.string .empty) 1 16 Try.underlying45 hi hz0 hz1 hz2 rfl (by decide) _ _ _ rfl (hown1.alloc _) ⟨w1.heap.size, 0, none⟩ 1 1 [Value.string ⟨x.toArray⟩] rfl rfl ?c1 ?c2 ?c3 ?c4 ?c5 ?_)
        case c1 =>
          intro j u hj
          match j, hj with
          | 0, hj => simp at hj; subst hj; simp [Addr.add]
        case c2 => intro u hu; simp at hu; subst hu; rfl
        case c3 => unfold maxLen; omega
        case c4 => omega
        case c5 => simp; omega
        intro v' w2 hown' hgrow _
        have HB2 : Hid (Below w.heap.size w w2) := (HB1.out.alloc (by omega) _).grown hgrow (by simp; omega) (fun q hq => (hown1.lt q hq).1)
        clear hgrow
        go_wp2
        refine ⟨⟨b, xs ++ [x], rfl, framesTo_snoc HGE.out HFR.out, hbd.2, ?_, HB2.out⟩, by simp [intOf]; omega⟩
        rw [List.length_append, List.map_append]
        exact hown'
      · have t0 : ((er : Int) != 0) = true := by rw [bne_iff_ne]; omega
        go_wp2
        go_ret2
        exact ⟨_, k, xs, rfl, HFR.out, hk, by rw [HGE.out]; exact he, hown1, HB1.out⟩
    · obtain rfl : k = s.size := by omega
      go_wp2
      go_ret2
      exact ⟨_, s.size, xs, rfl, HFR.out, Nat.le_refl _, getAt_end (by rw [HBL.out]; omega), hown, HBW.out⟩
end Go.Proofs.Ytffedjgbhdaecaa
