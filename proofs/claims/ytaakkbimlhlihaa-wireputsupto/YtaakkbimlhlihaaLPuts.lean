/- Any number, truth and text are put behind any bytes as the document's bytes: the walk of WirePuts. -/
import Derived.Test.YtaakkbimlhlihaaWRefPut
import Derived.Test.YtaakkbimlhlihaaWLives
import Derived.Test.YtaakkbimlhlihaaLForm
import Derived.Deep.RegionLaw
namespace Go.Proofs.Ytaakkbimlhlihaa
open Go.RowKit

/-- 'append([]byte{}, v...)' as a step of a region that draws its order. -/
theorem step_copy {ops : Array Oper} {o : Oper} {a : Act} {w : World} {K : Act → World → Prop} {Q : Exit → Act → World → Prop} {E : Prop} (s x : Operand)
    (ho : o.op = .call { callee := .builtin .append, args := #[s, x], argTypes := #[22, 22] })
    (hw : Region.wanted o (yielded ops a.tmps) = true) (g : Nat) (v : Value) (bs : List UInt8) (hs : a.eval s = .slice (some ⟨g, 0, none⟩) 0 0) (hx : a.eval x = v)
    (hown : w.ownsRow g 5 1 (.slice (some ⟨g, 0, none⟩) 0 0) 0 []) (hg : g ≤ w.heap.size) (hv : bytesAt w v bs) (hb : bs.length ≤ 140737488355328)
    (h : ∀ v' w', w'.ownsRow g 5 1 v' bs.length (Lib.byteCells bs) → Below g w w' → K (a.put o.dst v') w') :
    if Region.wanted o (yielded ops a.tmps) = true then Oper.wp Try.prog o a w K Q else E := by
  rw [if_pos hw]
  obtain ⟨i0, hi, hz0, hz1, hz2⟩ := info_parts info_u8
  obtain ⟨base, cap, rfl, hn, h1, h2, hc⟩ := hv
  cases base with
  | none =>
    obtain ⟨rfl, rfl⟩ := hn rfl
    have hrun := run_append_owned_none (P := Try.prog) (w := w) g 22 o.type 5 i0 1 Try.underlying22 hi _ _ _ hown
    have hx' : a.eval x = .slice none 0 0 := hx
    unfold Oper.wp
    simp [execOp, ho, resolve, invoke, builtin, hs, hx', hrun, Result.andThen]
    exact h _ _ hown (Below.refl _ _)
  | some ad =>
    refine wp_append_own w s x 22 ho g 5 i0 (.int .u8 0) 1 1 Try.underlying22 hi hz0 hz1 hz2 rfl (by decide) _ 0 [] hs hown ad bs.length cap (Lib.byteCells bs) hx (by rw [Lib.byteCells_length, Nat.mul_one]) (hc ad rfl) (bytes_one bs) (by unfold maxLen; omega) (by omega) hg ?_
    intro v' w' ho' hg' _
    refine h v' w' (by simpa using ho') ?_
    exact (Below.refl g w).grown hg' hg (fun k hk => by cases hk; exact Nat.le_refl _)

theorem drew_below {B : Nat} {w : World} : Below B w w.drew := ⟨rfl, rfl, rfl, Nat.le_refl _, fun _ _ => rfl⟩

theorem made_empty (w : World) : (w.alloc (.cells #[] 5)).ownsRow w.heap.size 5 1 (.slice (some ⟨w.heap.size, 0, none⟩) 0 0) 0 [] := World.ownsRow_made w #[] 0 (Nat.le_refl _) (Nat.zero_le _) rfl

/-- The string of bytes that were put, in every world that grew from theirs. -/
theorem conv_later {w w' : World} {base : Option Addr} {bs : List UInt8} {cap : Nat} (h : rowAt w base bs) (hb : Below w.heap.size w w') :
    (convert 22 9 (.slice base bs.length cap)).run Try.prog w' = .ok (.string ⟨bs.toArray⟩) w' := conv_row w' base bs cap (rowAt_below h hb (Nat.le_refl _))

theorem str_add (w : World) (a b : List UInt8) (h : a.length + b.length ≤ 9223372036854775807) : (Op.stringOp .add ⟨a.toArray⟩ ⟨b.toArray⟩).run Try.prog w = .ok (.string ⟨(a ++ b).toArray⟩) w := by
  have h1 := run_string_add_sum (P := Try.prog) w ⟨a.toArray⟩ ⟨b.toArray⟩ (by show a.toArray.size + b.toArray.size ≤ _; simpa using h)
  rw [h1, ba_append]

attribute [local go_sem] undef

set_option maxHeartbeats 8000000 in
set_option maxRecDepth 100000 in
theorem puts_walk (base : Option Addr) (cap : Nat) (bs : List UInt8) (n : Int) (is : Bool) (s : ByteArray) (w : World) (hv : bytesAt w (.slice base bs.length cap) bs) (hl : bs.length ≤ 1048576)
    (h0 : -9223372036854775808 ≤ n) (h1 : n ≤ 9223372036854775807) (hs : s.size ≤ 1048576) :
    Calls Try.prog 3 #[.slice base bs.length cap, .int .i64 n, .bool is, .string s] w fun e w' => e = .returned (.bool true) ∧ Below w.heap.size w w' := by
  obtain ⟨-, hrow, -, -⟩ := bytesAt_row hv
  have hcv := conv_row w base bs cap hrow
  have HV : Hid (bytesAt w (.slice base bs.length cap) bs) := hv
  clear hrow hv
  have hnl := numB_len h0 h1
  have hbl := boolB_len is
  have htl := textB_len s
  have hnl2 := numB_len (n := (s.size : Int)) (by omega) (by omega)
  have a1 := fun wx => str_add wx bs (numB n) (by omega)
  have a2 := fun wx => str_add wx bs (boolB is) (by omega)
  have a3 := fun wx => str_add wx bs (textB s) (by omega)
  have hp1 : Hid (∀ (wx : World) v, bytesAt wx v bs → Calls Try.prog 9 #[v, .int .i64 n] wx fun e w' => ∃ base cap, e = .returned (.slice base (bs ++ numB n).length cap) ∧ rowAt w' base (bs ++ numB n) ∧ Below wx.heap.size wx w') := fun wx v hv =>
    (putInt_any v bs n h0 h1 wx hv (by omega)).mono fun e w' ⟨v', he, ho, hb⟩ => by
      obtain ⟨b2, c2, hv2, hr2, -, -, -⟩ := own_row ho
      exact ⟨b2, c2, by rw [he, hv2], hr2, hb⟩
  have hp2 : Hid (∀ (wx : World) v, bytesAt wx v bs → Calls Try.prog 11 #[v, .bool is] wx fun e w' => ∃ base cap, e = .returned (.slice base (bs ++ boolB is).length cap) ∧ rowAt w' base (bs ++ boolB is) ∧ Below wx.heap.size wx w') := fun wx v hv =>
    (putBool_any v bs is wx hv (by omega)).mono fun e w' ⟨v', he, ho, hb⟩ => by
      obtain ⟨b2, c2, hv2, hr2, -, -, -⟩ := own_row ho
      exact ⟨b2, c2, by rw [he, hv2], hr2, hb⟩
  have hp3 : Hid (∀ (wx : World) v, bytesAt wx v bs → Calls Try.prog 13 #[v, .string s] wx fun e w' => ∃ base cap, e = .returned (.slice base (bs ++ textB s).length cap) ∧ rowAt w' base (bs ++ textB s) ∧ Below wx.heap.size wx w') := fun wx v hv =>
    (putText_any v bs s wx hv (by omega)).mono fun e w' ⟨v', he, ho, hb⟩ => by
      obtain ⟨b2, c2, hv2, hr2, -, -, -⟩ := own_row ho
      exact ⟨b2, c2, by rw [he, hv2], hr2, hb⟩
  have hr1 : Hid (∀ wx : World, Calls Try.prog 10 #[.int .i64 n] wx fun e w' => e = .returned (.string ⟨(numB n).toArray⟩) ∧ Below wx.heap.size wx w') := fun wx => refInt_any n h0 h1 wx
  have hr2 : Hid (∀ wx : World, Calls Try.prog 12 #[.bool is] wx fun e w' => e = .returned (.string ⟨(boolB is).toArray⟩) ∧ wx = w') := fun wx => refBool_any is wx
  have hr3 : Hid (∀ wx : World, Calls Try.prog 14 #[.string s] wx fun e w' => e = .returned (.string ⟨(textB s).toArray⟩) ∧ Below wx.heap.size wx w') := fun wx => refText_any s wx (by omega)
  clear hbl htl hnl hnl2
  generalize bs ++ numB n = N1 at *
  generalize bs ++ boolB is = N2 at *
  generalize bs ++ textB s = N3 at *
  generalize numB n = M1 at *
  generalize boolB is = M2 at *
  generalize textB s = M3 at *
  go_enter Try.func3, Try.ntmps3
  go_wp2_with fail
  clear hcv
  first | go_region_law (first
    | (refine step_copy (.tmp 12) (.tmp 13) rfl (by rfl) w.heap.size _ bs rfl rfl (made_empty w.drew) (by simp) (bytesAt_alloc (bytesAt_below HV.out drew_below (Nat.le_refl _)) _) (by omega) ?_; intro v1 wa1 hown1 hb1; have ha1 : Below w.heap.size w wa1 := ((drew_below (w := w)).alloc (Nat.le_refl _) _).trans hb1; have hB1 := bytesAt_own hown1; clear hown1 hb1)
    | (refine step_copy (.tmp 24) (.tmp 25) rfl (by rfl) wc1.heap.size _ bs rfl rfl (made_empty wc1) (by simp) (bytesAt_alloc (bytesAt_below HV.out hy1 (Nat.le_refl _)) _) (by omega) ?_; intro v2 wa2 hown2 hb2; have ha2 : Below w.heap.size w wa2 := (hy1.alloc hy1.size _).trans (hb2.mono hy1.size); have hB2 := bytesAt_own hown2; clear hown2 hb2)
    | (refine step_copy (.tmp 37) (.tmp 38) rfl (by rfl) wb2.heap.size _ bs rfl rfl (made_empty wb2) (by simp) (bytesAt_alloc (bytesAt_below HV.out hx2 (Nat.le_refl _)) _) (by omega) ?_; intro v3 wa3 hown3 hb3; have ha3 : Below w.heap.size w wa3 := (hx2.alloc hx2.size _).trans (hb3.mono hx2.size); have hB3 := bytesAt_own hown3; clear hown3 hb3)
    | (go_simp; (first
      | (go_at_call 9; refine (hp1.out wa1 v1 hB1).mono ?_; rintro e wb1 ⟨bb1, cc1, rfl, hrow1, hb1⟩; have hx1 : Below w.heap.size w wb1 := ha1.trans (hb1.mono ha1.size); have hcv1 := conv_later (cap := cc1) hrow1 (Below.refl _ _); clear hb1 hB1)
      | (go_at_call 10; refine (hr1.out wb1).mono ?_; rintro e wc1 ⟨rfl, hb1⟩; have hy1 : Below w.heap.size w wc1 := hx1.trans (hb1.mono hx1.size); have hcw1 := conv_later (cap := cc1) hrow1 hb1; clear hb1)
      | (go_at_call 11; refine (hp2.out wa2 v2 hB2).mono ?_; rintro e wb2 ⟨bb2, cc2, rfl, hrow2, hb2⟩; have hx2 : Below w.heap.size w wb2 := ha2.trans (hb2.mono ha2.size); have hcv2 := conv_later (cap := cc2) hrow2 (Below.refl _ _); clear hb2 hB2)
      | (go_at_call 12; refine (hr2.out wb2).mono ?_; rintro e wz ⟨rfl, rfl⟩)
      | (go_at_call 13; refine (hp3.out wa3 v3 hB3).mono ?_; rintro e wb3 ⟨bb3, cc3, rfl, hrow3, hb3⟩; have hx3 : Below w.heap.size w wb3 := ha3.trans (hb3.mono ha3.size); have hcv3 := conv_later (cap := cc3) hrow3 (Below.refl _ _); clear hb3 hB3)
      | (go_at_call 14; refine (hr3.out wb3).mono ?_; rintro e wc3 ⟨rfl, hb3⟩; have hy3 : Below w.heap.size w wc3 := hx3.trans (hb3.mono hx3.size); have hcw3 := conv_later (cap := cc3) hrow3 hb3; clear hb3)
      | (go_at_call 15; refine (lives_any _).mono ?_; rintro e wd ⟨rfl, hbd⟩; have hd : Below w.heap.size w wd := hy3.trans (hbd.mono hy3.size); clear hbd)))) | fail
  all_goals go_wp2
  all_goals go_ret
  all_goals exact ⟨rfl, hd⟩
end Go.Proofs.Ytaakkbimlhlihaa
