/- snap: how the cells of values, calls and objects are; numbers and texts that are read. -/
import Derived.Test.YtbdgniiafdjmiaaGreatDoorPModel
namespace Go.Proofs.YtbdgniiafdjmiaaGreatDoor
open Go.RowKit Go.Shelf

def coVal (_ : Nat → Prop) (_ : World) (x : Vl) (cs : List Value) : Prop := cs = [.int .i64 x.k, .int .i64 x.n, .string (strB x.s)]
def coCal (S : Nat → Prop) (w : World) (x : Cal) (cs : List Value) : Prop := ∃ b n c b2 n2 c2, cs = [.int .i64 x.unit, .int .i64 x.at0, .int .i64 x.mark, .slice b n c, .slice b2 n2 c2] ∧ valsR S w (.slice b n c) x.slots ∧ valsR S w (.slice b2 n2 c2) x.stack
def coObj (S : Nat → Prop) (w : World) (x : Ob) (cs : List Value) : Prop := ∃ b n c, cs = [.string (strB x.1), .slice b n c] ∧ valsR S w (.slice b n c) x.2
theorem lawVal : CellLaw 3 coVal where
  len := fun _ _ _ _ h => by rw [h]; rfl
  one := fun _ _ _ _ h u hu => by rw [h] at hu; simp at hu; rcases hu with rfl | rfl | rfl <;> rfl
  keep := fun _ _ _ _ _ h _ _ => h
  wide := fun _ _ _ _ _ h _ => h
theorem lawCal : CellLaw 5 coCal where
  len := fun _ _ _ _ h => by obtain ⟨b, n, c, b2, n2, c2, rfl, -⟩ := h; rfl
  one := fun _ _ _ _ h u hu => by obtain ⟨b, n, c, b2, n2, c2, rfl, -⟩ := h; simp at hu; rcases hu with rfl | rfl | rfl | rfl | rfl <;> rfl
  keep := fun S _ _ _ _ h hs hb => by obtain ⟨b, n, c, b2, n2, c2, e, h, h2⟩ := h; exact ⟨b, n, c, b2, n2, c2, e, rowIn.kept h (valE_keeps S) hs hb, rowIn.kept h2 (valE_keeps S) hs hb⟩
  wide := fun _ _ _ _ _ h hS => by obtain ⟨b, n, c, b2, n2, c2, e, h, h2⟩ := h; exact ⟨b, n, c, b2, n2, c2, e, rowIn.wide h hS fun _ _ _ h => h, rowIn.wide h2 hS fun _ _ _ h => h⟩
theorem lawObj : CellLaw 2 coObj where
  len := fun _ _ _ _ h => by obtain ⟨b, n, c, rfl, -⟩ := h; rfl
  one := fun _ _ _ _ h u hu => by obtain ⟨b, n, c, rfl, -⟩ := h; simp at hu; rcases hu with rfl | rfl <;> rfl
  keep := fun S _ _ _ _ h hs hb => by obtain ⟨b, n, c, e, h⟩ := h; exact ⟨b, n, c, e, rowIn.kept h (valE_keeps S) hs hb⟩
  wide := fun _ _ _ _ _ h hS => by obtain ⟨b, n, c, e, h⟩ := h; exact ⟨b, n, c, e, rowIn.wide h hS fun _ _ _ h => h⟩
theorem pinfo_val : (Tryz.prog.info? 54).map (fun i => (i.zero, i.size, i.bytes)) = some (some (.agg #[.int .i64 0, .int .i64 0, .string ⟨#[]⟩]), 3, 32) := by kernel_rfl
theorem pinfo_cal : (Tryz.prog.info? 49).map (fun i => (i.zero, i.size, i.bytes)) = some (some (.agg #[.int .i64 0, .int .i64 0, .int .i64 0, .slice none 0 0, .slice none 0 0]), 5, 72) := by kernel_rfl
theorem pinfo_obj : (Tryz.prog.info? 51).map (fun i => (i.zero, i.size, i.bytes)) = some (some (.agg #[.string ⟨#[]⟩, .slice none 0 0]), 2, 40) := by kernel_rfl

set_option maxRecDepth 100000 in
set_option maxHeartbeats 8000000 in
theorem pReadS_any (p : Nat) (base : Option Addr) (cap : Nat) (bs : List UInt8) (w : World) (a r : Nat) (hr : ReaderAt w p base cap bs a r) :
    Calls Tryz.prog 57 #[.pointer (some ⟨p, 0, none⟩)] w fun e w' => e = .returned (.int .i64 (rI bs a r).1) ∧ ReaderAt w' p base cap bs (rI bs a r).2.1 (rI bs a r).2.2 ∧ w.grownBy w' (some p) := by
  have c := int_any hr
  obtain ⟨x, a1, r1, hx⟩ : ∃ x a1 r1, rI bs a r = (x, a1, r1) := ⟨_, _, _, rfl⟩
  have hx' : stepR 0 a r (getI (bs.drop a)) = (x, a1, r1) := hx
  rw [hx'] at c
  rw [hx]
  simp only at c ⊢
  clear hx hx' hr
  go_enter Tryz.func57, Tryz.ntmps57
  go_wp2_with fail
  refine c.mono ?_
  clear c
  rintro e w1 ⟨rfl, hr1, hg1⟩
  have HR : Hid (ReaderAt w1 p base cap bs a1 r1 ∧ w.grownBy w1 (some p)) := ⟨hr1, hg1⟩
  clear hr1 hg1
  go_wp2
  go_ret
  exact ⟨rfl, HR.out⟩

set_option maxRecDepth 100000 in
set_option maxHeartbeats 8000000 in
theorem pReadF_any (p : Nat) (base : Option Addr) (cap : Nat) (bs : List UInt8) (w : World) (a r : Nat) (hr : ReaderAt w p base cap bs a r) :
    Calls Tryz.prog 58 #[.pointer (some ⟨p, 0, none⟩)] w fun e w' => e = .returned (.int .i64 (rI bs a r).1) ∧ ReaderAt w' p base cap bs (rI bs a r).2.1 (rI bs a r).2.2 ∧ w.grownBy w' (some p) := by
  have c := int_any hr
  obtain ⟨x, a1, r1, hx⟩ : ∃ x a1 r1, rI bs a r = (x, a1, r1) := ⟨_, _, _, rfl⟩
  have hx' : stepR 0 a r (getI (bs.drop a)) = (x, a1, r1) := hx
  rw [hx'] at c
  rw [hx]
  simp only at c ⊢
  clear hx hx' hr
  go_enter Tryz.func58, Tryz.ntmps58
  go_wp2_with fail
  refine c.mono ?_
  clear c
  rintro e w1 ⟨rfl, hr1, hg1⟩
  have HR : Hid (ReaderAt w1 p base cap bs a1 r1 ∧ w.grownBy w1 (some p)) := ⟨hr1, hg1⟩
  clear hr1 hg1
  go_wp2
  go_ret
  exact ⟨rfl, HR.out⟩

set_option maxRecDepth 100000 in
set_option maxHeartbeats 8000000 in
theorem pReadK_any (p : Nat) (base : Option Addr) (cap : Nat) (bs : List UInt8) (w : World) (a r : Nat) (hr : ReaderAt w p base cap bs a r) :
    Calls Tryz.prog 111 #[.pointer (some ⟨p, 0, none⟩)] w fun e w' => e = .returned (.int .i64 (rI bs a r).1) ∧ ReaderAt w' p base cap bs (rI bs a r).2.1 (rI bs a r).2.2 ∧ w.grownBy w' (some p) := by
  have c := int_any hr
  obtain ⟨x, a1, r1, hx⟩ : ∃ x a1 r1, rI bs a r = (x, a1, r1) := ⟨_, _, _, rfl⟩
  have hx' : stepR 0 a r (getI (bs.drop a)) = (x, a1, r1) := hx
  rw [hx'] at c
  rw [hx]
  simp only at c ⊢
  clear hx hx' hr
  go_enter Tryz.func111, Tryz.ntmps111
  go_wp2_with fail
  refine c.mono ?_
  clear c
  rintro e w1 ⟨rfl, hr1, hg1⟩
  have HR : Hid (ReaderAt w1 p base cap bs a1 r1 ∧ w.grownBy w1 (some p)) := ⟨hr1, hg1⟩
  clear hr1 hg1
  go_wp2
  go_ret
  exact ⟨rfl, HR.out⟩

end Go.Proofs.YtbdgniiafdjmiaaGreatDoor
