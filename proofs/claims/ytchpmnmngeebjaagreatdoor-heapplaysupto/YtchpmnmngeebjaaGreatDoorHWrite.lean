/- heap: values are written. -/
import Derived.Test.YtchpmnmngeebjaaGreatDoorHShow
import Derived.Test.YtchpmnmngeebjaaGreatDoorShelf
namespace Go.Proofs.YtchpmnmngeebjaaGreatDoor
open Go.RowKit Go.Shelf

/-- A heap below B, where the tables are, too: what is written lies from B on. -/
structure ShIn (B : Nat) (w : World) (most : Nat) (os : List Ob) (h : Nat) (vo vc : Value) : Prop where
  hp : HpIn (fun k => k < B) w most os h vo vc
  le : B ≤ w.heap.size
  tabs : ∀ W, Below B w W → TabsP W
theorem ShIn.on {B : Nat} {w w' : World} {most : Nat} {os : List Ob} {h : Nat} {vo vc : Value} (H : ShIn B w most os h vo vc) (hb : Below B w w') : ShIn B w' most os h vo vc :=
  ⟨H.hp.kept fun k hk _ => hb.block k hk, Nat.le_trans H.le hb.size, fun W hW => H.tabs W (hb.trans hW)⟩

def boolT (b : Bool) : List UInt8 := if b then trueB else falseB
/-- The bytes bs are owned. -/
def OwnB (B : Nat) (w : World) (v : Value) (bs : List UInt8) : Prop := w.ownsRow B 5 1 v bs.length (Lib.byteCells bs)

set_option maxRecDepth 100000 in
set_option maxHeartbeats 2000000 in
theorem appendBool_any (B : Nat) (v : Value) (us : List UInt8) (b : Bool) (w : World) (hown : w.ownsRow B 5 1 v us.length (Lib.byteCells us)) (hB : B ≤ w.heap.size) (hl : us.length ≤ 100000000000) :
    Calls Tryz.prog 65 #[v, .bool b] w fun e w' => ∃ v', e = .returned v' ∧ OwnB B w' v' (us ++ boolT b) ∧ Below B w w' := by
  cases b with
  | true =>
    go_enter Tryz.func65, Tryz.ntmps65
    go_wp2_with (at_builtin; refine append_strB rfl _ _ rfl B _ us rfl hown trueB rfl (by simp [trueB]; omega) hB ?_; intro v3 w3 hown3 hgrow)
    go_ret
    exact ⟨v3, rfl, hown3, (Below.refl _ _).grown hgrow hB (fun q hq => (hown.lt q hq).1)⟩
  | false =>
    go_enter Tryz.func65, Tryz.ntmps65
    go_wp2_with (at_builtin; refine append_strB rfl _ _ rfl B _ us rfl hown falseB rfl (by simp [falseB]; omega) hB ?_; intro v3 w3 hown3 hgrow)
    go_ret
    exact ⟨v3, rfl, hown3, (Below.refl _ _).grown hgrow hB (fun q hq => (hown.lt q hq).1)⟩

set_option maxRecDepth 100000 in
set_option maxHeartbeats 2000000 in
theorem appendBoolP_any (B : Nat) (v : Value) (us : List UInt8) (b : Bool) (w : World) (hown : w.ownsRow B 5 1 v us.length (Lib.byteCells us)) (hB : B ≤ w.heap.size) (hl : us.length ≤ 100000000000) :
    Calls Tryz.prog 54 #[v, .bool b] w fun e w' => ∃ v', e = .returned v' ∧ OwnB B w' v' (us ++ boolT b) ∧ Below B w w' := by
  have c := appendBool_any B v us b w hown hB hl
  clear hown
  go_enter Tryz.func54, Tryz.ntmps54
  go_wp2_with fail
  refine c.mono ?_
  clear c
  rintro e w' ⟨v', rfl, ho, hb⟩
  have HO : Hid (OwnB B w' v' (us ++ boolT b)) := ho
  have HB : Hid (Below B w w') := hb
  clear ho hb
  go_wp2
  go_ret
  exact ⟨v', rfl, HO.out, HB.out⟩

/-- Values are written, as deep as d. -/
def WriteAt (d : Nat) : Prop := ∀ (B : Nat) (w : World) (most : Nat) (os : List Ob) (h : Nat) (vo vc : Value), ShIn B w most os h vo vc → ∀ (l : List Vl) (pv : Value) (us : List UInt8) (bv : Value), valsIn (fun k => k < B) w pv l → (∀ v ∈ l, rightV v os.length = true ∧ smallV v) → l.length ≤ 8 →
  w.ownsRow B 5 1 bv us.length (Lib.byteCells us) → us.length + 10 * bndT d ≤ 100000000000 →
  Calls Tryz.prog 31 #[.pointer (some ⟨h, 0, none⟩), bv, .int .i64 (d : Int), pv] w fun e w' => ∃ v', e = .returned v' ∧ OwnB B w' v' (us ++ joinT (txtV os d) l) ∧ Below B w w'
/-- An object is written, as deep as d. -/
def ObjAt (d : Nat) : Prop := ∀ (B : Nat) (w : World) (most : Nat) (os : List Ob) (h : Nat) (vo vc : Value), ShIn B w most os h vo vc → ∀ (j : Nat) (hj : j < os.length) (us : List UInt8) (bv : Value),
  w.ownsRow B 5 1 bv us.length (Lib.byteCells us) → us.length + bndT d ≤ 100000000000 →
  Calls Tryz.prog 56 #[.pointer (some ⟨h, 0, none⟩), bv, .int .i64 (d : Int), foundO os j hj] w fun e w' => ∃ v', e = .returned v' ∧ OwnB B w' v' (us ++ objT os d os[j]) ∧ Below B w w'

set_option maxRecDepth 100000 in
set_option maxHeartbeats 2000000 in
theorem objAt_zero : ObjAt 0 := by
  intro B w most os h vo vc H j hj us bv hown hl
  have hB := H.le
  have HO : Hid (w.ownsRow B 5 1 bv us.length (Lib.byteCells us)) := hown
  have hbn : bndT 0 = 3000000 := rfl
  rw [hbn] at hl
  unfold foundO
  obtain ⟨fr, hfr⟩ : ∃ fr : Int, fr = ((fromO os j : Nat) : Int) := ⟨_, rfl⟩
  obtain ⟨up, hup⟩ : ∃ up : Int, up = ((fromO os j + (os[j]).2.length : Nat) : Int) := ⟨_, rfl⟩
  rw [← hfr, ← hup, show objT os 0 os[j] = dotsB from rfl]
  generalize (os[j]).1 = tg
  clear hfr hup hown
  show Calls Tryz.prog 56 #[.pointer (some ⟨h, 0, none⟩), bv, .int .i64 0, .agg #[.string (strB tg), .int .i64 fr, .int .i64 up]] w _
  go_enter Tryz.func56, Tryz.ntmps56
  go_wp2_with (at_builtin; refine append_strB rfl _ _ rfl B _ us rfl (HO.out.alloc _) dotsB rfl (by simp [dotsB]; omega) (by simp; omega) ?_; intro v3 w3 hown3 hgrow)
  go_ret
  exact ⟨v3, rfl, hown3, ((Below.refl _ _).alloc hB _).grown hgrow (by simp; omega) (fun q hq => (HO.out.lt q hq).1)⟩

/-- What stands ahead of a value: what was written, and a comma. -/
def aheadT (us : List UInt8) (f : Vl → List UInt8) (l : List Vl) (i : Nat) : List UInt8 := us ++ joinT f (l.take i) ++ if i = 0 then [] else [44, 32]
theorem aheadT_next (us : List UInt8) (f : Vl → List UInt8) (l : List Vl) (i : Nat) (h : i < l.length) : us ++ joinT f (l.take (i + 1)) = aheadT us f l i ++ f l[i] := by
  unfold aheadT
  rw [List.take_succ_eq_append_getElem h, joinT_snoc]
  by_cases h0 : i = 0
  · subst h0; simp [joinT]
  · have hne : l.take i ≠ [] := fun e => by
      have := congrArg List.length e
      rw [List.length_take, List.length_nil] at this
      omega
    rw [if_neg h0, if_neg hne]
    simp
end Go.Proofs.YtchpmnmngeebjaaGreatDoor
