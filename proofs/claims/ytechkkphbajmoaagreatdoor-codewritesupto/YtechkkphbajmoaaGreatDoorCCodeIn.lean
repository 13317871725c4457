/- A code that came in; the table of ops, out of what the row says of it. -/
import Derived.Test.YtechkkphbajmoaaGreatDoorXTabs2
import Derived.Test.YtechkkphbajmoaaGreatDoorCBytes
import Derived.Test.YtechkkphbajmoaaGreatDoorLRow
import Derived.ChangeSame
import Derived.Deep.DeepHandedRow
import Derived.Deep.Slices
import Derived.JoinedOf
import Derived.JoinedCond
import Derived.SizedLaws
import Derived.MakeChecks
import Derived.Lay
import Derived.LaidOnce
namespace Go.Proofs.YtechkkphbajmoaaGreatDoor
open Go.ChangeShapes Go.WideShapes Go.ChangeAt Go.RowKit

instance : Inhabited In7 := ⟨⟨0, 0⟩⟩
instance : Inhabited Vr := ⟨⟨[], 0, 0, 0⟩⟩
instance : Inhabited Sh := ⟨⟨[], []⟩⟩
instance : Inhabited Un := ⟨⟨[], 0, 0, 0, false, [], []⟩⟩

theorem cone_of {v : Value} {cs : List Value} {i : Nat} (h : (cs.drop i).take 1 = [v]) : cs[i]? = some v := by
  have := congrArg (fun l => l[0]?) h
  simpa [List.getElem?_take, List.getElem?_drop] using this
theorem cadd_at0 (a : Addr) : a.add 0 = a := by unfold Addr.add; simp
theorem cspot_of {w : World} {a : Addr} {v : Value} (h : w.cell? a = some v) : a.spot = none := by
  unfold World.cell? at h
  split at h
  · cases hs : a.spot with
    | none => rfl
    | some x => simp [hs] at h
  · simp at h
theorem cbulk_mem {H : Type} {d : DataW H} : ∀ {l : List (DataW H)}, d ∈ l → Rows.uptoBulk d ≤ Rows.uptoBulkAll l
  | [], h => by cases h
  | x :: l, h => by
    simp only [Rows.uptoBulkAll]
    rcases List.mem_cons.1 h with rfl | h
    · omega
    · have := cbulk_mem h; omega

/-- The fields of a struct that can be read, a cell each. -/
theorem cfld {H : Type} {enc : TypeId × Value → H} {w : World} {fuel : Nat} {hd : Bool} {cs : List Value} {x : DataW H × List MemPlace} {t : TypeId} {fs : Array Field} {k : Nat} (hu : Tryz.prog.underlying t = some (.struct fs)) (hk : Tryz.prog.cellsOf t = k)
    (h : DataW.trod enc Tryz.prog w 0 (fun _ => true) hd fuel t cs = some x) :
    cs.length = k ∧ ∃ m, ∀ i f, fs[i]? = some f → Tryz.prog.cellsOf f.type = 1 → f.offset = i → i < k → ∃ u y, cs[i]? = some u ∧ DataW.trod enc Tryz.prog w 0 (fun _ => true) hd m f.type [u] = some y ∧ Rows.uptoBulk y.1 ≤ Rows.uptoBulk x.1 := by
  obtain ⟨xs, m, -, rfl, hlc, hl, hel⟩ := DataW.trod_struct hu h
  rw [hk] at hlc
  refine ⟨hlc, m, fun i f hf hc ho hi => ?_⟩
  have h0 := hel i f hf
  rw [hc, ho] at h0
  have hfi : i < fs.size := (Array.getElem?_eq_some_iff.1 hf).1
  have hxi : i < xs.length := by omega
  rw [List.getElem?_eq_getElem hxi] at h0
  obtain ⟨u, hu2⟩ : ∃ u, (cs.drop i).take 1 = [u] := by
    match hd9 : (cs.drop i).take 1, (show ((cs.drop i).take 1).length = 1 by rw [List.length_take, List.length_drop]; omega) with
    | [u], _ => exact ⟨u, rfl⟩
  rw [hu2] at h0
  refine ⟨u, xs[i], cone_of hu2, h0, ?_⟩
  have := cbulk_mem (List.mem_map.2 ⟨xs[i], List.getElem_mem hxi, rfl⟩ : xs[i].1 ∈ xs.map (·.1))
  simp only [Rows.uptoBulk]
  omega

/-- What opens a thing of a row. -/
def Opens {α : Type} {H : Type} (enc : TypeId × Value → H) (w : World) (e : TypeId) (k : Nat) (E : World → Nat → Nat → α → Prop) (G : α → Prop) : Prop :=
  ∀ hd fuel cs x, DataW.trod enc Tryz.prog w 0 (fun _ => true) hd fuel e cs = some x → Rows.uptoBulk x.1 ≤ 1048576 → cs.length = k ∧ ∃ a, G a ∧ ∀ b o, (∀ q z, cs[q]? = some z → w.cell? ⟨b, o + q, none⟩ = some z) → E w b o a

theorem row_openG {α : Type} [Inhabited α] {H : Type} {enc : TypeId × Value → H} {w : World} {e t : TypeId} {k : Nat} {E : World → Nat → Nat → α → Prop} {G : α → Prop} {fuel : Nat} {v : Value} {x : DataW H × List MemPlace} {hd : Bool} (hu : Tryz.prog.underlying t = some (.slice e)) (hk : Tryz.prog.cellsOf e = k) (hk1 : 1 ≤ k)
    (ho : Opens enc w e k E G) (h : DataW.trod enc Tryz.prog w 0 (fun _ => true) hd fuel t [v] = some x) (hB : Rows.uptoBulk x.1 ≤ 1048576) :
    ∃ l, rowIn (fun q => q < w.heap.size) w v k E l ∧ (∀ a ∈ l, G a) ∧ l.length ≤ 1048576 ∧ ∃ bb n cc, v = .slice bb n cc := by
  rcases Deep.open_slice hu h with ⟨hcs, hx⟩ | ⟨a, len, cap, m, n, D, Pl, hcs, -, hl, hm, hmm, hx, hr⟩
  · simp at hcs
    subst hcs
    exact ⟨[], ⟨none, 0, rfl, Nat.le_refl _, Nat.zero_le _, .inl rfl⟩, fun t h => (by cases h), Nat.zero_le _, _, _, _, rfl⟩
  · simp at hcs
    subst hcs
    have hln : len ≤ m := by split at hmm <;> omega
    have hbulk : Rows.uptoBulkAll ((List.range len).map D) ≤ 1048576 := by
      rw [hx] at hB
      simp only [Rows.uptoBulk] at hB
      omega
    have each : ∀ i, i < len → ∃ t : α, G t ∧ ∃ cs' : List Value, cs'.length = k ∧ (∀ q z, cs'[q]? = some z → w.cell? (a.add (i * k + q)) = some z) ∧ ∀ b o, (∀ q z, cs'[q]? = some z → w.cell? ⟨b, o + q, none⟩ = some z) → E w b o t := fun i hi => by
      obtain ⟨cs', h1, h2⟩ := hr i (by omega)
      rw [hk] at h1
      obtain ⟨-, hlen, hcell⟩ := World.cells?_some h1
      have hDi := cbulk_mem (List.mem_map.2 ⟨i, List.mem_range.2 hi, rfl⟩ : D i ∈ (List.range len).map D)
      obtain ⟨hcl, t, hg, hE⟩ := ho _ _ _ _ h2 (by simp only; omega)
      refine ⟨t, hg, cs', hcl, fun q z hz => ?_, hE⟩
      have hq : q < k := by rw [← hcl]; exact (List.getElem?_eq_some_iff.1 hz).1
      have := hcell q (by omega)
      rw [Deep.add_add] at this
      exact this.trans hz
    obtain ⟨f, hf⟩ := Deep.choose_lt each
    have hll : ((List.range len).map f).length = len := by simp
    refine ⟨(List.range len).map f, ⟨some a, cap, by rw [hll], by rw [hll]; exact hl, hm, ?_⟩, ?_, ?_, _, _, _, rfl⟩
    · rcases Nat.eq_zero_or_pos len with h0 | h0
      · subst h0; exact .inl rfl
      · right
        obtain ⟨-, cs0, hl0, hc0, -⟩ := hf 0 h0
        have hz0 := hc0 0 _ (List.getElem?_eq_getElem (show 0 < cs0.length by omega))
        rw [Nat.zero_mul, Nat.add_zero, cadd_at0] at hz0
        have hsp := cspot_of hz0
        have hbl := World.block_lt_of_cell? w _ hz0
        obtain ⟨b, o, sp⟩ := a
        simp only at hsp hbl
        subst hsp
        refine ⟨b, o, rfl, hbl, hbl, fun j hj => ?_⟩
        rw [hll] at hj
        obtain ⟨-, cs1, hl1, hc1, hE1⟩ := hf j hj
        simp only [List.getElem_map, List.getElem_range]
        refine hE1 b (o + j * k) fun q z hz => ?_
        have := hc1 q z hz
        rw [add_plain] at this
        rw [Nat.add_assoc]
        exact this
    · intro t ht
      obtain ⟨i, hi, rfl⟩ := List.mem_map.1 ht
      exact (hf i (List.mem_range.1 hi)).1
    · rw [hll]
      have h1 := bulk_len ((List.range len).map D)
      rw [List.length_map, List.length_range] at h1
      omega

set_option maxRecDepth 100000 in
theorem cc_str : Tryz.prog.cellsOf 9 = 1 := by kernel_rfl
set_option maxRecDepth 100000 in
theorem cc_int : Tryz.prog.cellsOf 3 = 1 := by kernel_rfl
set_option maxRecDepth 100000 in
theorem cc_op : Tryz.prog.cellsOf 60 = 1 := by kernel_rfl
set_option maxRecDepth 100000 in
theorem cc_bool : Tryz.prog.cellsOf 4 = 1 := by kernel_rfl
set_option maxRecDepth 100000 in
theorem cc_strs : Tryz.prog.cellsOf 22 = 1 := by kernel_rfl
set_option maxRecDepth 100000 in
theorem cc_inss : Tryz.prog.cellsOf 55 = 1 := by kernel_rfl
set_option maxRecDepth 100000 in
theorem cc_vars : Tryz.prog.cellsOf 56 = 1 := by kernel_rfl
set_option maxRecDepth 100000 in
theorem cc_shapes : Tryz.prog.cellsOf 23 = 1 := by kernel_rfl
set_option maxRecDepth 100000 in
theorem cc_units : Tryz.prog.cellsOf 24 = 1 := by kernel_rfl
set_option maxRecDepth 100000 in
theorem cc_ins : Tryz.prog.cellsOf 62 = 2 := by kernel_rfl
set_option maxRecDepth 100000 in
theorem cc_var : Tryz.prog.cellsOf 121 = 4 := by kernel_rfl
set_option maxRecDepth 100000 in
theorem cc_shape : Tryz.prog.cellsOf 77 = 2 := by kernel_rfl
set_option maxRecDepth 100000 in
theorem cc_unit : Tryz.prog.cellsOf 58 = 7 := by kernel_rfl
set_option maxRecDepth 100000 in
theorem cc_code : Tryz.prog.cellsOf 26 = 4 := by kernel_rfl

section
variable {H : Type} {enc : TypeId × Value → H} {w : World} {fuel : Nat} {hd : Bool} {u : Value} {y : DataW H × List MemPlace}
theorem cint_open {t : TypeId} (ht : Tryz.prog.underlying t = some (.int .i64)) (h : DataW.trod enc Tryz.prog w 0 (fun _ => true) hd fuel t [u] = some y) : ∃ n, u = .int .i64 n ∧ I64 n := by
  obtain ⟨n, a, -, c⟩ := DataW.trod_int ht h
  simp only [List.cons.injEq, and_true] at a
  exact ⟨n, a, wf_i64 c⟩
theorem cstr_open (h : DataW.trod enc Tryz.prog w 0 (fun _ => true) hd fuel 9 [u] = some y) (hB : Rows.uptoBulk y.1 ≤ 1048576) : ∃ s : List UInt8, u = .string (strB s) ∧ s.length ≤ 1048576 := by
  obtain ⟨s, a, b, -⟩ := DataW.trod_string Tryz.underlying9 h
  simp only [List.cons.injEq, and_true] at a
  refine ⟨s.data.toList, by rw [a, strB_of], ?_⟩
  rw [b] at hB
  simp only [Rows.uptoBulk] at hB
  omega
theorem cbool_open (h : DataW.trod enc Tryz.prog w 0 (fun _ => true) hd fuel 4 [u] = some y) : ∃ b, u = .bool b := by
  obtain ⟨b, a, -⟩ := DataW.trod_bool Tryz.underlying4 h
  simp only [List.cons.injEq, and_true] at a
  exact ⟨b, a⟩
end

section
variable {H : Type} {enc : TypeId × Value → H} {w : World}
theorem str_opens : Opens enc w 9 1 strE (fun s => s.length ≤ 1048576) := fun hd fuel cs x h hB => by
  obtain ⟨s, a, b, -⟩ := DataW.trod_string Tryz.underlying9 h
  subst a
  refine ⟨rfl, s.data.toList, ?_, fun b o hc => ?_⟩
  · rw [b] at hB
    simp only [Rows.uptoBulk] at hB
    omega
  · have := hc 0 _ rfl
    rw [Nat.add_zero] at this
    unfold strE
    rw [this, strB_of]
set_option maxRecDepth 100000 in
theorem ins_opens : Opens enc w 62 2 insE (fun y => I64 y.op ∧ I64 y.a) := fun hd fuel cs x h hB => by
  obtain ⟨hl, m, hf⟩ := cfld Tryz.underlying62 cc_ins h
  obtain ⟨u0, y0, c0, t0, -⟩ := hf 0 _ rfl cc_op rfl (by omega)
  obtain ⟨u1, y1, c1, t1, -⟩ := hf 1 _ rfl cc_int rfl (by omega)
  obtain ⟨n0, rfl, i0⟩ := cint_open Tryz.underlying60 t0
  obtain ⟨n1, rfl, i1⟩ := cint_open Tryz.underlying3 t1
  exact ⟨hl, ⟨n0, n1⟩, ⟨i0, i1⟩, fun b o hc => ⟨hc 0 _ c0, hc 1 _ c1⟩⟩
set_option maxRecDepth 100000 in
theorem var_opens : Opens enc w 121 4 varE (fun y => y.name.length ≤ 1048576 ∧ I64 y.slot ∧ I64 y.lo ∧ I64 y.hi) := fun hd fuel cs x h hB => by
  obtain ⟨hl, m, hf⟩ := cfld Tryz.underlying121 cc_var h
  obtain ⟨u0, y0, c0, t0, b0⟩ := hf 0 _ rfl cc_str rfl (by omega)
  obtain ⟨u1, y1, c1, t1, -⟩ := hf 1 _ rfl cc_int rfl (by omega)
  obtain ⟨u2, y2, c2, t2, -⟩ := hf 2 _ rfl cc_int rfl (by omega)
  obtain ⟨u3, y3, c3, t3, -⟩ := hf 3 _ rfl cc_int rfl (by omega)
  obtain ⟨s, rfl, hs⟩ := cstr_open t0 (by omega)
  obtain ⟨n1, rfl, i1⟩ := cint_open Tryz.underlying3 t1
  obtain ⟨n2, rfl, i2⟩ := cint_open Tryz.underlying3 t2
  obtain ⟨n3, rfl, i3⟩ := cint_open Tryz.underlying3 t3
  exact ⟨hl, ⟨s, n1, n2, n3⟩, ⟨hs, i1, i2, i3⟩, fun b o hc => ⟨hc 0 _ c0, hc 1 _ c1, hc 2 _ c2, hc 3 _ c3⟩⟩
set_option maxRecDepth 100000 in
theorem shape_opens : Opens enc w 77 2 (shE (fun q => q < w.heap.size)) (fun y => y.name.length ≤ 1048576 ∧ ∀ f ∈ y.fields, f.length ≤ 1048576) := fun hd fuel cs x h hB => by
  obtain ⟨hl, m, hf⟩ := cfld Tryz.underlying77 cc_shape h
  obtain ⟨u0, y0, c0, t0, b0⟩ := hf 0 _ rfl cc_str rfl (by omega)
  obtain ⟨u1, y1, c1, t1, b1⟩ := hf 1 _ rfl cc_strs rfl (by omega)
  obtain ⟨s, rfl, hs⟩ := cstr_open t0 (by omega)
  obtain ⟨l, hr, hg, -, -⟩ := row_openG Tryz.underlying22 cc_str (Nat.le_refl _) str_opens t1 (by omega)
  exact ⟨hl, ⟨s, l⟩, ⟨hs, hg⟩, fun b o hc => ⟨hc 0 _ c0, u1, hc 1 _ c1, hr⟩⟩
set_option maxRecDepth 100000 in
theorem unit_opens : Opens enc w 58 7 (unE (fun q => q < w.heap.size)) (fun u => u.name.length ≤ 1048576 ∧ (I64 u.params ∧ I64 u.slots ∧ I64 u.stack) ∧ (u.ins.length ≤ 1048576 ∧ u.vars.length ≤ 1048576) ∧ (∀ y ∈ u.ins, I64 y.op ∧ I64 y.a) ∧ ∀ y ∈ u.vars, y.name.length ≤ 1048576 ∧ I64 y.slot ∧ I64 y.lo ∧ I64 y.hi) := fun hd fuel cs x h hB => by
  obtain ⟨hl, m, hf⟩ := cfld Tryz.underlying58 cc_unit h
  obtain ⟨u0, y0, c0, t0, b0⟩ := hf 0 _ rfl cc_str rfl (by omega)
  obtain ⟨u1, y1, c1, t1, -⟩ := hf 1 _ rfl cc_int rfl (by omega)
  obtain ⟨u2, y2, c2, t2, -⟩ := hf 2 _ rfl cc_int rfl (by omega)
  obtain ⟨u3, y3, c3, t3, -⟩ := hf 3 _ rfl cc_int rfl (by omega)
  obtain ⟨u4, y4, c4, t4, -⟩ := hf 4 _ rfl cc_bool rfl (by omega)
  obtain ⟨u5, y5, c5, t5, b5⟩ := hf 5 _ rfl cc_inss rfl (by omega)
  obtain ⟨u6, y6, c6, t6, b6⟩ := hf 6 _ rfl cc_vars rfl (by omega)
  obtain ⟨s, rfl, hs⟩ := cstr_open t0 (by omega)
  obtain ⟨n1, rfl, i1⟩ := cint_open Tryz.underlying3 t1
  obtain ⟨n2, rfl, i2⟩ := cint_open Tryz.underlying3 t2
  obtain ⟨n3, rfl, i3⟩ := cint_open Tryz.underlying3 t3
  obtain ⟨r, rfl⟩ := cbool_open t4
  obtain ⟨li, hi, gi, ei, -⟩ := row_openG Tryz.underlying55 cc_ins (by omega) ins_opens t5 (by omega)
  obtain ⟨lv, hv, gv, ev, -⟩ := row_openG Tryz.underlying56 cc_var (by omega) var_opens t6 (by omega)
  exact ⟨hl, ⟨s, n1, n2, n3, r, li, lv⟩, ⟨hs, ⟨i1, i2, i3⟩, ⟨ei, ev⟩, gi, gv⟩, fun b o hc => ⟨hc 0 _ c0, hc 1 _ c1, hc 2 _ c2, hc 3 _ c3, hc 4 _ c4, ⟨u5, hc 5 _ c5, hi⟩, u6, hc 6 _ c6, hv⟩⟩
set_option maxRecDepth 100000 in
/-- A code as an argument. -/
theorem code_arg {v : Value} {d : DataW H} {p : List MemPlace} {hd : Bool} (hv : ∃ cs : Array Value, v = .agg cs) (h : ∃ fuel, DataW.trod enc Tryz.prog w 0 (fun _ => true) hd fuel 26 v.cells.toList = some (d, p)) (hB : Rows.uptoBulk d ≤ 1048576) :
    ∃ (c : Cd) (bs bh bu : Option Addr) (ns cs nh ch nu cu : Nat), v = cdV (.slice bs ns cs) (.slice bh nh ch) (.slice bu nu cu) c.main ∧ CodeIn (fun q => q < w.heap.size) w c (.slice bs ns cs) (.slice bh nh ch) (.slice bu nu cu) ∧ SmallC c ∧ IntsC c ∧ ∀ u ∈ c.units, u.ins.length ≤ 1048576 ∧ u.vars.length ≤ 1048576 := by
  obtain ⟨cs, rfl⟩ := hv
  obtain ⟨fuel, hf0⟩ := h
  have hc0 : DataW.trod enc Tryz.prog w 0 (fun _ => true) hd fuel 26 cs.toList = some (d, p) := by simpa [Value.cells] using hf0
  obtain ⟨hl, m, hf⟩ := cfld Tryz.underlying26 cc_code hc0
  simp only at hf
  obtain ⟨u0, y0, c0, t0, b0⟩ := hf 0 _ rfl cc_strs rfl (by omega)
  obtain ⟨u1, y1, c1, t1, b1⟩ := hf 1 _ rfl cc_shapes rfl (by omega)
  obtain ⟨u2, y2, c2, t2, b2⟩ := hf 2 _ rfl cc_units rfl (by omega)
  obtain ⟨u3, y3, c3, t3, -⟩ := hf 3 _ rfl cc_int rfl (by omega)
  obtain ⟨l0, r0, g0, e0, p0, q0, z0, rfl⟩ := row_openG Tryz.underlying22 cc_str (Nat.le_refl _) str_opens t0 (by omega)
  obtain ⟨l1, r1, g1, e1, p1, q1, z1, rfl⟩ := row_openG Tryz.underlying23 cc_shape (by omega) shape_opens t1 (by omega)
  obtain ⟨l2, r2, g2, e2, p2, q2, z2, rfl⟩ := row_openG Tryz.underlying24 cc_unit (by omega) unit_opens t2 (by omega)
  obtain ⟨n3, rfl, i3⟩ := cint_open Tryz.underlying3 t3
  refine ⟨⟨l0, l1, l2, n3⟩, p0, p1, p2, q0, z0, q1, z1, q2, z2, ?_, ⟨r0, r1, r2⟩, ⟨g0, e0, e1, e2, fun x hx => (g1 x hx).1, fun x hx => (g1 x hx).2, fun x hx => (g2 x hx).1, fun x hx v hv => ((g2 x hx).2.2.2.2 v hv).1⟩, ⟨i3, fun x hx => (g2 x hx).2.1, fun x hx => (g2 x hx).2.2.2.1, fun x hx v hv => ((g2 x hx).2.2.2.2 v hv).2⟩, fun x hx => (g2 x hx).2.2.1⟩
  match cs, hl with
  | ⟨[a0, a1, a2, a3]⟩, _ =>
    simp only [List.getElem?_cons_zero, List.getElem?_cons_succ, Option.some.injEq] at c0 c1 c2 c3
    rw [c0, c1, c2, c3]
end

set_option maxRecDepth 100000 in
theorem cc_opty : Tryz.prog.cellsOf 129 = 4 := by kernel_rfl
set_option maxRecDepth 100000 in
theorem cc_operand : Tryz.prog.cellsOf 127 = 1 := by kernel_rfl
set_option maxRecDepth 100000 in
theorem op_laid {w : World} {m : Nat} {cs : List Value} {s : List UInt8} {a b c : Int} {p : List MemPlace}
    (h : DataW.trod (fun _ => ()) Tryz.prog w 0 (fun _ => true) false m 129 cs = some (.agg [.lit (.string s), .lit (.int .i64 a), .lit (.int .i64 b), .lit (.int .i64 c)], p)) : cs[0]? = some (.string (strB s)) ∧ cs[1]? = some (.int .i64 a) ∧ cs[2]? = some (.int .i64 b) ∧ cs[3]? = some (.int .i64 c) := by
  obtain ⟨f0, f1, f2, f3, hu, ⟨t0, t1, t2, t3⟩, ⟨o0, o1, o2, o3⟩⟩ : ∃ f0 f1 f2 f3 : Field, Tryz.prog.underlying 129 = some (.struct #[f0, f1, f2, f3]) ∧ (f0.type = 9 ∧ f1.type = 127 ∧ f2.type = 3 ∧ f3.type = 3) ∧ (f0.offset = 0 ∧ f1.offset = 1 ∧ f2.offset = 2 ∧ f3.offset = 3) :=
    ⟨_, _, _, _, Tryz.underlying129, ⟨rfl, rfl, rfl, rfl⟩, ⟨rfl, rfl, rfl, rfl⟩⟩
  obtain ⟨xs, n, -, ex, -, hl, hel⟩ := DataW.trod_struct hu h
  have e1 := DataW.agg.inj (Prod.mk.inj ex).1
  have h0 := hel 0 f0 rfl
  have h1 := hel 1 f1 rfl
  have h2 := hel 2 f2 rfl
  have h3 := hel 3 f3 rfl
  rw [t0, o0, cc_str] at h0
  rw [t1, o1, cc_operand] at h1
  rw [t2, o2, cc_int] at h2
  rw [t3, o3, cc_int] at h3
  match xs, hl with
  | [x0, x1, x2, x3], _ =>
    simp only [List.map_cons, List.map_nil, List.cons.injEq, and_true] at e1
    obtain ⟨z0, a0, b0, -⟩ := DataW.trod_string Tryz.underlying9 h0
    obtain ⟨z1, a1, b1, -⟩ := DataW.trod_int Tryz.underlying127 h1
    obtain ⟨z2, a2, b2, -⟩ := DataW.trod_int Tryz.underlying3 h2
    obtain ⟨z3, a3, b3, -⟩ := DataW.trod_int Tryz.underlying3 h3
    rw [b0, b1, b2, b3] at e1
    simp only [DataW.lit.injEq, Lit.int.injEq, Lit.string.injEq, true_and] at e1
    obtain ⟨q0, rfl, rfl, rfl⟩ := e1
    refine ⟨?_, cone_of a1, cone_of a2, cone_of a3⟩
    rw [cone_of a0, q0, strB_of]

theorem ops_data : (Rows.laid_hindcast_code_ops : DataW Unit) = .agg (opsL.map fun r => .agg [.lit (.string r.1), .lit (.int .i64 r.2.1), .lit (.int .i64 r.2.2.1), .lit (.int .i64 r.2.2.2)]) := rfl
set_option maxRecDepth 100000 in
theorem opT_laid {W : World} {laid : List (String × DataW Unit)} (h : laidMet Tryz.prog laid W) (hm : ("hindcast/code.ops", (Rows.laid_hindcast_code_ops : DataW Unit)) ∈ laid) : OpT W := by
  obtain ⟨ps, hv, -⟩ := h
  obtain ⟨g, t, cs, fuel, p, hg, ht, hvar, hd⟩ := laid_mem (n := "hindcast/code.ops") (d := Rows.laid_hindcast_code_ops) hv hm
  obtain rfl := Option.some.inj ((show Tryz.prog.globalNamed "hindcast/code.ops" = some 0 by kernel_rfl).symm.trans hg)
  obtain rfl := Option.some.inj ((show (Tryz.prog.globals[0]?).map (·.type) = some 130 by kernel_rfl).symm.trans ht)
  rw [ops_data] at hd
  obtain ⟨xs, m, -, ex, -, hl, hel⟩ := DataW.trod_array Tryz.underlying130 hd
  have e1 := DataW.agg.inj (Prod.mk.inj ex).1
  intro j hj
  have hj35 : j < 35 := hj
  have hxj : j < xs.length := by omega
  have h0 := hel j (by omega)
  rw [cc_opty, List.getElem?_eq_getElem hxj] at h0
  have e2 : (opsL.map fun r => (DataW.agg [.lit (.string r.1), .lit (.int .i64 r.2.1), .lit (.int .i64 r.2.2.1), .lit (.int .i64 r.2.2.2)] : DataW Unit))[j]? = (xs.map (·.1))[j]? := by rw [e1]
  rw [List.getElem?_map, List.getElem?_map, List.getElem?_eq_getElem hj, List.getElem?_eq_getElem hxj] at e2
  simp only [Option.map_some, Option.some.injEq] at e2
  obtain ⟨xd, xp, hxe⟩ : ∃ xd xp, xs[j] = (xd, xp) := ⟨_, _, rfl⟩
  rw [hxe] at h0 e2
  simp only at e2
  rw [← e2] at h0
  obtain ⟨q0, q1, q2, q3⟩ := op_laid h0
  simp only [List.getElem?_take, List.getElem?_drop] at q0 q1 q2 q3
  rw [World.var?_cell hg hvar (j * 4), World.var?_cell hg hvar (j * 4 + 1), World.var?_cell hg hvar (j * 4 + 2), World.var?_cell hg hvar (j * 4 + 3)]
  refine ⟨?_, ?_, ?_, ?_⟩
  · simpa using q0
  · simpa using q1
  · simpa using q2
  · simpa using q3
end Go.Proofs.YtechkkphbajmoaaGreatDoor
