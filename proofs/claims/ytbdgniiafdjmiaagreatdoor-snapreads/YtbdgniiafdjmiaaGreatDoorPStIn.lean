/- A state that came in. -/
import Derived.Test.YtbdgniiafdjmiaaGreatDoorXTabs2
import Derived.Test.YtbdgniiafdjmiaaGreatDoorPModel
import Derived.Test.YtbdgniiafdjmiaaGreatDoorLRow
import Derived.ChangeSame
import Derived.Deep.DeepHandedRow
import Derived.Deep.Slices
import Derived.JoinedOf
import Derived.JoinedCond
import Derived.SizedLaws
import Derived.MakeChecks
import Derived.Lay
import Derived.LaidOnce
namespace Go.Proofs.YtbdgniiafdjmiaaGreatDoor
open Go.ChangeShapes Go.WideShapes Go.ChangeAt Go.RowKit

instance : Inhabited Vl := ⟨⟨0, 0, []⟩⟩
instance : Inhabited Cal := ⟨⟨0, 0, 0, [], []⟩⟩

theorem cone_of {v : Value} {cs : List Value} {i : Nat} (h : (cs.drop i).take 1 = [v]) : cs[i]? = some v := by
  have := congrArg (fun l => l[0]?) h
  simpa [List.getElem?_take, List.getElem?_drop] using this
theorem cadd_at0 (a : Addr) : a.add 0 = a := by unfold Addr.add; simp
theorem cspot_of {w : World} {a : Addr} {v : Value} (h : w.cell? a = some v) : a.spot = none := by
  unfold World.cell? at h
  split at h
  · cases hs : a.spot with
    | none => rfl
    | some x => simp [hs] at h
  · simp at h
theorem cbulk_mem {H : Type} {d : DataW H} : ∀ {l : List (DataW H)}, d ∈ l → Rows.uptoBulk d ≤ Rows.uptoBulkAll l
  | [], h => by cases h
  | x :: l, h => by
    simp only [Rows.uptoBulkAll]
    rcases List.mem_cons.1 h with rfl | h
    · omega
    · have := cbulk_mem h; omega
/-- The fields of a struct that can be read, a cell each. -/
theorem cfld {H : Type} {enc : TypeId × Value → H} {w : World} {fuel : Nat} {hd : Bool} {cs : List Value} {x : DataW H × List MemPlace} {t : TypeId} {fs : Array Field} {k : Nat} (hu : Tryz.prog.underlying t = some (.struct fs)) (hk : Tryz.prog.cellsOf t = k)
    (h : DataW.trod enc Tryz.prog w 0 (fun _ => true) hd fuel t cs = some x) :
    cs.length = k ∧ ∃ m, ∀ i f, fs[i]? = some f → Tryz.prog.cellsOf f.type = 1 → f.offset = i → i < k → ∃ u y, cs[i]? = some u ∧ DataW.trod enc Tryz.prog w 0 (fun _ => true) hd m f.type [u] = some y ∧ Rows.uptoBulk y.1 ≤ Rows.uptoBulk x.1 := by
  obtain ⟨xs, m, -, rfl, hlc, hl, hel⟩ := DataW.trod_struct hu h
  rw [hk] at hlc
  refine ⟨hlc, m, fun i f hf hc ho hi => ?_⟩
  have h0 := hel i f hf
  rw [hc, ho] at h0
  have hfi : i < fs.size := (Array.getElem?_eq_some_iff.1 hf).1
  have hxi : i < xs.length := by omega
  rw [List.getElem?_eq_getElem hxi] at h0
  obtain ⟨u, hu2⟩ : ∃ u, (cs.drop i).take 1 = [u] := by
    match hd9 : (cs.drop i).take 1, (show ((cs.drop i).take 1).length = 1 by rw [List.length_take, List.length_drop]; omega) with
    | [u], _ => exact ⟨u, rfl⟩
  rw [hu2] at h0
  refine ⟨u, xs[i], cone_of hu2, h0, ?_⟩
  have := cbulk_mem (List.mem_map.2 ⟨xs[i], List.getElem_mem hxi, rfl⟩ : xs[i].1 ∈ xs.map (·.1))
  simp only [Rows.uptoBulk]
  omega
/-- What opens a thing of a row. -/
def Opens {α : Type} {H : Type} (enc : TypeId × Value → H) (w : World) (e : TypeId) (k : Nat) (E : World → Nat → Nat → α → Prop) (G : α → Prop) : Prop :=
  ∀ hd fuel cs x, DataW.trod enc Tryz.prog w 0 (fun _ => true) hd fuel e cs = some x → Rows.uptoBulk x.1 ≤ 1048576 → cs.length = k ∧ ∃ a, G a ∧ ∀ b o, (∀ q z, cs[q]? = some z → w.cell? ⟨b, o + q, none⟩ = some z) → E w b o a
theorem row_openG {α : Type} [Inhabited α] {H : Type} {enc : TypeId × Value → H} {w : World} {e t : TypeId} {k : Nat} {E : World → Nat → Nat → α → Prop} {G : α → Prop} {fuel : Nat} {v : Value} {x : DataW H × List MemPlace} {hd : Bool} (hu : Tryz.prog.underlying t = some (.slice e)) (hk : Tryz.prog.cellsOf e = k) (hk1 : 1 ≤ k)
    (ho : Opens enc w e k E G) (h : DataW.trod enc Tryz.prog w 0 (fun _ => true) hd fuel t [v] = some x) (hB : Rows.uptoBulk x.1 ≤ 1048576) :
    ∃ l, rowIn (fun q => q < w.heap.size) w v k E l ∧ (∀ a ∈ l, G a) ∧ l.length ≤ 1048576 ∧ ∃ bb n cc, v = .slice bb n cc := by
  rcases Deep.open_slice hu h with ⟨hcs, hx⟩ | ⟨a, len, cap, m, n, D, Pl, hcs, -, hl, hm, hmm, hx, hr⟩
  · simp at hcs
    subst hcs
    exact ⟨[], ⟨none, 0, rfl, Nat.le_refl _, Nat.zero_le _, .inl rfl⟩, fun t h => (by cases h), Nat.zero_le _, _, _, _, rfl⟩
  · simp at hcs
    subst hcs
    have hln : len ≤ m := by split at hmm <;> omega
    have hbulk : Rows.uptoBulkAll ((List.range len).map D) ≤ 1048576 := by
      rw [hx] at hB
      simp only [Rows.uptoBulk] at hB
      omega
    have each : ∀ i, i < len → ∃ t : α, G t ∧ ∃ cs' : List Value, cs'.length = k ∧ (∀ q z, cs'[q]? = some z → w.cell? (a.add (i * k + q)) = some z) ∧ ∀ b o, (∀ q z, cs'[q]? = some z → w.cell? ⟨b, o + q, none⟩ = some z) → E w b o t := fun i hi => by
      obtain ⟨cs', h1, h2⟩ := hr i (by omega)
      rw [hk] at h1
      obtain ⟨-, hlen, hcell⟩ := World.cells?_some h1
      have hDi := cbulk_mem (List.mem_map.2 ⟨i, List.mem_range.2 hi, rfl⟩ : D i ∈ (List.range len).map D)
      obtain ⟨hcl, t, hg, hE⟩ := ho _ _ _ _ h2 (by simp only; omega)
      refine ⟨t, hg, cs', hcl, fun q z hz => ?_, hE⟩
      have hq : q < k := by rw [← hcl]; exact (List.getElem?_eq_some_iff.1 hz).1
      have := hcell q (by omega)
      rw [Deep.add_add] at this
      exact this.trans hz
    obtain ⟨f, hf⟩ := Deep.choose_lt each
    have hll : ((List.range len).map f).length = len := by simp
    refine ⟨(List.range len).map f, ⟨some a, cap, by rw [hll], by rw [hll]; exact hl, hm, ?_⟩, ?_, ?_, _, _, _, rfl⟩
    · rcases Nat.eq_zero_or_pos len with h0 | h0
      · subst h0; exact .inl rfl
      · right
        obtain ⟨-, cs0, hl0, hc0, -⟩ := hf 0 h0
        have hz0 := hc0 0 _ (List.getElem?_eq_getElem (show 0 < cs0.length by omega))
        rw [Nat.zero_mul, Nat.add_zero, cadd_at0] at hz0
        have hsp := cspot_of hz0
        have hbl := World.block_lt_of_cell? w _ hz0
        obtain ⟨b, o, sp⟩ := a
        simp only at hsp hbl
        subst hsp
        refine ⟨b, o, rfl, hbl, hbl, fun j hj => ?_⟩
        rw [hll] at hj
        obtain ⟨-, cs1, hl1, hc1, hE1⟩ := hf j hj
        simp only [List.getElem_map, List.getElem_range]
        refine hE1 b (o + j * k) fun q z hz => ?_
        have := hc1 q z hz
        rw [add_plain] at this
        rw [Nat.add_assoc]
        exact this
    · intro t ht
      obtain ⟨i, hi, rfl⟩ := List.mem_map.1 ht
      exact (hf i (List.mem_range.1 hi)).1
    · rw [hll]
      have h1 := bulk_len ((List.range len).map D)
      rw [List.length_map, List.length_range] at h1
      omega
set_option maxRecDepth 100000 in
theorem cc_str : Tryz.prog.cellsOf 9 = 1 := by kernel_rfl
set_option maxRecDepth 100000 in
theorem cc_int : Tryz.prog.cellsOf 3 = 1 := by kernel_rfl
set_option maxRecDepth 100000 in
theorem cc_status : Tryz.prog.cellsOf 22 = 1 := by kernel_rfl
set_option maxRecDepth 100000 in
theorem cc_fault : Tryz.prog.cellsOf 23 = 1 := by kernel_rfl
set_option maxRecDepth 100000 in
theorem cc_kind : Tryz.prog.cellsOf 52 = 1 := by kernel_rfl
set_option maxRecDepth 100000 in
theorem cc_vals : Tryz.prog.cellsOf 47 = 1 := by kernel_rfl
set_option maxRecDepth 100000 in
theorem cc_calls : Tryz.prog.cellsOf 24 = 1 := by kernel_rfl
set_option maxRecDepth 100000 in
theorem cc_objs : Tryz.prog.cellsOf 25 = 1 := by kernel_rfl
set_option maxRecDepth 100000 in
theorem cc_val : Tryz.prog.cellsOf 54 = 3 := by kernel_rfl
set_option maxRecDepth 100000 in
theorem cc_cal : Tryz.prog.cellsOf 49 = 5 := by kernel_rfl
set_option maxRecDepth 100000 in
theorem cc_obj : Tryz.prog.cellsOf 51 = 2 := by kernel_rfl
set_option maxRecDepth 100000 in
theorem cc_state : Tryz.prog.cellsOf 27 = 7 := by kernel_rfl

section
variable {H : Type} {enc : TypeId × Value → H} {w : World} {fuel : Nat} {hd : Bool} {u : Value} {y : DataW H × List MemPlace}
theorem pint_open {t : TypeId} (ht : Tryz.prog.underlying t = some (.int .i64)) (h : DataW.trod enc Tryz.prog w 0 (fun _ => true) hd fuel t [u] = some y) : ∃ n, u = .int .i64 n ∧ I64 n := by
  obtain ⟨n, a, -, c⟩ := DataW.trod_int ht h
  simp only [List.cons.injEq, and_true] at a
  exact ⟨n, a, wf_i64 c⟩
theorem pstr_open (h : DataW.trod enc Tryz.prog w 0 (fun _ => true) hd fuel 9 [u] = some y) (hB : Rows.uptoBulk y.1 ≤ 1048576) : ∃ s : List UInt8, u = .string (strB s) ∧ s.length ≤ 1048576 := by
  obtain ⟨s, a, b, -⟩ := DataW.trod_string Tryz.underlying9 h
  simp only [List.cons.injEq, and_true] at a
  refine ⟨s.data.toList, by rw [a, strB_of], ?_⟩
  rw [b] at hB
  simp only [Rows.uptoBulk] at hB
  omega
end

section
variable {H : Type} {enc : TypeId × Value → H} {w : World}
set_option maxRecDepth 100000 in
theorem val_opens : Opens enc w 54 3 valE (fun v => smallV v ∧ I64 v.k) := fun hd fuel cs x h hB => by
  obtain ⟨hl, m, hf⟩ := cfld Tryz.underlying54 cc_val h
  obtain ⟨u0, y0, c0, t0, -⟩ := hf 0 _ rfl cc_kind rfl (by omega)
  obtain ⟨u1, y1, c1, t1, -⟩ := hf 1 _ rfl cc_int rfl (by omega)
  obtain ⟨u2, y2, c2, t2, b2⟩ := hf 2 _ rfl cc_str rfl (by omega)
  obtain ⟨n0, rfl, i0⟩ := pint_open Tryz.underlying52 t0
  obtain ⟨n1, rfl, i1⟩ := pint_open Tryz.underlying3 t1
  obtain ⟨s, rfl, hs⟩ := pstr_open t2 (by omega)
  exact ⟨hl, ⟨n0, n1, s⟩, ⟨⟨i1, hs⟩, i0⟩, fun b o hc => ⟨hc 0 _ c0, hc 1 _ c1, hc 2 _ c2⟩⟩
set_option maxRecDepth 100000 in
theorem cal_opens : Opens enc w 49 5 (calE (fun q => q < w.heap.size)) smallC := fun hd fuel cs x h hB => by
  obtain ⟨hl, m, hf⟩ := cfld Tryz.underlying49 cc_cal h
  obtain ⟨u0, y0, c0, t0, -⟩ := hf 0 _ rfl cc_int rfl (by omega)
  obtain ⟨u1, y1, c1, t1, -⟩ := hf 1 _ rfl cc_int rfl (by omega)
  obtain ⟨u2, y2, c2, t2, -⟩ := hf 2 _ rfl cc_int rfl (by omega)
  obtain ⟨u3, y3, c3, t3, b3⟩ := hf 3 _ rfl cc_vals rfl (by omega)
  obtain ⟨u4, y4, c4, t4, b4⟩ := hf 4 _ rfl cc_vals rfl (by omega)
  obtain ⟨n0, rfl, i0⟩ := pint_open Tryz.underlying3 t0
  obtain ⟨n1, rfl, i1⟩ := pint_open Tryz.underlying3 t1
  obtain ⟨n2, rfl, i2⟩ := pint_open Tryz.underlying3 t2
  obtain ⟨l3, r3, g3, e3, -⟩ := row_openG Tryz.underlying47 cc_val (by omega) val_opens t3 (by omega)
  obtain ⟨l4, r4, g4, e4, -⟩ := row_openG Tryz.underlying47 cc_val (by omega) val_opens t4 (by omega)
  exact ⟨hl, ⟨n0, n1, n2, l3, l4⟩, ⟨⟨i0, i1, i2⟩, ⟨g3, e3⟩, g4, e4⟩, fun b o hc => ⟨hc 0 _ c0, hc 1 _ c1, hc 2 _ c2, ⟨u3, hc 3 _ c3, r3⟩, u4, hc 4 _ c4, r4⟩⟩
set_option maxRecDepth 100000 in
theorem obj_opens : Opens enc w 51 2 (objE (fun q => q < w.heap.size)) smallOb := fun hd fuel cs x h hB => by
  obtain ⟨hl, m, hf⟩ := cfld Tryz.underlying51 cc_obj h
  obtain ⟨u0, y0, c0, t0, b0⟩ := hf 0 _ rfl cc_str rfl (by omega)
  obtain ⟨u1, y1, c1, t1, b1⟩ := hf 1 _ rfl cc_vals rfl (by omega)
  obtain ⟨s, rfl, hs⟩ := pstr_open t0 (by omega)
  obtain ⟨l, r, g, e, -⟩ := row_openG Tryz.underlying47 cc_val (by omega) val_opens t1 (by omega)
  exact ⟨hl, (s, l), ⟨hs, g, e⟩, fun b o hc => ⟨hc 0 _ c0, u1, hc 1 _ c1, r⟩⟩
set_option maxRecDepth 100000 in
/-- A state as an argument. -/
theorem state_arg {v : Value} {d : DataW H} {p : List MemPlace} {hd : Bool} (hv : ∃ cs : Array Value, v = .agg cs) (h : ∃ fuel, DataW.trod enc Tryz.prog w 0 (fun _ => true) hd fuel 27 v.cells.toList = some (d, p)) (hB : Rows.uptoBulk d ≤ 1048576) :
    ∃ (s : Sn) (b1 b2 : Option Addr) (n1 c1 n2 c2 : Nat), v = snV s (.slice b1 n1 c1) (.slice b2 n2 c2) ∧ SnIn (fun q => q < w.heap.size) w s (.slice b1 n1 c1) (.slice b2 n2 c2) ∧ SmallS s := by
  obtain ⟨cs, rfl⟩ := hv
  obtain ⟨fuel, hf0⟩ := h
  have hc0 : DataW.trod enc Tryz.prog w 0 (fun _ => true) hd fuel 27 cs.toList = some (d, p) := by simpa [Value.cells] using hf0
  obtain ⟨hl, m, hf⟩ := cfld Tryz.underlying27 cc_state hc0
  simp only at hf
  obtain ⟨u0, y0, c0, t0, -⟩ := hf 0 _ rfl cc_int rfl (by omega)
  obtain ⟨u1, y1, c1, t1, -⟩ := hf 1 _ rfl cc_status rfl (by omega)
  obtain ⟨u2, y2, c2, t2, -⟩ := hf 2 _ rfl cc_fault rfl (by omega)
  obtain ⟨u3, y3, c3, t3, b3⟩ := hf 3 _ rfl cc_calls rfl (by omega)
  obtain ⟨u4, y4, c4, t4, b4⟩ := hf 4 _ rfl cc_objs rfl (by omega)
  obtain ⟨u5, y5, c5, t5, b5⟩ := hf 5 _ rfl cc_str rfl (by omega)
  obtain ⟨u6, y6, c6, t6, -⟩ := hf 6 _ rfl cc_int rfl (by omega)
  obtain ⟨n0, rfl, i0⟩ := pint_open Tryz.underlying3 t0
  obtain ⟨n1, rfl, i1⟩ := pint_open Tryz.underlying22 t1
  obtain ⟨n2, rfl, i2⟩ := pint_open Tryz.underlying23 t2
  obtain ⟨l3, r3, g3, e3, p3, q3, z3, rfl⟩ := row_openG Tryz.underlying24 cc_cal (by omega) cal_opens t3 (by omega)
  obtain ⟨l4, r4, g4, e4, p4, q4, z4, rfl⟩ := row_openG Tryz.underlying25 cc_obj (by omega) obj_opens t4 (by omega)
  obtain ⟨s5, rfl, i5⟩ := pstr_open t5 (by omega)
  obtain ⟨n6, rfl, i6⟩ := pint_open Tryz.underlying3 t6
  refine ⟨⟨n0, n1, n2, l3, l4, s5, n6⟩, p3, p4, q3, z3, q4, z4, ?_, ⟨r3, r4⟩, ⟨⟨i0, i1, i2, i6⟩, i5, ⟨g3, e3⟩, g4, e4⟩⟩
  match cs, hl with
  | ⟨[a0, a1, a2, a3, a4, a5, a6]⟩, _ =>
    simp only [List.getElem?_cons_zero, List.getElem?_cons_succ, Option.some.injEq] at c0 c1 c2 c3 c4 c5 c6
    rw [c0, c1, c2, c3, c4, c5, c6]
end
end Go.Proofs.YtbdgniiafdjmiaaGreatDoor
