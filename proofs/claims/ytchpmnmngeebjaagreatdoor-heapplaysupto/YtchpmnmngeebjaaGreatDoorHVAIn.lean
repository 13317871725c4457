import Derived.Test.YtchpmnmngeebjaaGreatDoorXTabs2
import Derived.Test.YtchpmnmngeebjaaGreatDoorHModel
import Derived.Test.YtchpmnmngeebjaaGreatDoorLRow
import Derived.ChangeSame
import Derived.Deep.DeepHandedRow
import Derived.Test.YtchpmnmngeebjaaGreatDoorHDone
import Derived.Deep.Slices
import Derived.JoinedOf
import Derived.JoinedCond
import Derived.SizedLaws
import Derived.MakeChecks
import Derived.Lay
import Derived.LaidOnce
/- A value that came in. -/
namespace Go.Proofs.YtchpmnmngeebjaaGreatDoor
open Go.ChangeShapes Go.WideShapes Go.ChangeAt Go.RowKit

set_option maxRecDepth 100000 in
theorem val_fields : ∃ f0 f1 f2 : Field, Tryz.prog.underlying 25 = some (.struct #[f0, f1, f2]) ∧ (f0.type = 23 ∧ f1.type = 3 ∧ f2.type = 9) ∧ (f0.offset = 0 ∧ f1.offset = 1 ∧ f2.offset = 2) :=
  ⟨_, _, _, Tryz.underlying25, ⟨rfl, rfl, rfl⟩, ⟨rfl, rfl, rfl⟩⟩
set_option maxRecDepth 100000 in
theorem cells_intH : Tryz.prog.cellsOf 3 = 1 := by kernel_rfl
set_option maxRecDepth 100000 in
theorem cells_vkind : Tryz.prog.cellsOf 23 = 1 := by kernel_rfl
set_option maxRecDepth 100000 in
theorem cells_val : Tryz.prog.cellsOf 25 = 3 := by kernel_rfl

theorem one_ofH {v : Value} {cs : List Value} {i : Nat} (h : (cs.drop i).take 1 = [v]) : cs[i]? = some v := by
  have := congrArg (fun l => l[0]?) h
  simpa [List.getElem?_take, List.getElem?_drop] using this

set_option maxRecDepth 100000 in
/-- The cells of a value that can be read. -/
theorem val_open {H : Type} {enc : TypeId × Value → H} {w : World} {base fuel : Nat} {sp : Nat → Bool} {held : Bool} {cs : List Value} {x : DataW H × List MemPlace}
    (h : DataW.trod enc Tryz.prog w base sp held fuel 25 cs = some x) :
    ∃ (v : Vl), cs = vlL v ∧ (-9223372036854775808 ≤ v.n ∧ v.n ≤ 9223372036854775807) ∧ x.1 = .agg [.lit (.int .i64 v.k), .lit (.int .i64 v.n), .lit (.string v.s)] := by
  obtain ⟨f0, f1, f2, hu, ⟨t0, t1, t2⟩, ⟨o0, o1, o2⟩⟩ := val_fields
  obtain ⟨xs, m, -, rfl, hlc, hl, hel⟩ := DataW.trod_struct hu h
  have h0 := hel 0 f0 rfl
  have h1 := hel 1 f1 rfl
  have h2 := hel 2 f2 rfl
  rw [t0, o0, cells_vkind] at h0
  rw [t1, o1, cells_intH] at h1
  rw [t2, o2, cells_str] at h2
  rw [cells_val] at hlc
  match xs, hl with
  | [x0, x1, x2], _ =>
    obtain ⟨k, a0, b0, -⟩ := DataW.trod_int Tryz.underlying23 h0
    obtain ⟨n, a1, b1, c1⟩ := DataW.trod_int Tryz.underlying3 h1
    obtain ⟨s, a2, b2, -⟩ := DataW.trod_string Tryz.underlying9 h2
    have q0 := one_ofH a0
    have q1 := one_ofH a1
    have q2 := one_ofH a2
    match cs, hlc with
    | [v0, v1, v2], _ =>
      simp only [List.getElem?_cons_zero, List.getElem?_cons_succ, Option.some.injEq] at q0 q1 q2
      refine ⟨⟨k, n, s.data.toList⟩, ?_, ?_, ?_⟩
      · rw [q0, q1, q2]; simp only [vlL, strB_of]
      · exact wf_i64 c1
      · simp [b0, b1, b2]

/-- A value as an argument. -/
theorem val_arg {H : Type} {enc : TypeId × Value → H} {w : World} {b0 : Nat} {sp : Nat → Bool} {held : Bool} {v : Value} {d : DataW H} {p : List MemPlace} (hv : ∃ cs : Array Value, v = .agg cs) (h : ∃ fuel, DataW.trod enc Tryz.prog w b0 sp held fuel 25 v.cells.toList = some (d, p)) :
    ∃ x : Vl, v = vlV x ∧ (-9223372036854775808 ≤ x.n ∧ x.n ≤ 9223372036854775807) ∧ d = .agg [.lit (.int .i64 x.k), .lit (.int .i64 x.n), .lit (.string x.s)] := by
  obtain ⟨cs, rfl⟩ := hv
  obtain ⟨fuel, hf⟩ := h
  obtain ⟨x, hcs, hn, hd⟩ := val_open hf
  refine ⟨x, ?_, hn, hd⟩
  have e : cs.toList = vlL x := by simpa [Value.cells] using hcs
  cases cs
  simp only [vlL] at e
  rw [e]
end Go.Proofs.YtchpmnmngeebjaaGreatDoor
/- Values and calls that came in, in rows. -/
namespace Go.Proofs.YtchpmnmngeebjaaGreatDoor
open Go.ChangeShapes Go.WideShapes Go.ChangeAt Go.RowKit

instance : Inhabited Vl := ⟨⟨0, 0, []⟩⟩
instance : Inhabited Ac := ⟨⟨0, [], [], ⟨0, 0, []⟩, ⟨0, 0, []⟩, 0⟩⟩

theorem add_at0H (a : Addr) : a.add 0 = a := by unfold Addr.add; simp
theorem spot_ofH {w : World} {a : Addr} {v : Value} (h : w.cell? a = some v) : a.spot = none := by
  unfold World.cell? at h
  split at h
  · cases hs : a.spot with
    | none => rfl
    | some x => simp [hs] at h
  · simp at h
theorem bulk_memH {H : Type} {d : DataW H} : ∀ {l : List (DataW H)}, d ∈ l → Rows.uptoBulk d ≤ Rows.uptoBulkAll l
  | [], h => by cases h
  | x :: l, h => by
    simp only [Rows.uptoBulkAll]
    rcases List.mem_cons.1 h with rfl | h
    · omega
    · have := bulk_memH h; omega

theorem vlC_get {l : List Vl} {j : Nat} {u : Value} (h : (vlC l)[j]? = some u) : ∃ i, ∃ hi : i < l.length, (j = i * 3 ∧ u = .int .i64 (l[i]).k) ∨ (j = i * 3 + 1 ∧ u = .int .i64 (l[i]).n) ∨ (j = i * 3 + 2 ∧ u = .string (strB (l[i]).s)) := by
  have hj : j < (vlC l).length := (List.getElem?_eq_some_iff.1 h).1
  rw [vlC_len] at hj
  have hi : j / 3 < l.length := by omega
  obtain ⟨q0, q1, q2⟩ := vlC_at l (j / 3) hi
  refine ⟨j / 3, hi, ?_⟩
  have hr : j % 3 = 0 ∨ j % 3 = 1 ∨ j % 3 = 2 := by omega
  rcases hr with hr | hr | hr
  · have e : j / 3 * 3 = j := by omega
    rw [e, h] at q0
    exact .inl ⟨e.symm, Option.some.inj q0⟩
  · have e : j / 3 * 3 + 1 = j := by omega
    rw [e, h] at q1
    exact .inr (.inl ⟨e.symm, Option.some.inj q1⟩)
  · have e : j / 3 * 3 + 2 = j := by omega
    rw [e, h] at q2
    exact .inr (.inr ⟨e.symm, Option.some.inj q2⟩)

/-- What is read as a row of values. -/
structure ValsRead {H : Type} (w : World) (v : Value) (l : List Vl) (d : DataW H) : Prop where
  vals : valsIn (fun _ => True) w v l
  form : v = .slice none 0 0 ∨ ∃ ad n c, v = .slice (some ad) n c
  each : ∀ y ∈ l, (-9223372036854775808 ≤ y.n ∧ y.n ≤ 9223372036854775807) ∧ y.s.length ≤ Rows.uptoBulk d
  len : l.length ≤ Rows.uptoBulk d

set_option maxRecDepth 100000 in
theorem vals_open {H : Type} {enc : TypeId × Value → H} {w : World} {fuel : Nat} {v : Value} {x : DataW H × List MemPlace} {hd : Bool}
    (h : DataW.trod enc Tryz.prog w 0 (fun _ => true) hd fuel 33 [v] = some x) : ∃ l : List Vl, ValsRead w v l x.1 := by
  rcases Deep.open_slice Tryz.underlying33 h with ⟨hcs, hx⟩ | ⟨a, len, cap, m, n, D, Pl, hcs, -, hl, hm, hmm, hx, hr⟩
  · simp at hcs
    subst hcs
    exact ⟨[], ⟨none, 0, rfl, Nat.le_refl _, Nat.zero_le _, .inl rfl⟩, .inl rfl, fun t h => (by cases h), Nat.zero_le _⟩
  · simp at hcs
    subst hcs
    have hln : len ≤ m := by split at hmm <;> omega
    have each : ∀ i, i < len → ∃ t : Vl, (w.cell? (a.add (i * 3)) = some (.int .i64 t.k) ∧ w.cell? (a.add (i * 3 + 1)) = some (.int .i64 t.n) ∧ w.cell? (a.add (i * 3 + 2)) = some (.string (strB t.s))) ∧ (-9223372036854775808 ≤ t.n ∧ t.n ≤ 9223372036854775807) ∧ D i = .agg [.lit (.int .i64 t.k), .lit (.int .i64 t.n), .lit (.string t.s)] := fun i hi => by
      obtain ⟨cs', h1, h2⟩ := hr i (by omega)
      rw [cells_val] at h1
      obtain ⟨-, hlen, hcell⟩ := World.cells?_some h1
      obtain ⟨t, rfl, hn, hD⟩ := val_open h2
      have e0 := hcell 0 (by omega)
      have e1 := hcell 1 (by omega)
      have e2 := hcell 2 (by omega)
      rw [Deep.add_add] at e0 e1 e2
      exact ⟨t, ⟨by simpa [vlL] using e0, by simpa [vlL] using e1, by simpa [vlL] using e2⟩, hn, hD⟩
    obtain ⟨f, hf⟩ := Deep.choose_lt each
    have hll : ((List.range len).map f).length = len := by simp
    have hbulk : Rows.uptoBulkAll ((List.range len).map D) ≤ Rows.uptoBulk x.1 := by
      rw [hx]
      simp only [Rows.uptoBulk]
      omega
    refine ⟨(List.range len).map f, ⟨some a, cap, by rw [hll], by rw [hll]; exact hl, hm, ?_⟩, .inr ⟨a, len, cap, rfl⟩, ?_, ?_⟩
    · rcases Nat.eq_zero_or_pos len with h0 | h0
      · subst h0; exact .inl rfl
      · right
        have hc0 := (hf 0 h0).1.1
        rw [Nat.zero_mul, add_at0H] at hc0
        have hsp := spot_ofH hc0
        have hbl := World.block_lt_of_cell? w _ hc0
        obtain ⟨b, o, sp⟩ := a
        simp only at hsp
        subst hsp
        refine ⟨b, o, rfl, trivial, hbl, fun j u hj => ?_⟩
        obtain ⟨i, hi, hcase⟩ := vlC_get hj
        rw [hll] at hi
        obtain ⟨c0, c1, c2⟩ := (hf i hi).1
        rw [add_plain] at c0 c1 c2
        simp only [List.getElem_map, List.getElem_range] at hcase
        rcases hcase with ⟨rfl, rfl⟩ | ⟨rfl, rfl⟩ | ⟨rfl, rfl⟩
        · exact c0
        · exact c1
        · exact c2
    · intro t ht
      obtain ⟨i, hi, rfl⟩ := List.mem_map.1 ht
      have hi' := List.mem_range.1 hi
      refine ⟨(hf i hi').2.1, ?_⟩
      have h1 := bulk_memH (List.mem_map.2 ⟨i, hi, rfl⟩ : D i ∈ (List.range len).map D)
      rw [(hf i hi').2.2] at h1
      simp only [Rows.uptoBulk, Rows.uptoBulkAll] at h1
      omega
    · rw [hll]
      have h1 := bulk_len ((List.range len).map D)
      rw [List.length_map, List.length_range] at h1
      omega

set_option maxRecDepth 100000 in
theorem act_fields : ∃ f0 f1 f2 f3 f4 f5 : Field, Tryz.prog.underlying 35 = some (.struct #[f0, f1, f2, f3, f4, f5]) ∧ (f0.type = 3 ∧ f1.type = 9 ∧ f2.type = 33 ∧ f3.type = 25 ∧ f4.type = 25 ∧ f5.type = 3) ∧ (f0.offset = 0 ∧ f1.offset = 1 ∧ f2.offset = 2 ∧ f3.offset = 3 ∧ f4.offset = 6 ∧ f5.offset = 9) :=
  ⟨_, _, _, _, _, _, Tryz.underlying35, ⟨rfl, rfl, rfl, rfl, rfl, rfl⟩, ⟨rfl, rfl, rfl, rfl, rfl, rfl⟩⟩
set_option maxRecDepth 100000 in
theorem cells_act : Tryz.prog.cellsOf 35 = 10 := by kernel_rfl
set_option maxRecDepth 100000 in
theorem cells_vals1 : Tryz.prog.cellsOf 33 = 1 := by kernel_rfl

theorem three_ofH {v : Vl} {cs : List Value} {i : Nat} (h : (cs.drop i).take 3 = vlL v) : cs[i]? = some (.int .i64 v.k) ∧ cs[i + 1]? = some (.int .i64 v.n) ∧ cs[i + 2]? = some (.string (strB v.s)) := by
  have e := fun (j : Nat) => congrArg (fun (l : List Value) => l[j]?) h
  have e0 := e 0
  have e1 := e 1
  have e2 := e 2
  simp [List.getElem?_drop, vlL] at e0 e1 e2
  exact ⟨e0, e1, e2⟩

set_option maxRecDepth 100000 in
/-- The cells of a call that can be read. -/
theorem act_open {H : Type} {enc : TypeId × Value → H} {w : World} {fuel : Nat} {hd : Bool} {cs : List Value} {x : DataW H × List MemPlace}
    (h : DataW.trod enc Tryz.prog w 0 (fun _ => true) hd fuel 35 cs = some x) :
    ∃ (a : Ac) (u : Value), cs.length = 10 ∧ cs[0]? = some (.int .i64 a.kind) ∧ cs[1]? = some (.string (strB a.tag)) ∧ cs[2]? = some u ∧ ValsRead w u a.cells x.1 ∧ (cs[3]? = some (.int .i64 a.v.k) ∧ cs[4]? = some (.int .i64 a.v.n) ∧ cs[5]? = some (.string (strB a.v.s))) ∧ (cs[6]? = some (.int .i64 a.x.k) ∧ cs[7]? = some (.int .i64 a.x.n) ∧ cs[8]? = some (.string (strB a.x.s))) ∧ cs[9]? = some (.int .i64 a.i) ∧
      a.tag.length ≤ Rows.uptoBulk x.1 ∧ ((-9223372036854775808 ≤ a.v.n ∧ a.v.n ≤ 9223372036854775807) ∧ a.v.s.length ≤ Rows.uptoBulk x.1) ∧ ((-9223372036854775808 ≤ a.x.n ∧ a.x.n ≤ 9223372036854775807) ∧ a.x.s.length ≤ Rows.uptoBulk x.1) ∧ (-9223372036854775808 ≤ a.i ∧ a.i ≤ 9223372036854775807) := by
  obtain ⟨f0, f1, f2, f3, f4, f5, hu, ⟨t0, t1, t2, t3, t4, t5⟩, ⟨o0, o1, o2, o3, o4, o5⟩⟩ := act_fields
  obtain ⟨xs, m, -, rfl, hlc, hl, hel⟩ := DataW.trod_struct hu h
  have h0 := hel 0 f0 rfl
  have h1 := hel 1 f1 rfl
  have h2 := hel 2 f2 rfl
  have h3 := hel 3 f3 rfl
  have h4 := hel 4 f4 rfl
  have h5 := hel 5 f5 rfl
  rw [t0, o0, cells_intH] at h0
  rw [t1, o1, cells_str] at h1
  rw [t2, o2, cells_vals1] at h2
  rw [t3, o3, cells_val] at h3
  rw [t4, o4, cells_val] at h4
  rw [t5, o5, cells_intH] at h5
  rw [cells_act] at hlc
  match xs, hl with
  | [x0, x1, x2, x3, x4, x5], _ =>
    simp only [List.getElem?_cons_zero, List.getElem?_cons_succ] at h0 h1 h2 h3 h4 h5
    obtain ⟨k, a0, b0, -⟩ := DataW.trod_int Tryz.underlying3 h0
    obtain ⟨s, a1, b1, -⟩ := DataW.trod_string Tryz.underlying9 h1
    obtain ⟨u, hu2⟩ : ∃ u, (cs.drop 2).take 1 = [u] := by
      match hd9 : (cs.drop 2).take 1, (show ((cs.drop 2).take 1).length = 1 by rw [List.length_take, List.length_drop]; omega) with
      | [u], _ => exact ⟨u, rfl⟩
    rw [hu2] at h2
    obtain ⟨l, hv⟩ := vals_open h2
    obtain ⟨v3, a3, n3, b3⟩ := val_open h3
    obtain ⟨v4, a4, n4, b4⟩ := val_open h4
    obtain ⟨i5, a5, b5, c5⟩ := DataW.trod_int Tryz.underlying3 h5
    have hb : ∀ y ∈ [x0, x1, x2, x3, x4, x5], Rows.uptoBulk y.1 ≤ Rows.uptoBulk (DataW.agg ([x0, x1, x2, x3, x4, x5].map (·.1))) := fun y hy => by
      have := bulk_memH (List.mem_map.2 ⟨y, hy, rfl⟩ : y.1 ∈ [x0, x1, x2, x3, x4, x5].map (·.1))
      simp only [Rows.uptoBulk]
      omega
    obtain ⟨BB, hBB⟩ : ∃ BB, BB = Rows.uptoBulk (DataW.agg ([x0, x1, x2, x3, x4, x5].map (·.1))) := ⟨_, rfl⟩
    rw [← hBB] at hb ⊢
    have g1 := hb x1 (by simp)
    have g2 := hb x2 (by simp)
    have g3 := hb x3 (by simp)
    have g4 := hb x4 (by simp)
    have y1 : s.data.toList.length ≤ Rows.uptoBulk x1.1 := by rw [b1]; simp only [Rows.uptoBulk]; omega
    have y3 : v3.s.length ≤ Rows.uptoBulk x3.1 := by rw [b3]; simp only [Rows.uptoBulk, Rows.uptoBulkAll]; omega
    have y4 : v4.s.length ≤ Rows.uptoBulk x4.1 := by rw [b4]; simp only [Rows.uptoBulk, Rows.uptoBulkAll]; omega
    refine ⟨⟨k, s.data.toList, l, v3, v4, i5⟩, u, hlc, one_ofH a0, ?_, one_ofH hu2, ⟨hv.vals, hv.form, fun y hy => ⟨(hv.each y hy).1, ?_⟩, ?_⟩, three_ofH a3, three_ofH a4, one_ofH a5, ?_, ⟨n3, ?_⟩, ⟨n4, ?_⟩, wf_i64 c5⟩
    · have := one_ofH a1
      simp only [strB_of]
      exact this
    · have := (hv.each y hy).2; simp only at this ⊢; rw [← hBB]; omega
    · have := hv.len; simp only at this ⊢; rw [← hBB]; omega
    · simp only; omega
    · simp only; omega
    · simp only; omega

set_option maxRecDepth 100000 in
theorem acts_open {H : Type} {enc : TypeId × Value → H} {w : World} {fuel : Nat} {v : Value} {x : DataW H × List MemPlace} {hd : Bool}
    (h : DataW.trod enc Tryz.prog w 0 (fun _ => true) hd fuel 22 [v] = some x) (hB : Rows.uptoBulk x.1 ≤ 1048576) : ∃ base ts cap, v = .slice base ts.length cap ∧ actsIn w base ts ∧ (∀ t ∈ ts, smallA t) ∧ ts.length ≤ 1048576 := by
  rcases Deep.open_slice Tryz.underlying22 h with ⟨hcs, hx⟩ | ⟨a, len, cap, m, n, D, Pl, hcs, -, hl, hm, hmm, hx, hr⟩
  · simp at hcs
    subst hcs
    exact ⟨none, [], 0, rfl, .inl rfl, fun t h => (by cases h), Nat.zero_le _⟩
  · simp at hcs
    subst hcs
    have hln : len ≤ m := by split at hmm <;> omega
    have hbulk : Rows.uptoBulkAll ((List.range len).map D) ≤ 1048576 := by
      rw [hx] at hB
      simp only [Rows.uptoBulk] at hB
      omega
    have each : ∀ i, i < len → ∃ t : Ac, (∃ u, (u = .slice none 0 0 ∨ ∃ ad n c, u = .slice (some ad) n c) ∧ w.cell? (a.add (i * 10)) = some (.int .i64 t.kind) ∧ w.cell? (a.add (i * 10 + 1)) = some (.string (strB t.tag)) ∧ w.cell? (a.add (i * 10 + 2)) = some u ∧ valsIn (fun _ => True) w u t.cells ∧
        (w.cell? (a.add (i * 10 + 3)) = some (.int .i64 t.v.k) ∧ w.cell? (a.add (i * 10 + 4)) = some (.int .i64 t.v.n) ∧ w.cell? (a.add (i * 10 + 5)) = some (.string (strB t.v.s))) ∧ (w.cell? (a.add (i * 10 + 6)) = some (.int .i64 t.x.k) ∧ w.cell? (a.add (i * 10 + 7)) = some (.int .i64 t.x.n) ∧ w.cell? (a.add (i * 10 + 8)) = some (.string (strB t.x.s))) ∧ w.cell? (a.add (i * 10 + 9)) = some (.int .i64 t.i)) ∧ smallA t := fun i hi => by
      obtain ⟨cs', h1, h2⟩ := hr i (by omega)
      rw [cells_act] at h1
      obtain ⟨-, hlen, hcell⟩ := World.cells?_some h1
      obtain ⟨t, u, hcl, q0, q1, q2, hv, ⟨q3, q4, q5⟩, ⟨q6, q7, q8⟩, q9, b1, b3, b4, b5⟩ := act_open h2
      have hDi := bulk_memH (List.mem_map.2 ⟨i, List.mem_range.2 hi, rfl⟩ : D i ∈ (List.range len).map D)
      have key : ∀ q z, q < 10 → cs'[q]? = some z → w.cell? (a.add (i * 10 + q)) = some z := fun q z hq hz => by
        have := hcell q (by omega)
        rw [Deep.add_add] at this
        exact this.trans hz
      have k0 := key 0 _ (by omega) q0
      rw [Nat.add_zero] at k0
      simp only at b1 b3 b4
      refine ⟨t, ⟨u, hv.form, k0, key 1 _ (by omega) q1, key 2 _ (by omega) q2, hv.vals, ⟨key 3 _ (by omega) q3, key 4 _ (by omega) q4, key 5 _ (by omega) q5⟩, ⟨key 6 _ (by omega) q6, key 7 _ (by omega) q7, key 8 _ (by omega) q8⟩, key 9 _ (by omega) q9⟩, ⟨?_, fun y hy => ⟨(hv.each y hy).1, ?_⟩⟩, ?_, ⟨b3.1, ?_⟩, ⟨b4.1, ?_⟩, b5⟩
      · simp only; omega
      · have := (hv.each y hy).2; simp only at this; omega
      · have := hv.len; simp only at this; omega
      · omega
      · omega
    obtain ⟨f, hf⟩ := Deep.choose_lt each
    have hll : ((List.range len).map f).length = len := by simp
    refine ⟨some a, (List.range len).map f, cap, by rw [hll], ?_, ?_, ?_⟩
    · rcases Nat.eq_zero_or_pos len with h0 | h0
      · subst h0; exact .inl rfl
      · right
        obtain ⟨u0, -, hc0, -⟩ := (hf 0 h0).1
        rw [Nat.zero_mul, add_at0H] at hc0
        have hsp := spot_ofH hc0
        have hbl := World.block_lt_of_cell? w _ hc0
        obtain ⟨b, o, sp⟩ := a
        simp only at hsp
        subst hsp
        refine ⟨b, o, rfl, hbl, fun j hj => ?_⟩
        rw [hll] at hj
        obtain ⟨u, hu, c0, c1, c2, hv, ⟨c3, c4, c5⟩, ⟨c6, c7, c8⟩, c9⟩ := (hf j hj).1
        rw [add_plain] at c0 c1 c2 c3 c4 c5 c6 c7 c8 c9
        simp only [List.getElem_map, List.getElem_range, Nat.add_assoc]
        exact ⟨u, hu, c0, c1, c2, hv, ⟨c3, c4, c5⟩, ⟨c6, c7, c8⟩, c9⟩
    · intro t ht
      obtain ⟨i, hi, rfl⟩ := List.mem_map.1 ht
      exact (hf i (List.mem_range.1 hi)).2
    · rw [hll]
      have h1 := bulk_len ((List.range len).map D)
      rw [List.length_map, List.length_range] at h1
      omega
end Go.Proofs.YtchpmnmngeebjaaGreatDoor
