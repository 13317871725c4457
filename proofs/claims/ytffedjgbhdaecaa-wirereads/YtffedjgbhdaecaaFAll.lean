/- frame.All: what is in all frames. -/
import Derived.Test.YtffedjgbhdaecaaFIter
import Derived.Sort.QuietIn
namespace Go.Proofs.Ytffedjgbhdaecaa
open Go.RowKit Go.Shelf

attribute [local go_sem] Oper.semAt_some

set_option maxRecDepth 100000 in
set_option maxHeartbeats 1000000 in
theorem frames_in (base : Option Addr) (len cap : Nat) (w : World) :
    CallsIn Fence.wide 4 Try.prog 40 #[.slice base len cap] w fun e w' => e = .returned (.func (.func 56) #[] #[.pointer (some ⟨w.heap.size, 0, none⟩)]) ∧ w' = w.alloc (.cells #[.slice base len cap] 22) := by
  refine callsIn_of_wp Try.func40 rfl trivial ?_ rfl
  simp only [Try.ntmps40, List.size_toArray, List.length_cons, List.length_nil, Nat.reduceAdd, Nat.reduceSub, Array.replicate_succ, Array.replicate_zero, List.push_toArray, List.append_toArray, List.nil_append, List.cons_append]
  gi_wp2
  go_ret
  exact ⟨rfl, rfl⟩

set_option maxRecDepth 100000 in
theorem info_row : (Try.prog.info? 22).map (fun i => (i.zero, i.size, i.bytes)) = some (some (.slice none 0 0), 1, 24) := by kernel_rfl

/-- What holds between two rounds of All. -/
def AllJ (n₀ : Nat) (w : World) (v : Value) (bs : List UInt8) (ob : Obj) (pre : List (Value × List UInt8)) (a : Nat) (W : World) : Prop :=
  (∃ r, Boxed W n₀ 42 r ∧ W.ownsRow (n₀ + 5) 22 1 r pre.length (pre.map (·.1))) ∧ Boxed W (n₀ + 1) 3 (.int .i64 a) ∧ Boxed W (n₀ + 2) 22 v ∧
  (∀ p ∈ pre, W.ownsRow n₀ 5 1 p.1 p.2.length (Lib.byteCells p.2)) ∧ Below n₀ w W ∧ W.heap[n₀ + 3]? = some (.deferred (some [])) ∧ W.heap[n₀ + 4]? = some ob ∧ framesTo bs 0 (pre.map (·.2)) a ∧ a ≤ bs.length

theorem own_block {w w' : World} {B e n : Nat} {v : Value} {xs : List Value} (h : w.ownsRow B e 1 v n xs) (hk : ∀ (k : Nat) (cur : Array Value), w.heap[k]? = some (Obj.cells cur e (0, 0)) → w'.heap[k]? = w.heap[k]?) : w'.ownsRow B e 1 v n xs := by
  obtain ⟨h1, h2⟩ := h
  refine ⟨h1, ?_⟩
  rcases h2 with h2 | ⟨g, cap, cur, hv, hg, hh, r⟩
  · exact .inl h2
  · exact .inr ⟨g, cap, cur, hv, hg, (hk g cur hh).trans hh, r⟩

theorem AllJ.turn {n₀ : Nat} {w : World} {v : Value} {bs : List UInt8} {ob ob' : Obj} {pre : List (Value × List UInt8)} {a : Nat} {W W' : World} (h : AllJ n₀ w v bs ob pre a W) (hob : ob.isCells = false)
    (hB : Below n₀ W W') (hk : ∀ b, b < W.heap.size → b ≠ n₀ + 4 → W'.heap[b]? = W.heap[b]?) (h4 : W'.heap[n₀ + 4]? = some ob') : AllJ n₀ w v bs ob' pre a W' := by
  obtain ⟨⟨r, hr1, hr2⟩, hp, hv, hps, hb, hd, hl, hf, ha⟩ := h
  have hcell : ∀ (k : Nat) (cur : Array Value) (e : TypeId), W.heap[k]? = some (Obj.cells cur e (0, 0)) → W'.heap[k]? = W.heap[k]? := fun k cur e hh => by
    refine hk k (Array.getElem?_eq_some_iff.1 hh).1 (fun e' => ?_)
    subst e'
    rw [hh] at hl
    cases hl
    cases hob
  refine ⟨⟨r, (hcell _ _ _ hr1).trans hr1, own_block hr2 (fun k cur hh => hcell _ _ _ hh)⟩, (hcell _ _ _ hp).trans hp, (hcell _ _ _ hv).trans hv, fun p hp' => own_block (hps p hp') (fun k cur hh => hcell _ _ _ hh), hb.trans hB, ?_, h4, hf, ha⟩
  exact (hk _ (Array.getElem?_eq_some_iff.1 hd).1 (by omega)).trans hd

theorem AllJ.grow {n₀ : Nat} {w : World} {v : Value} {bs : List UInt8} {ob : Obj} {pre : List (Value × List UInt8)} {a : Nat} {W W' : World} (h : AllJ n₀ w v bs ob pre a W) (hob : ob.isCells = false)
    (hB : Below W.heap.size W W') : AllJ n₀ w v bs ob pre a W' := by
  have hn : n₀ ≤ W.heap.size := by
    obtain ⟨-, -, -, -, -, hd, -⟩ := h
    have := (Array.getElem?_eq_some_iff.1 hd).1
    omega
  have hl : W.heap[n₀ + 4]? = some ob := h.2.2.2.2.2.2.1
  exact h.turn hob (hB.mono hn) (fun b hb _ => hB.block b hb) ((hB.block _ (Array.getElem?_eq_some_iff.1 hl).1).trans hl)

theorem framesTo_len {bs : List UInt8} {e : Nat} : ∀ {xs : List (List UInt8)} {a : Nat}, framesTo bs a xs e → a ≤ bs.length → a + 4 * xs.length ≤ e ∧ e ≤ bs.length
  | [], a, h, ha => by
    obtain rfl : e = a := h
    exact ⟨by simp, ha⟩
  | y :: ys, a, ⟨b, hb, h⟩, ha => by
    obtain ⟨h1, h2⟩ := getAt_bound hb ha
    obtain ⟨h3, h4⟩ := framesTo_len h h2
    rw [List.length_cons]
    omega

/-- A range over a function's value, in no round, under a fence without a bound. -/
theorem rangeFunc_at {n : Nat} {P : Program} {g : Operand} {ps : Array Tmp} {assign body : Code} {Q : Exit → Act → World → Prop} {a : Act} {w : World} {gf : Nat} {lb : Array Value}
    (hg : a.eval g = .func (.func gf) #[] lb) (eg : ∀ args w, (callFunc gf args).run P w = .ok (.enter gf args) w)
    (h : ∀ r0 : Loop, r0.state = .ready → r0.pending = none → r0.tmps = a.tmps → r0.params = ps → r0.assign = assign → r0.body = body →
      CallsIn Fence.wide (n - 1) P gf (#[.func (.yield (w.heap.size + 1)) #[] #[]] ++ lb) ((w.alloc (.deferred (some []))).alloc (.loop r0)) (rangePost Fence.wide n P (w.heap.size + 1) Q { a with defers := [{ target := .collected w.heap.size, args := #[] }] ++ a.defers })) :
    (Code.rangeFunc g ps assign body).wpIn Fence.wide n P Q a w :=
  wpIn_rangeFunc fun fn _ => ⟨_, _, _, { target := .fn (.func gf) lb, args := #[.func (.yield (w.heap.size + 1)) #[] #[]] }, _, gf, _, _, run_enterLoop_outer fn a.tmps ps assign body,
    by simp only [resolve, hg]; simp [go_sem]; rfl, fun _ _ => trivial, by simp [invoke, go_sem, eg]; rfl, (fun hd => by cases hd), h _ rfl rfl rfl rfl rfl rfl⟩

set_option maxRecDepth 100000 in
set_option maxHeartbeats 2000000 in
theorem all_any (v : Value) (bs : List UInt8) (w : World) (hv : bytesAt w v bs) (hl : bs.length ≤ 1000000000000) :
    Calls Try.prog 18 #[v] w fun e w' => ∃ (r : Value) (a : Nat) (ps : List (Value × List UInt8)), e = .returned (.tuple #[r, .int .i64 a]) ∧ framesTo bs 0 (ps.map (·.2)) a ∧ a ≤ bs.length ∧ (getAt bs a).2.2 ≠ 0 ∧
      w'.ownsRow w.heap.size 22 1 r ps.length (ps.map (·.1)) ∧ (∀ p : Value × List UInt8, p ∈ ps → w'.ownsRow w.heap.size 5 1 p.1 p.2.length (Lib.byteCells p.2)) ∧ Below w.heap.size w w' := by
  obtain ⟨i0, hi, hz0, hz1, hz2⟩ := info_parts info_row
  have HV : Hid (bytesAt w v bs) := hv
  obtain ⟨base, cap, rfl, hrest⟩ := hv
  clear hrest
  refine (callsIn_wide (n := 5)).1 ?_
  refine callsIn_of_wp_marks Try.func18 rfl trivial ?_ rfl
  simp only [Try.ntmps18, List.size_toArray, List.length_cons, List.length_nil, Nat.reduceAdd, Nat.reduceSub, Array.replicate_succ, Array.replicate_zero, List.push_toArray, List.append_toArray, List.nil_append, List.cons_append]
  gi_wp2_with (refine ⟨trivial, ?_⟩; gi_at_call 40; refine (frames_in _ _ _ _).mono ?_; rintro e w' ⟨rfl, rfl⟩)
  refine rangeFunc_at rfl (enters_of Try.func56 (by kernel_rfl) rfl) (fun r0 hst hpe htm hpa has hbo => ?_)
  have hsz : (((w.alloc (.cells #[.slice none 0 0] 42)).alloc (.cells #[.int .i64 0] 3)).alloc (.cells #[.slice base bs.length cap] 22)).heap.size = w.heap.size + 3 := by simp
  have hB0 : Below w.heap.size w (((w.alloc (.cells #[.slice none 0 0] 42)).alloc (.cells #[.int .i64 0] 3)).alloc (.cells #[.slice base bs.length cap] 22)) := (((Below.refl _ w).alloc (Nat.le_refl _) _).alloc (by simp) _).alloc (by simp; omega) _
  have b0 : Boxed (((w.alloc (.cells #[.slice none 0 0] 42)).alloc (.cells #[.int .i64 0] 3)).alloc (.cells #[.slice base bs.length cap] 22)) w.heap.size 42 (.slice none 0 0) := ((Boxed.new w _ _).alloc _).alloc _
  have b1 : Boxed (((w.alloc (.cells #[.slice none 0 0] 42)).alloc (.cells #[.int .i64 0] 3)).alloc (.cells #[.slice base bs.length cap] 22)) (w.heap.size + 1) 3 (.int .i64 0) := by
    have h := (Boxed.new (w.alloc (.cells #[.slice none 0 0] 42)) 3 (.int .i64 0)).alloc (.cells #[.slice base bs.length cap] 22)
    rw [World.size_alloc] at h
    exact h
  have b2 : Boxed (((w.alloc (.cells #[.slice none 0 0] 42)).alloc (.cells #[.int .i64 0] 3)).alloc (.cells #[.slice base bs.length cap] 22)) (w.heap.size + 2) 22 (.slice base bs.length cap) := by
    have h := Boxed.new ((w.alloc (.cells #[.slice none 0 0] 42)).alloc (.cells #[.int .i64 0] 3)) 22 (.slice base bs.length cap)
    rw [World.size_alloc, World.size_alloc] at h
    exact h
  generalize ((w.alloc (.cells #[.slice none 0 0] 42)).alloc (.cells #[.int .i64 0] 3)).alloc (.cells #[.slice base bs.length cap] 22) = W0 at hsz hB0 b0 b1 b2 ⊢
  obtain ⟨N, hN⟩ : ∃ N, N = w.heap.size := ⟨_, rfl⟩
  rw [hsz]
  rw [← hN] at hsz hB0 b0 b1 b2 htm ⊢
  have HN : Hid (N = w.heap.size) := hN
  clear hN
  have hd1 : ((W0.alloc (.deferred (some []))).alloc (.loop r0)).heap[N + 3]? = some (.deferred (some [])) := by
    rw [← hsz]
    exact (Below.heap_alloc _ _ _ (by simp)).trans (World.alloc_heap_new W0 _)
  have hl1 : ((W0.alloc (.deferred (some []))).alloc (.loop r0)).heap[N + 4]? = some (.loop r0) := by
    have := World.alloc_heap_new (W0.alloc (.deferred (some []))) (.loop r0)
    rwa [World.size_alloc, hsz] at this
  have hJ0 : AllJ N w (.slice base bs.length cap) bs (.loop r0) [] 0 ((W0.alloc (.deferred (some []))).alloc (.loop r0)) :=
    ⟨⟨.slice none 0 0, (b0.alloc _).alloc _, World.ownsRow_nil _ _ _ _⟩, (b1.alloc _).alloc _, (b2.alloc _).alloc _, (fun p hp => by cases hp), ((hB0.alloc (by omega) _).alloc (by simp; omega) _), hd1, hl1, rfl, Nat.zero_le _⟩
  refine (frames1_in (N + 4) (N + 2) N (.slice base bs.length cap) bs (by omega) (AllJ N w (.slice base bs.length cap) bs (.loop r0)) ?hJc ?hJg ?hY _ hJ0).mono ?_
  case hJc =>
    rintro pre a W ⟨-, -, hv, -, hb, hd, -⟩
    exact ⟨hv.cell, bytesAt_below HV.out hb (by rw [HN.out]; exact Nat.le_refl _), by have := (Array.getElem?_eq_some_iff.1 hd).1; omega⟩
  case hJg =>
    intro pre a W W' h hB
    exact h.grow rfl hB
  case hY =>
    intro pre a W1 x xs b hJ hown hG ha
    have hl2 : W1.heap[N + 4]? = some (.loop r0) := hJ.2.2.2.2.2.2.1
    have hsN : N ≤ W1.heap.size := by have := (Array.getElem?_eq_some_iff.1 hl2).1; omega
    refine ⟨_, _, _, _, run_yield hl2 (by rw [hpa]; rfl), roundIn_of_wpIn trivial ?_⟩
    rw [has, hbo, htm, hpa]
    have hJb : AllJ N w (.slice base bs.length cap) bs (.loop { r0 with state := .busy }) pre a (W1.putObj (N + 4) (.loop { r0 with state := .busy })) :=
      hJ.turn rfl ((Below.refl N W1).grown (grownBy_putObj' W1 _ _) hsN (fun k e => by cases e; omega)) (fun b _ hb => World.putObj_heap_other hb) (World.putObj_heap_same (Array.getElem?_eq_some_iff.1 hl2).1)
    have hown1 : (W1.putObj (N + 4) (.loop { r0 with state := .busy })).ownsRow N 5 1 x xs.length (Lib.byteCells xs) := ownsRow_putObj hown _ hl2 rfl
    have hbeg := run_beginRound (P := Try.prog) hl2 hst
    generalize W1.putObj (N + 4) (.loop { r0 with state := .busy }) = Wb at hJb hown1 hbeg
    simp only [List.zip_toArray, List.zip_cons_cons, List.zip_nil_right]
    obtain ⟨⟨r, hr1, hr2⟩, hp1, hv1, hps, hb, hd, hlb, hfr, hal⟩ := hJb
    obtain ⟨xb, xl, xc, rfl⟩ : ∃ xb xl xc, x = .slice xb xl xc := by
      rcases hown1.2 with ⟨rfl, _⟩ | ⟨g, c, cur, rfl, _⟩
      · exact ⟨_, _, _, rfl⟩
      · exact ⟨_, _, _, rfl⟩
    have hc0 := hr1.cell
    have hpl := framesTo_len hfr (Nat.zero_le _)
    rw [List.length_map] at hpl
    have hNb : N + 5 ≤ Wb.heap.size := by have := (Array.getElem?_eq_some_iff.1 hlb).1; omega
    gi_wp2_with (gi_at_builtin; refine wpListIn_append_own _ rfl _ _ 42 rfl (N + 5) 22 i0 (.slice none 0 0) 1 24 Try.underlying42 hi hz0 hz1 hz2 rfl (by decide) _ _ _ rfl (hr2.alloc _) ⟨Wb.heap.size, 0, none⟩ 1 1 [.slice xb xl xc] rfl rfl (cell_one_new _ _ _) (by simp [Value.oneCell']) (by unfold maxLen; omega) (by omega) (by simp; omega) ?_; intro v' w1 hown' hgrow _; obtain ⟨g', cap', rfl⟩ := ownsRow_succ hown'; obtain ⟨hv5, hv6, hr6, hk6, hb6⟩ := hr1.appended (by decide) (own_base hr2 (show N ≤ N + 5 by omega)) (show N ≤ Wb.heap.size by omega) (Nat.le_refl _) (own_base hown' (show N ≤ N + 5 by omega)) hgrow; have hc5 := hv5.cell; have hf5 := hv5.frozen; have hp6 := ((hp1.alloc _).kept hgrow (hp1.not_row (by decide) hr2)).kept (grownBy_setCell' w1 N (.slice (some ⟨g', 0, none⟩) (pre.length + 1) cap')) (by simp); have hc6 := hp6.cell; have hf6 := hp6.frozen)
    have hv7 : Boxed w1 (N + 2) 22 (.slice base bs.length cap) := (hv1.alloc _).kept hgrow (fun e => by have := (hr2.lt _ e.symm).1; omega)
    have hd7 : w1.heap[N + 3]? = some (.deferred (some [])) := (hgrow.block _ (by simp; omega) (fun e => by have := (hr2.lt _ e.symm).1; omega)).trans ((Below.heap_alloc _ _ _ (by omega)).trans hd)
    have hl7 : w1.heap[N + 4]? = some (.loop { r0 with state := .busy }) := (hgrow.block _ (by simp; omega) (fun e => by have := (hr2.lt _ e.symm).1; omega)).trans ((Below.heap_alloc _ _ _ (by omega)).trans hlb)
    have hr7 := hown'.kept (grownBy_setCell' w1 N (.slice (some ⟨g', 0, none⟩) (pre.length + 1) cap')) (.inr (hv5.not_row (by decide) hown').symm)
    have hs7 : ∀ p : Value × List UInt8, p ∈ pre ++ [(.slice xb xl xc, xs)] → Wb.ownsRow N 5 1 p.1 p.2.length (Lib.byteCells p.2) := fun p hp => by
      rcases List.mem_append.1 hp with h | h
      · exact hps p h
      · rw [List.mem_singleton] at h; subst h; exact hown1
    have hne : ∀ (k : Nat) (cur : Array Value), Wb.heap[k]? = some (Obj.cells cur 5 (0, 0)) → some k ≠ r.ownBlock := fun k cur hk e => by
      rcases hr2.2 with ⟨rfl, _⟩ | ⟨g, c, cu, rfl, _, hh, _⟩
      · simp [Value.ownBlock] at e
      · obtain rfl : k = g := by simpa [Value.ownBlock] using e
        rw [hk] at hh; simp at hh
    have hkk : ∀ (k : Nat) (cur : Array Value), Wb.heap[k]? = some (Obj.cells cur 5 (0, 0)) → k ≠ N ∧ k ≠ N + 1 := fun k cur hk => by
      refine ⟨fun e => ?_, fun e => ?_⟩
      · subst e; have h := hr1; unfold Boxed at h; rw [hk] at h; simp at h
      · subst e; have h := hp1; unfold Boxed at h; rw [hk] at h; simp at h
    have hJ7 : AllJ N w (.slice base bs.length cap) bs (.loop { r0 with state := .busy }) (pre ++ [(.slice xb xl xc, xs)]) b ((w1.setCell ⟨N, 0, none⟩ (.slice (some ⟨g', 0, none⟩) (pre.length + 1) cap')).setCell ⟨N + 1, 0, none⟩ (.int .i64 b)) := by
      refine ⟨⟨_, hv6.kept (grownBy_setCell' _ (N + 1) _) (by simp), ?_⟩, hp6.set _, ?_, fun p hp => ?_, ?_, ?_, ?_, ?_, ?_⟩
      · rw [List.length_append, List.map_append]
        exact hr7.kept (grownBy_setCell' _ (N + 1) _) (.inr (hp6.not_row (by decide) hr7).symm)
      · exact (hv7.kept (grownBy_setCell' w1 N _) (by simp)).kept (grownBy_setCell' _ (N + 1) _) (by simp)
      · refine own_block (hs7 p hp) (fun k cur hk => ?_)
        obtain ⟨k1, k2⟩ := hkk k cur hk
        have hlt := (Array.getElem?_eq_some_iff.1 hk).1
        rw [Below.heap_setCell _ _ _ _ (by simpa using k2), Below.heap_setCell _ _ _ _ (by simpa using k1), hgrow.block k (by simp; omega) (hne k cur hk), Below.heap_alloc _ _ _ hlt]
      · exact (hb.trans hb6).trans ((Below.refl N _).setCell (p := ⟨N + 1, 0, none⟩) (by simp) _)
      · rw [Below.heap_setCell _ _ _ _ (by simp), Below.heap_setCell _ _ _ _ (by simp)]; exact hd7
      · rw [Below.heap_setCell _ _ _ _ (by simp), Below.heap_setCell _ _ _ _ (by simp)]; exact hl7
      · rw [List.map_append]; exact framesTo_snoc hG hfr
      · exact (getAt_bound hG ha).2
    generalize (w1.setCell ⟨N, 0, none⟩ (.slice (some ⟨g', 0, none⟩) (pre.length + 1) cap')).setCell ⟨N + 1, 0, none⟩ (.int .i64 b) = W7 at hJ7 ⊢
    have hl8 : W7.heap[N + 4]? = some (.loop { r0 with state := .busy }) := hJ7.2.2.2.2.2.2.1
    have hs8 := (Array.getElem?_eq_some_iff.1 hl8).1
    refine ⟨_, _, run_endRound none hl8, rfl, ?_⟩
    have er0 : ({ { r0 with state := .busy } with state := if (none : Option Code).isNone then .ready else .done, pending := none } : Loop) = r0 := by
      cases r0; simp_all
    rw [er0]
    exact hJ7.turn rfl ((Below.refl N W7).grown (grownBy_putObj' W7 _ _) (by omega) (fun k e => by cases e; omega)) (fun b _ hb => World.putObj_heap_other hb) (World.putObj_heap_same hs8)
  rintro e W2 ⟨⟨u, rfl⟩, pre, a, her, hJ⟩
  have hl2 : W2.heap[N + 4]? = some (.loop r0) := hJ.2.2.2.2.2.2.1
  have hsN : N ≤ W2.heap.size := by have := (Array.getElem?_eq_some_iff.1 hl2).1; omega
  refine ⟨r0.pending, _, run_endLoop (P := Try.prog) hl2 (by rw [hst]; simp), ?_⟩
  have hJ4 : AllJ N w (.slice base bs.length cap) bs (.loop { r0 with state := .exhausted }) pre a (W2.putObj (N + 4) (.loop { r0 with state := .exhausted })) :=
    hJ.turn rfl ((Below.refl N W2).grown (grownBy_putObj' W2 _ _) hsN (fun k e => by cases e; omega)) (fun b _ hb => World.putObj_heap_other hb) (World.putObj_heap_same (Array.getElem?_eq_some_iff.1 hl2).1)
  generalize W2.putObj (N + 4) (.loop { r0 with state := .exhausted }) = W4 at hJ4 ⊢
  clear hJ hl2 hsN hJ0 hl1 hd1
  obtain ⟨⟨r, hr1, hr2⟩, hp1, hv1, hps, hb, hd, hl4, hfr, hal⟩ := hJ4
  have hc0 := hr1.cell
  have hc1 := hp1.cell
  rw [hpe]
  show Exit.inBlock 0 _ Exit.normal _ W4
  gi_wp2
  gi_quiet (fail)
  gi_wp2
  have hK : (W4.drewN nq).heap[N + 3]? = some (.deferred (some [])) := hd
  refine ⟨by simp, .inl ⟨_, _, rfl, run_takeDeferred hK, ?_⟩⟩
  have hbd : Below N w (W4.drewN nq) := hb.trans (⟨rfl, rfl, rfl, Nat.le_refl _, fun _ _ => rfl⟩ : Below N W4 (W4.drewN nq))
  have hNs : N ≤ (W4.drewN nq).heap.size := by have := (Array.getElem?_eq_some_iff.1 hK).1; omega
  rw [← HN.out]
  exact ⟨_, results_tmp2 rfl _ _ _, r, a, pre, rfl, hfr, hal, her, ownsRow_putObj (W := W4.drewN nq) (own_base hr2 (show N ≤ N + 5 by omega)) _ hK rfl, fun p hp => ownsRow_putObj (W := W4.drewN nq) (hps p hp) _ hK rfl,
    hbd.grown (grownBy_putObj' _ _ _) hNs (fun k e => by cases e; omega)⟩
end Go.Proofs.Ytffedjgbhdaecaa
