/- The document's own functions of layer 3: a sign at a place; a token. -/
import Derived.Test.YtjhfkiighphepaaDoorXRef5
import Derived.BigQuiet
namespace Go.Proofs.YtjhfkiighphepaaDoor
open Go.RowKit Go.Shelf

theorem below_drewN {n : Nat} {w w' : World} (h : Below n w w') (k : Nat) : Below n w (w'.drewN k) :=
  h.trans (⟨rfl, rfl, rfl, Nat.le_refl _, fun _ _ => rfl⟩ : Below n w' (w'.drewN k))

theorem pre_take {r x : List UInt8} : Lib.hasPrefix r x = decide (r.take x.length = x) := by
  unfold Lib.hasPrefix
  rw [Bool.eq_iff_iff, List.isPrefixOf_iff_prefix, List.prefix_iff_eq_take, decide_eq_true_eq]
  exact eq_comm

set_option maxRecDepth 100000 in
set_option maxHeartbeats 4000000 in
theorem refToken_sign (l : List UInt8) (a : Nat) (w : World) (hl : l.length ≤ 5000) (ha : a < l.length) (hk0 : letterN (l[a]).toNat = false) (hk : digitN (l[a]).toNat = false) (h34 : (l[a]).toNat ≠ 34) :
    Calls Tryd.prog 17 #[.string (strB l), .int .i64 (a : Nat)] w fun e w' => (∃ v, e = .returned v ∧ rtR a (signT (l.drop a)) v) ∧ Below w.heap.size w w' := by
  have hsz : (strB l).size = l.length := rfl
  have hA : Below w.heap.size w (w.alloc tokZ) := (Below.refl w.heap.size w).alloc (Nat.le_refl _) _
  have HA : Hid (Below w.heap.size w (w.alloc tokZ)) := hA
  have hidx := fun wx => str_at wx l a ha
  obtain ⟨n, hn⟩ : ∃ n, n = (l[a]).toNat := ⟨_, rfl⟩
  rw [← hn] at hidx hk hk0 h34
  have hn256 : n < 256 := by rw [hn]; exact UInt8.toNat_lt _
  have c1 := refLetter_any n (w.alloc tokZ) hn256
  have c0 := refDigit_any n (w.alloc tokZ) hn256
  have cs := refSigns_any (w.alloc tokZ)
  rw [World.size_alloc] at cs
  rw [hk0] at c1
  rw [hk] at c0
  have h34b : ((n : Int) == 34) = false := by rw [beq_eq_false_iff_ne]; omega
  clear hA hn
  go_enter Tryd.func17, Tryd.ntmps17
  go_wp2_with fail
  refine c1.mono ?_
  clear c1
  rintro e w1 ⟨rfl, rfl⟩
  go_wp2_with fail
  refine c0.mono ?_
  clear c0
  rintro e w1 ⟨rfl, rfl⟩
  go_wp2_with fail
  refine cs.mono ?_
  clear cs
  rintro e w2 ⟨rfl, hw2⟩
  have hcell : ∀ i (h : i < refSigns.length), w2.cell? ⟨w.heap.size + 1, i, none⟩ = some (.string (strB (refSigns[i]'h))) := fun i h => by
    have hh := World.alloc_heap_new (w.alloc tokZ) (.cells (refSigns.map fun x => Value.string (strB x)).toArray 9)
    rw [World.size_alloc] at hh
    rw [hw2, cell_of_row _ _ _ _ _ _ hh]
    simp [h]
  have hb2 : Below (w.heap.size + 1) (w.alloc tokZ) w2 := by
    rw [hw2]
    exact (Below.refl (w.heap.size + 1) (w.alloc tokZ)).alloc (by simp) _
  have hz2 : w2.heap.size = w.heap.size + 2 := by rw [hw2]; simp
  have HCELL : Hid (∀ i (h : i < refSigns.length), w2.cell? ⟨w.heap.size + 1, i, none⟩ = some (.string (strB (refSigns[i]'h)))) := hcell
  have HB2 : Hid (Below (w.heap.size + 1) (w.alloc tokZ) w2) := hb2
  have HZ2 : Hid (w2.heap.size = w.heap.size + 2) := hz2
  clear hw2 hcell hb2 hz2 hidx
  go_wp2
  go_loopw [15] (fun v wr => ∃ i : Nat, i ≤ 25 ∧ v = .int .i64 i ∧ (∀ x ∈ refSigns.take i, Lib.hasPrefix (l.drop a) x = false) ∧ Below w2.heap.size w2 wr) (fun v _ => 25 - (intOf v).toNat)
  case atStart => exact ⟨0, Nat.zero_le _, rfl, fun x hx => by simp at hx, Below.refl _ _⟩
  case round =>
    obtain ⟨i, hi, rfl, hall, hbr⟩ := hrel
    have HAL : Hid (∀ x ∈ refSigns.take i, Lib.hasPrefix (l.drop a) x = false) := hall
    have hb3 : Below (w.heap.size + 1) (w.alloc tokZ) wr := HB2.out.trans (hbr.mono (by rw [HZ2.out]; omega))
    obtain ⟨hc1, hf1⟩ := tok_kept hb3
    have HB : Hid (Below w.heap.size w wr) := HA.out.trans (hb3.mono (by omega))
    have HBR : Hid (Below w2.heap.size w2 wr) := hbr
    clear hall hb3
    by_cases hlt : i < 25
    · have hlt' : i < refSigns.length := hlt
      have hcx := (below_cell (j := i) hbr (by rw [HZ2.out]; omega)).trans (HCELL.out i hlt')
      have hx2 : 1 ≤ (refSigns[i]'hlt').length ∧ (refSigns[i]'hlt').length ≤ 2 := by
        have : ∀ x ∈ refSigns, 1 ≤ x.length ∧ x.length ≤ 2 := by decide
        exact this _ (List.getElem_mem _)
      obtain ⟨x, hx⟩ : ∃ x, x = refSigns[i]'hlt' := ⟨_, rfl⟩
      rw [← hx] at hcx hx2
      have HX : Hid (x = refSigns[i]'hlt') := hx
      have hsx : (strB x).size = x.length := rfl
      obtain ⟨hx1, hx3⟩ := hx2
      have HNX : Hid (Lib.hasPrefix (l.drop a) x = false → ∀ y ∈ refSigns.take (i + 1), Lib.hasPrefix (l.drop a) y = false) := fun hf y hy => by
        rw [List.take_succ_eq_append_getElem hlt'] at hy
        rcases List.mem_append.1 hy with h | h
        · exact HAL.out y h
        · rw [List.mem_singleton] at h; rw [h, ← HX.out]; exact hf
      clear hx hbr
      have hi25 : (i : Int) < 25 := by omega
      by_cases hlen : a + x.length ≤ l.length
      · have hd : decide ((a : Int) + (x.length : Int) ≤ (l.length : Int)) = true := by simp; omega
        have hsub := fun wx => str_sub wx l a x.length hlen
        obtain ⟨y, hy⟩ : ∃ y, y = (l.drop a).take x.length := ⟨_, rfl⟩
        rw [← hy] at hsub
        by_cases he : y = x
        · have HP : Hid (Lib.hasPrefix (l.drop a) x = true) := by show _ = true; rw [pre_take, ← hy]; exact decide_eq_true he
          have HBS : Hid (bestS (l.drop a) 25 = x) := by
            have h := best_hit hlt' HAL.out (by rw [← HX.out]; exact HP.out)
            show _ = x
            rw [h, ← HX.out]
          have HR : Hid (signT (l.drop a) = ⟨4, x, 0, x.length, 0⟩) := by
            show _ = _
            unfold signT
            rw [HBS.out, if_neg (fun e => by rw [e] at hx1; simp at hx1)]
          clear hy
          subst he
          go_wp2
          go_quiet (fail)
          go_wp2
          go_region
          all_goals go_wp2
          all_goals refine bodyPost_ret (v := rtV 4 0 (a + y.length) 0 y) (by simp [results, Tryd.results17, go_sem, rtV, hc1]) rfl ⟨⟨_, rfl, rtR_ok HR.out⟩, ?_⟩
          all_goals exact below_set5 (below_drewN HB.out _) _ _ _ _ _
        · have hbe : (y == x) = false := by rw [beqL]; exact decide_eq_false he
          have HF : Hid (Lib.hasPrefix (l.drop a) x = false) := by show _ = false; rw [pre_take, ← hy]; exact decide_eq_false he
          clear hy he
          go_wp2
          go_quiet (fail)
          go_wp2
          refine ⟨⟨i + 1, by omega, by go_num, HNX.out HF.out, HBR.out.trans (⟨rfl, rfl, rfl, Nat.le_refl _, fun _ _ => rfl⟩ : Below w2.heap.size wr (wr.drewN nq))⟩, by simp [intOf]; omega⟩
      · have hd : decide ((a : Int) + (x.length : Int) ≤ (l.length : Int)) = false := by simp; omega
        have HF : Hid (Lib.hasPrefix (l.drop a) x = false) := by
          show _ = false
          rw [pre_take]
          refine decide_eq_false (fun e => ?_)
          have := congrArg List.length e
          rw [List.length_take, List.length_drop] at this
          omega
        go_wp2
        go_quiet (fail)
        go_wp2
        refine ⟨⟨i + 1, by omega, by go_num, HNX.out HF.out, HBR.out.trans (⟨rfl, rfl, rfl, Nat.le_refl _, fun _ _ => rfl⟩ : Below w2.heap.size wr (wr.drewN nq))⟩, by simp [intOf]; omega⟩
    · obtain rfl : i = 25 := by omega
      have HR : Hid (signT (l.drop a) = ⟨0, [], 0, 0, 6⟩) := by
        show _ = _
        unfold signT
        rw [best_none HAL.out, if_pos rfl]
      clear hbr
      go_wp2
      exact bodyPost_ret (v := rtV 0 0 0 6 []) (by simp [results, Tryd.results17, go_sem, rtV, hc1]) rfl ⟨⟨_, rfl, rtR_err (by rw [HR.out]) (by decide)⟩, below_set5 HB.out _ _ _ _ _⟩

theorem refToken_any (l : List UInt8) (a : Nat) (w : World) (hl : l.length ≤ 5000) (ha : a < l.length) :
    Calls Tryd.prog 17 #[.string (strB l), .int .i64 (a : Nat)] w fun e w' => (∃ v, e = .returned v ∧ rtR a (tokT (l.drop a)) v) ∧ Below w.heap.size w w' := by
  have hd : l.drop a = l[a] :: l.drop (a + 1) := List.drop_eq_getElem_cons ha
  have ht : tokT (l.drop a) = if letterN (l[a]).toNat = true then nameR (l.drop a) else if digitN (l[a]).toNat = true then numT (l.drop a) else if (l[a]).toNat = 34 then textT (l.drop a) else signT (l.drop a) := by
    rw [hd]; rfl
  rw [ht]
  cases h1 : letterN (l[a]).toNat with
  | true => rw [if_pos rfl]; exact refToken_name l a w hl ha h1
  | false =>
    rw [if_neg (by simp)]
    cases h2 : digitN (l[a]).toNat with
    | true => rw [if_pos rfl]; exact refToken_num l a w hl ha h1 h2
    | false =>
      rw [if_neg (by simp)]
      by_cases h3 : (l[a]).toNat = 34
      · rw [if_pos h3]; exact refToken_text l a w hl ha h1 h2 h3
      · rw [if_neg h3]; exact refToken_sign l a w hl ha h1 h2 h3
end Go.Proofs.YtjhfkiighphepaaDoor
