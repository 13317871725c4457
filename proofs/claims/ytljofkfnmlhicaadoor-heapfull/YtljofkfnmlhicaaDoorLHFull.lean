/- HeapFull. -/
import Derived.Test.YtljofkfnmlhicaaDoorHLives
namespace Go.Proofs.YtljofkfnmlhicaaDoor
open Go.RowKit Go.Shelf

/-- The values 0, 1, .. -/
def numsV (c : Nat) : List Vl := (List.range c).map fun (k : Nat) => ⟨1, (k : Int), []⟩
theorem numsV_len (c : Nat) : (numsV c).length = c := by simp [numsV]
theorem numsV_succ (c : Nat) : numsV (c + 1) = numsV c ++ [⟨1, (c : Int), []⟩] := by simp [numsV, List.range_succ]
def fullO (c i : Nat) : List Ob := List.replicate i ([], numsV c)
theorem fullO_len (c i : Nat) : (fullO c i).length = i := by simp [fullO]
theorem fullO_succ (c i : Nat) : fullO c (i + 1) = fullO c i ++ [([], numsV c)] := by unfold fullO; rw [List.replicate_succ']
theorem fullO_all (c i : Nat) : (allV (fullO c i)).length = i * c := by
  induction i with
  | zero => simp [fullO, allV]
  | succ i ih => rw [fullO_succ, allV_snoc, List.length_append, ih, numsV_len, Nat.add_mul]; simp
theorem full_ob (c : Nat) (n : Int) : obB ([], numsV c) n = true := by
  unfold obB
  rw [Bool.and_eq_true, List.all_eq_true]
  refine ⟨fun v hv => ?_, by simp [tagB]⟩
  simp only [numsV, List.mem_map] at hv
  obtain ⟨k, _, rfl⟩ := hv
  simp [cellV, rightV]
theorem full_small (c : Nat) (hc : c ≤ 50) : smallO ([], numsV c) := by
  refine ⟨by simp, fun v hv => ?_⟩
  simp only [numsV, List.mem_map, List.mem_range] at hv
  obtain ⟨k, hk, rfl⟩ := hv
  refine ⟨⟨by simp only; omega, by simp only; omega⟩, by simp⟩
theorem full_alloc (m c i : Nat) : allocR m (fullO c i) ([], numsV c) = if m < (i + 1) * (c + 1) then (⟨0, 0, []⟩, 12, fullO c i) else (⟨4, (i : Int), []⟩, 0, fullO c (i + 1)) := by
  unfold allocR
  have e : (fullO c i).length + (allV (fullO c i)).length + (1 + (numsV c).length) = (i + 1) * (c + 1) := by
    rw [fullO_len, fullO_all, numsV_len, Nat.add_mul, Nat.mul_add]; omega
  rw [if_neg (by rw [full_ob]; simp)]
  simp only [e, fullO_succ]
  rw [fullO_len]

set_option maxRecDepth 100000 in
set_option maxHeartbeats 4000000 in
theorem heapFull_out (m c n : Int) (w : World) (ht : TabsP w) (ho : c < 0 ∨ 50 < c ∨ n < 0 ∨ 500 < n) :
    Calls Tryd.prog 6 #[.int .i64 m, .int .i64 c, .int .i64 n] w fun e w' => e = .returned (.bool true) ∧ Below w.heap.size w w' := by
  have cl := lives06_any w ht
  clear ht
  by_cases h1 : c < 0
  · go_enter Tryd.func6, Tryd.ntmps6
    go_wp2_with fail
    refine cl.mono ?_
    rintro e w' ⟨rfl, hb⟩
    have HB : Hid (Below w.heap.size w w') := hb
    clear hb cl
    go_wp2
    go_ret
    exact ⟨rfl, HB.out⟩
  have d1 : decide (c < 0) = false := decide_eq_false h1
  by_cases h2 : 50 < c
  · go_enter Tryd.func6, Tryd.ntmps6
    go_wp2_with fail
    refine cl.mono ?_
    rintro e w' ⟨rfl, hb⟩
    have HB : Hid (Below w.heap.size w w') := hb
    clear hb cl
    go_wp2
    go_ret
    exact ⟨rfl, HB.out⟩
  have d2 : decide (50 < c) = false := decide_eq_false h2
  by_cases h3 : n < 0
  · go_enter Tryd.func6, Tryd.ntmps6
    go_wp2_with fail
    refine cl.mono ?_
    rintro e w' ⟨rfl, hb⟩
    have HB : Hid (Below w.heap.size w w') := hb
    clear hb cl
    go_wp2
    go_ret
    exact ⟨rfl, HB.out⟩
  have d3 : decide (n < 0) = false := decide_eq_false h3
  have h4 : 500 < n := by omega
  go_enter Tryd.func6, Tryd.ntmps6
  go_wp2_with fail
  refine cl.mono ?_
  rintro e w' ⟨rfl, hb⟩
  have HB : Hid (Below w.heap.size w w') := hb
  clear hb cl
  go_wp2
  go_ret
  exact ⟨rfl, HB.out⟩

set_option maxRecDepth 100000 in
set_option maxHeartbeats 4000000 in
theorem heapFull_in (m : Int) (c n : Nat) (w : World) (ht : TabsP w) (hc : c ≤ 50) (hn : n ≤ 500) :
    Calls Tryd.prog 6 #[.int .i64 m, .int .i64 (c : Int), .int .i64 (n : Int)] w fun e w' => e = .returned (.bool true) ∧ Below w.heap.size w w' := by
  obtain ⟨i0, hi0, hz0, hz1, hz2⟩ := info_parts info_val
  have HT : Hid (TabsP w) := ht
  have hmm : max 0 (min m 4096) = ((mostN m : Nat) : Int) := by rw [mostN_int]; omega
  have hml := mostN_le m
  obtain ⟨M, hM⟩ : ∃ M, M = mostN m := ⟨_, rfl⟩
  have cn := new_any m w
  rw [← hM] at hmm hml cn
  have d2 : ¬ (50 : Int) < (c : Int) := by omega
  have d4 : ¬ (500 : Int) < (n : Int) := by omega
  clear ht hM
  go_enter Tryd.func6, Tryd.ntmps6
  go_wp2_with fail
  refine cn.mono ?_
  clear cn
  rintro e w1 ⟨rfl, H1, hb1⟩
  have HH1 : Hid (HpIn (fun k => w.heap.size ≤ k) w1 M [] w.heap.size (.slice none 0 0) (.slice none 0 0)) := H1
  have HB1 : Hid (Below w.heap.size w w1) := hb1
  clear H1 hb1
  go_wp2
  go_loopw [9] (fun vi wr => ∃ i : Nat, i ≤ n ∧ vi = .int .i64 i ∧ i * (c + 1) ≤ M ∧ (∃ vo vc, HpIn (fun k => w.heap.size ≤ k) wr M (fullO c i) w.heap.size vo vc) ∧ Below w.heap.size w wr) (fun vi _ => n - (intOf vi).toNat)
  case atStart => exact ⟨0, Nat.zero_le _, rfl, by simp, ⟨_, _, HH1.out⟩, HB1.out⟩
  case round =>
    obtain ⟨i, hi, rfl, hiM, ⟨vo, vc, hH⟩, hbw⟩ := hrel
    have HH : Hid (HpIn (fun k => w.heap.size ≤ k) wr M (fullO c i) w.heap.size vo vc) := hH
    have HB : Hid (Below w.heap.size w wr) := hbw
    have hsw := hbw.size
    have hlt := hH.lt
    clear hH hbw HH1 HB1
    by_cases hlt : i < n
    · have hi2 : (i : Int) < (n : Int) := by omega
      obtain ⟨wz, hwz⟩ : ∃ wz, wz = wr := ⟨_, rfl⟩
      subst hwz
      go_wp2
      go_loopw [10, 11] (fun vb vk wq => ∃ k : Nat, k ≤ c ∧ vk = .int .i64 k ∧ wq.ownsRow wz.heap.size 25 3 vb k (vlC (numsV k)) ∧ Below wz.heap.size wz wq) (fun _ vk _ => c - (intOf vk).toNat)
      case atStart => exact ⟨0, Nat.zero_le _, rfl, World.ownsRow_nil _ _ _ _, Below.refl _ _⟩
      case round =>
        obtain ⟨k, hk, rfl, hown, hbq⟩ := hrel
        have HO : Hid (wr.ownsRow wz.heap.size 25 3 u10 k (vlC (numsV k))) := hown
        have HQ : Hid (Below wz.heap.size wz wr) := hbq
        have hsq := hbq.size
        clear hown hbq
        by_cases hkc : k < c
        · have hk2 : (k : Int) < (c : Int) := by omega
          have cnum := hnum_any (k : Int) wr
          go_wp2_with fail
          refine cnum.mono ?_
          clear cnum
          rintro e w2 ⟨rfl, hb2⟩
          have HO2 : Hid (w2.ownsRow wz.heap.size 25 3 u10 k (vlC (numsV k))) := own_blocks HO.out fun q _ hq => hb2.block q hq
          have HQ2 : Hid (Below wz.heap.size wz w2) := HQ.out.trans (hb2.mono hsq)
          have hs2 := HQ2.out.size
          clear hb2
          go_wp2_with (at_builtin; refine wpList_append_own_at _ rfl _ _ 45 rfl wz.heap.size 25 i0 _ 3 32 Tryd.underlying45 hi0 hz0 hz1 hz2 rfl (by decide) _ _ _ rfl (HO2.out.alloc _) ⟨w2.heap.size, 0, none⟩ 1 1 [.int .i64 1, .int .i64 (k : Int), .string ⟨#[]⟩] rfl rfl (cells_new _ _ _) (by simp [Value.oneCell']) (by unfold maxLen; omega) (by omega) (by simp; omega) ?_; intro v' w5 hown' hgrow _ hat)
          have HB5 : Hid (Below wz.heap.size wz w5) := (HQ2.out.alloc (by omega) _).grown hgrow (by simp; omega) (fun q hq => (HO2.out.lt q hq).1)
          refine ⟨⟨k + 1, by omega, by go_num, ?_, HB5.out⟩, by simp [intOf]; omega⟩
          rw [numsV_succ, vlC_app, vlC_one]
          exact hown'
        · obtain rfl : k = c := by omega
          have hk2 : ¬ (k : Int) < (k : Int) := by omega
          have ca := alloc_any ([], numsV k) u10 wr (HH.out.below HQ.out) (valsIn_own HO.out) (full_small k hc) (by rw [numsV_len]; omega) (HT.out.below (HB.out.trans (HQ.out.mono hsw)) (Nat.le_refl _))
          rw [full_alloc] at ca
          have hBr : Below w.heap.size w wr := HB.out.trans (HQ.out.mono hsw)
          have hsr := hBr.size
          have HBr : Hid (Below w.heap.size w wr) := hBr
          obtain ⟨P, hP⟩ : ∃ P, P = (i + 1) * (k + 1) := ⟨_, rfl⟩
          have hPi : ((i : Int) + 1) * ((k : Int) + 1) = (P : Int) := by rw [hP]; simp
          have hPb : P ≤ 30000 := by rw [hP]; exact Nat.le_trans (Nat.mul_le_mul (show i + 1 ≤ 501 by omega) (show k + 1 ≤ 51 by omega)) (by decide)
          rw [← hP] at ca
          have HPD : Hid (P = (i + 1) * (k + 1)) := hP
          clear hP hBr HO
          by_cases hfit : M < P
          · rw [if_pos hfit] at ca
            have hfi : ¬ (P : Int) ≤ (M : Int) := by omega
            have dfi : decide ((P : Int) ≤ (M : Int)) = false := decide_eq_false hfi
            have dfn : decide (P ≤ M) = false := decide_eq_false (by omega)
            go_wp2_with fail
            refine ca.mono ?_
            clear ca
            rintro e w2 ⟨rfl, hk2', vo2, vc2, H2⟩
            have hs2 := hk2'.size
            have hB2 : Below w.heap.size w w2 := HBr.out.trans (hk2'.below hsr (fun q hq => hq))
            have H2' : HpIn (fun q => w.heap.size ≤ q) w2 M (fullO k (i)) w.heap.size vo2 vc2 := H2.wide fun q _ hq => by rcases hq with hq | hq <;> omega
            have HH2 : Hid (HpIn (fun q => w.heap.size ≤ q) w2 M (fullO k (i)) w.heap.size vo2 vc2) := H2'
            have HB2 : Hid (Below w.heap.size w w2) := hB2
            obtain ⟨w3, hw3⟩ : ∃ w3, w3 = w2.alloc (.cells #[.int .i64 0, .int .i64 0, .string ⟨#[]⟩] 25) := ⟨_, rfl⟩
            have hs3 : w3.heap.size = w2.heap.size + 1 := by rw [hw3]; simp
            have h23 : Below w2.heap.size w2 w3 := by rw [hw3]; exact (Below.refl _ _).alloc (Nat.le_refl _) _
            have hbx : w3.heap[w2.heap.size]? = some (.cells #[.int .i64 0, .int .i64 0, .string ⟨#[]⟩] 25 (0, 0)) := by rw [hw3]; exact World.alloc_heap_new _ _
            obtain ⟨r0, r1, r2, -⟩ := cellsH3 hbx
            have x0 := cls_cell (n := w3.heap.size) r0 (by simp only; omega)
            have x1 := cls_cell (n := w3.heap.size) r1 (by simp only; omega)
            have x2 := cls_cell (n := w3.heap.size) r2 (by simp only; omega)
            have HB3 : Hid (Below w.heap.size w w3) := hB2.trans (h23.mono (by omega))
            obtain ⟨U, hU⟩ : ∃ U, U = (i) * (k + 1) := ⟨_, rfl⟩
            have HU : Hid (∀ wx, Below w3.heap.size w3 wx → Calls Tryd.prog 15 #[.pointer (some ⟨w.heap.size, 0, none⟩)] wx fun e w'' => e = .returned (.int .i64 (U : Int)) ∧ Below w3.heap.size w3 w'') := fun wx hx => by
              have c := used_any wx (H2'.below (h23.trans (hx.mono (by omega))))
              rw [fullO_len, fullO_all, show (i) + (i) * k = U by rw [hU, Nat.mul_add]; omega] at c
              exact c.mono fun e w'' ⟨he, hb⟩ => ⟨he, hx.trans (hb.mono hx.size)⟩
            have HW3 : Hid (w3 = w2.alloc (.cells #[.int .i64 0, .int .i64 0, .string ⟨#[]⟩] 25)) := hw3
            have hUM : ¬ (M : Int) < (U : Int) := by rw [hU]; omega
            have dUM : decide ((M : Int) < (U : Int)) = false := decide_eq_false hUM
            have dUN : decide (M < U) = false := decide_eq_false (by omega)
            have hUi : (i : Int) * ((k : Int) + 1) = (U : Int) := by rw [hU]; simp
            have hUb : U ≤ 4096 := by rw [hU]; omega
            clear hw3 h23 hbx H2 H2' hB2 hk2' r0 r1 r2 hU HH HB HQ
            go_wp2_with fail
            rw [← HW3.out]
            refine wp_region_cls (n := w3.heap.size) (w0 := w3) (Below.refl _ _) (by kernel_rfl) (by kernel_rfl) ?_
            iterate 26 (go_big_quiet_step (fail))
            go_big_quiet_step (exact cls_calls HU.out _)
            iterate 3 (go_big_quiet_step (fail))
            refine wpQuiet_nil ?_
            rintro _ ⟨c, rfl⟩
            have cu := HU.out c.1 c.2
            clear x0 x1 x2
            go_wp2_with fail
            refine cu.mono ?_
            clear cu
            rintro e w5 ⟨rfl, hb5⟩
            have HB5 : Hid (Below w.heap.size w w5) := HB3.out.trans (hb5.mono HB3.out.size)
            have cl := lives06_any w5 (HT.out.below HB5.out (Nat.le_refl _))
            clear hb5
            go_wp2_with fail
            refine cl.mono ?_
            clear cl
            rintro e w6 ⟨rfl, hb6⟩
            have HB6 : Hid (Below w.heap.size w w6) := HB5.out.trans (hb6.mono HB5.out.size)
            clear hb6
            go_wp2
            go_ret
            exact ⟨rfl, HB6.out⟩
          · rw [if_neg hfit] at ca
            have hfi : (P : Int) ≤ (M : Int) := by omega
            go_wp2_with fail
            refine ca.mono ?_
            clear ca
            rintro e w2 ⟨rfl, hk2', vo2, vc2, H2⟩
            have hs2 := hk2'.size
            have hB2 : Below w.heap.size w w2 := HBr.out.trans (hk2'.below hsr (fun q hq => hq))
            have H2' : HpIn (fun q => w.heap.size ≤ q) w2 M (fullO k (i + 1)) w.heap.size vo2 vc2 := H2.wide fun q _ hq => by rcases hq with hq | hq <;> omega
            have HH2 : Hid (HpIn (fun q => w.heap.size ≤ q) w2 M (fullO k (i + 1)) w.heap.size vo2 vc2) := H2'
            have HB2 : Hid (Below w.heap.size w w2) := hB2
            obtain ⟨w3, hw3⟩ : ∃ w3, w3 = w2.alloc (.cells #[.int .i64 4, .int .i64 (i : Int), .string ⟨#[]⟩] 25) := ⟨_, rfl⟩
            have hs3 : w3.heap.size = w2.heap.size + 1 := by rw [hw3]; simp
            have h23 : Below w2.heap.size w2 w3 := by rw [hw3]; exact (Below.refl _ _).alloc (Nat.le_refl _) _
            have hbx : w3.heap[w2.heap.size]? = some (.cells #[.int .i64 4, .int .i64 (i : Int), .string ⟨#[]⟩] 25 (0, 0)) := by rw [hw3]; exact World.alloc_heap_new _ _
            obtain ⟨r0, r1, r2, -⟩ := cellsH3 hbx
            have x0 := cls_cell (n := w3.heap.size) r0 (by simp only; omega)
            have x1 := cls_cell (n := w3.heap.size) r1 (by simp only; omega)
            have x2 := cls_cell (n := w3.heap.size) r2 (by simp only; omega)
            have HB3 : Hid (Below w.heap.size w w3) := hB2.trans (h23.mono (by omega))
            obtain ⟨U, hU⟩ : ∃ U, U = (i + 1) * (k + 1) := ⟨_, rfl⟩
            have HU : Hid (∀ wx, Below w3.heap.size w3 wx → Calls Tryd.prog 15 #[.pointer (some ⟨w.heap.size, 0, none⟩)] wx fun e w'' => e = .returned (.int .i64 (U : Int)) ∧ Below w3.heap.size w3 w'') := fun wx hx => by
              have c := used_any wx (H2'.below (h23.trans (hx.mono (by omega))))
              rw [fullO_len, fullO_all, show (i + 1) + (i + 1) * k = U by rw [hU, Nat.mul_add]; omega] at c
              exact c.mono fun e w'' ⟨he, hb⟩ => ⟨he, hx.trans (hb.mono hx.size)⟩
            have HW3 : Hid (w3 = w2.alloc (.cells #[.int .i64 4, .int .i64 (i : Int), .string ⟨#[]⟩] 25)) := hw3
            have hUP : U = P := by rw [hU, HPD.out]
            have hUM : ¬ (M : Int) < (U : Int) := by omega
            have dUM : decide ((M : Int) < (U : Int)) = false := decide_eq_false hUM
            have dUN : decide (M < U) = false := decide_eq_false (by omega)
            have HA : Hid (∀ wx, Below w3.heap.size w3 wx → Calls Tryd.prog 23 #[.int .i64 (i : Int)] wx fun e w'' => e = .returned (vlV ⟨4, (i : Int), []⟩) ∧ Below w3.heap.size w3 w'') := fun wx hx => (href_any (i : Int) wx).mono fun e w'' ⟨he, hb⟩ => ⟨he, hx.trans (hb.mono hx.size)⟩
            have HUM : Hid ((i + 1) * (k + 1) ≤ M) := by show _ ≤ _; rw [← hU]; omega
            clear hw3 h23 hbx H2 H2' hB2 hk2' r0 r1 r2 hU HH HB HQ hUP
            go_wp2_with fail
            rw [← HW3.out]
            refine wp_region_cls (n := w3.heap.size) (w0 := w3) (Below.refl _ _) (by kernel_rfl) (by kernel_rfl) ?_
            iterate 4 (go_big_quiet_step (fail))
            go_big_quiet_step (exact cls_calls HA.out _)
            iterate 21 (go_big_quiet_step (fail))
            go_big_quiet_step (exact cls_calls HU.out _)
            iterate 3 (go_big_quiet_step (fail))
            refine wpQuiet_nil ?_
            rintro _ ⟨c, rfl⟩
            have HH5 : Hid (HpIn (fun q => w.heap.size ≤ q) c.1 M (fullO k (i + 1)) w.heap.size vo2 vc2) := HH2.out.below ((show Below w2.heap.size w2 w3 by rw [HW3.out]; exact (Below.refl _ _).alloc (Nat.le_refl _) _).trans (c.2.mono (by omega)))
            have HB5 : Hid (Below w.heap.size w c.1) := HB3.out.trans (c.2.mono HB3.out.size)
            clear x0 x1 x2
            go_wp2
            exact ⟨⟨i + 1, by omega, by go_num, HUM.out, ⟨_, _, HH5.out⟩, HB5.out⟩, by simp [intOf]; omega⟩
    · obtain rfl : i = n := by omega
      have hi2 : ¬ (i : Int) < (i : Int) := by omega
      have cu := used_any wr HH.out
      rw [fullO_len, fullO_all, show i + i * c = i * (c + 1) by rw [Nat.mul_add]; omega] at cu
      obtain ⟨P, hP⟩ : ∃ P, P = i * (c + 1) := ⟨_, rfl⟩
      have hPi : (i : Int) * ((c : Int) + 1) = (P : Int) := by rw [hP]; simp
      have hPb : P ≤ 4096 := by omega
      rw [← hP] at cu
      clear hP
      go_wp2_with fail
      refine cu.mono ?_
      clear cu
      rintro e w2 ⟨rfl, hb2⟩
      have HB2 : Hid (Below w.heap.size w w2) := HB.out.trans (hb2.mono (by omega))
      have cl := lives06_any w2 (HT.out.below HB2.out (Nat.le_refl _))
      clear hb2
      go_wp2_with fail
      refine cl.mono ?_
      clear cl
      rintro e w3 ⟨rfl, hb3⟩
      have HB3 : Hid (Below w.heap.size w w3) := HB2.out.trans (hb3.mono (by have := HB2.out.size; omega))
      clear hb3
      go_wp2
      go_ret
      exact ⟨rfl, HB3.out⟩
end Go.Proofs.YtljofkfnmlhicaaDoor
