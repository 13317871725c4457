/- snap: the document's own look whether a state may be told; its Check and Bytes. -/
import Derived.Test.YtbdgniiafdjmiaaGreatDoorPRfPut
import Derived.Test.YtbdgniiafdjmiaaGreatDoorMZ
namespace Go.Proofs.YtbdgniiafdjmiaaGreatDoor
open Go.RowKit Go.Shelf

theorem qall_true {α : Type} {p : α → Bool} {l : List α} (h : ∀ j (hj : j < l.length), p l[j] = true) : l.all p = true := by
  rw [List.all_eq_true]
  intro x hx
  obtain ⟨j, hj, rfl⟩ := List.getElem_of_mem hx
  exact h j hj
theorem qall_false {α : Type} {p : α → Bool} {l : List α} {i : Nat} (hi : i < l.length) (h : p l[i] = false) : l.all p = false := by
  rw [List.all_eq_false]
  exact ⟨l[i], List.getElem_mem hi, by rw [h]; simp⟩
theorem objsF_below {S : Nat → Prop} {w w' : World} {v : Value} {os : List Ob} (hin : objsR S w v os) (hf : objsF w v os) (hb : Below w.heap.size w w') : objsF w' v os := fun i hi b o cap u e hc => by
  obtain ⟨base, cap', hv, _, _, hat⟩ := rowIn.at hin
  obtain ⟨b', o', hbase, _, hlt, _⟩ := hat i hi
  have e2 := e
  rw [hv, hbase] at e2
  simp only [Value.slice.injEq, Option.some.injEq, Addr.mk.injEq, and_true, true_and] at e2
  obtain ⟨⟨rfl, rfl⟩, _⟩ := e2
  exact hf i hi _ _ cap u e ((below_cell hb hlt).symm.trans hc)

set_option maxRecDepth 100000 in
set_option maxHeartbeats 8000000 in
theorem pfVals_any (S : Nat → Prop) (l : List Vl) (v : Value) (n : Int) (w : World) (hin : valsR S w v l) (hl : ∀ x ∈ l, smallV x ∧ I64 x.k) (d : Bool) (hd : d = l.all fun x => rightV x n) :
    Calls Tryz.prog 45 #[v, .int .i64 n] w fun e w' => e = .returned (.bool d) ∧ Below w.heap.size w w' := by
  obtain ⟨base, cap, rfl, hc1, hc2, hat⟩ := rowIn.at hin
  have HAT : Hid (∀ i (hi : i < l.length), ∃ b o, base = some ⟨b, o, none⟩ ∧ S b ∧ b < w.heap.size ∧ valE w b (o + i * 3) l[i]) := hat
  have hln : l.length ≤ 9223372036854775807 := by have : maxLen ≤ 9223372036854775807 := by decide
                                                  omega
  have HL : Hid (∀ x ∈ l, smallV x ∧ I64 x.k) := hl
  have HD : Hid (d = l.all fun x => rightV x n) := hd
  clear hat hin hl hd
  go_enter Tryz.func45, Tryz.ntmps45
  go_wp2
  go_loopw [5] (fun vi wr => ∃ i : Nat, i ≤ l.length ∧ vi = .int .i64 i ∧ (∀ j (h : j < l.length), j < i → rightV l[j] n = true) ∧ Below w.heap.size w wr) (fun vi _ => l.length - (intOf vi).toNat)
  case atStart => exact ⟨0, Nat.zero_le _, rfl, fun j h hj => by omega, Below.refl _ _⟩
  case round =>
    obtain ⟨i, hi, rfl, hall, hbr⟩ := hrel
    have HA : Hid (∀ j (h : j < l.length), j < i → rightV l[j] n = true) := hall
    have HB : Hid (Below w.heap.size w wr) := hbr
    clear hall hbr
    by_cases hlt : i < l.length
    · have hi2 : (i : Int) < l.length := by omega
      obtain ⟨b, o, rfl, -, hbl, e0, e1, e2⟩ := HAT.out i hlt
      obtain ⟨x, hx⟩ : ∃ x, x = l[i] := ⟨_, rfl⟩
      have HX : Hid (x = l[i]) := hx
      rw [← hx] at e0 e1 e2
      replace e0 := (below_cell HB.out hbl).trans e0
      replace e1 := (below_cell HB.out hbl).trans e1
      replace e2 := (below_cell HB.out hbl).trans e2
      have cis := refRight_any x n wr (by rw [hx]; exact (HL.out _ (List.getElem_mem hlt)).1)
      obtain ⟨q, hq⟩ : ∃ q, q = rightV x n := ⟨_, rfl⟩
      rw [← hq] at cis
      have HQ : Hid (q = rightV x n) := hq
      clear hx hq
      go_wp2_with fail
      refine cis.mono ?_
      clear cis e0 e1 e2
      rintro e w1 ⟨rfl, hb1⟩
      have HB1 : Hid (Below w.heap.size w w1) := HB.out.trans (hb1.mono HB.out.size)
      clear hb1
      cases q with
      | true =>
        go_wp2
        refine ⟨⟨i + 1, by omega, by go_num, fun j h hj => ?_, HB1.out⟩, by simp [intOf]; omega⟩
        by_cases hji : j < i
        · exact HA.out j h hji
        · obtain rfl : j = i := by omega
          rw [← HX.out]
          exact HQ.out.symm
      | false =>
        have HF : Hid (d = false) := by show _ = _; rw [HD.out]; exact qall_false hlt (by rw [← HX.out]; exact HQ.out.symm)
        go_wp2
        go_ret
        rw [HF.out]
        exact ⟨rfl, HB1.out⟩
    · obtain rfl : i = l.length := by omega
      have hi2 : ¬ (l.length : Int) < l.length := by omega
      have HF : Hid (d = true) := by show _ = _; rw [HD.out]; exact qall_true fun j hj => HA.out j hj hj
      go_wp2
      go_ret
      rw [HF.out]
      exact ⟨rfl, HB.out⟩

set_option maxRecDepth 100000 in
set_option maxHeartbeats 8000000 in
theorem pfMay_any (S : Nat → Prop) (s : Sn) (bc bh : Option Addr) (nc cc nh ch : Nat) (w : World) (hin : SnIn S w s (.slice bc nc cc) (.slice bh nh ch)) (hsm : SmallS s) (hf : objsF w (.slice bh nh ch) s.heap) :
    Calls Tryz.prog 26 #[snV s (.slice bc nc cc) (.slice bh nh ch)] w fun e w' => e = .returned (.bool (mayS s)) ∧ Below w.heap.size w w' := by
  obtain ⟨w1, hw1, hb1, HZ1, h1⟩ := box1 w (.cells #[.int .i64 s.pos, .int .i64 s.st, .int .i64 s.ft, .slice bc nc cc, .slice bh nh ch, .string (strB s.out), .int .i64 s.rd] 27)
  have HW1 : Hid (w1 = w.alloc (.cells #[.int .i64 s.pos, .int .i64 s.st, .int .i64 s.ft, .slice bc nc cc, .slice bh nh ch, .string (strB s.out), .int .i64 s.rd] 27)) := hw1
  have HB1 : Hid (Below w.heap.size w w1) := hb1
  have HLT : Hid (w.heap.size < w1.heap.size) := heap_lt h1
  have HF : Hid (∀ W, Below w1.heap.size w1 W → W.cell? ⟨w.heap.size, 0, none⟩ = some (.int .i64 s.pos) ∧ W.cell? ⟨w.heap.size, 1, none⟩ = some (.int .i64 s.st) ∧ W.cell? ⟨w.heap.size, 2, none⟩ = some (.int .i64 s.ft) ∧ W.cell? ⟨w.heap.size, 3, none⟩ = some (.slice bc nc cc) ∧ W.cell? ⟨w.heap.size, 4, none⟩ = some (.slice bh nh ch) ∧ W.cell? ⟨w.heap.size, 5, none⟩ = some (.string (strB s.out)) ∧ W.cell? ⟨w.heap.size, 6, none⟩ = some (.int .i64 s.rd)) := fun W hW => cells7 ((hW.block w.heap.size HLT.out).trans h1)
  obtain ⟨hnc, HCA⟩ : nc = s.calls.length ∧ Hid (∀ i (hi : i < s.calls.length), ∃ b o, bc = some ⟨b, o, none⟩ ∧ S b ∧ b < w.heap.size ∧ calE S w b (o + i * 5) s.calls[i]) := by obtain ⟨b, c, e, _, _, h⟩ := hin.calls.at; cases e; exact ⟨rfl, h⟩
  have hnh : nh = s.heap.length := by obtain ⟨b, c, e, -⟩ := hin.heap.at; cases e; rfl
  have HNC : Hid (nc = s.calls.length) := hnc
  have HNH : Hid (nh = s.heap.length) := hnh
  have HSM : Hid (SmallS s) := hsm
  have hci : (nc : Int) ≤ 1048576 := by have := hsm.calls.2; omega
  have hhi : (nh : Int) ≤ 1048576 := by have := hsm.heap.2; omega
  have cl := refLoad_any S 4096 s.heap (.slice bh nh ch) w1 (objsIn_of (hin.below hb1).heap) hsm.obs (fun o ho => (hsm.heap.1 o ho).2.2) hsm.heap.2 (objsF_below hin.heap hf hb1)
  have h4 : mostN 4096 = 4096 := by decide
  have cl2 : Calls Tryz.prog 44 #[.int .i64 4096, .slice bh nh ch] w1 fun e w' => Below w1.heap.size w1 w' ∧ ∃ (r0 : Int) (r1 : Option Addr) (r2 r3 : Nat) (q : Int), e = .returned (.tuple #[.agg #[.int .i64 r0, .slice r1 r2 r3], .int .i64 q]) ∧ (q == 0) = heapB s.heap := cl.mono fun e w' h => by
    obtain ⟨hb, h | h | h⟩ := h
    · obtain ⟨he, o, ho, hf⟩ := h
      refine ⟨hb, _, _, _, _, 2, he, ?_⟩
      have : (s.heap.all fun o => obB o s.heap.length) = false := by rw [List.all_eq_false]; exact ⟨o, ho, by rw [hf]; simp⟩
      unfold heapB
      rw [this]; rfl
    · obtain ⟨he, ha, hf⟩ := h
      refine ⟨hb, _, _, _, _, 12, he, ?_⟩
      unfold heapB
      rw [decide_eq_false (by omega), Bool.and_false]; rfl
    · obtain ⟨ha, hf, v, he, vs, hv⟩ := h
      obtain ⟨x1, x2, x3, rfl⟩ : ∃ b n c, v = .slice b n c := by
        rcases hv.row.2 with ⟨h, _⟩ | ⟨g, cp, cur, h, _⟩
        · exact ⟨_, _, _, h⟩
        · exact ⟨_, _, _, h⟩
      refine ⟨hb, _, _, _, _, 0, he, ?_⟩
      have : (s.heap.all fun o => obB o s.heap.length) = true := by rw [List.all_eq_true]; exact ha
      unfold heapB
      rw [this, decide_eq_true (by omega)]; rfl
  have HMAY : Hid (mayS s = (decide (0 ≤ s.pos ∧ 0 ≤ s.rd ∧ (0 ≤ s.st ∧ s.st ≤ 2) ∧ (0 ≤ s.ft ∧ s.ft ≤ 10) ∧ s.out.length ≤ 4096) && ((decide (s.calls.length ≤ 64) && s.calls.all (callB s.heap.length)) && heapB s.heap))) := rfl
  obtain ⟨HB0, hHB0⟩ : ∃ d, d = heapB s.heap := ⟨_, rfl⟩
  rw [← hHB0] at cl2 HMAY
  obtain ⟨R, hR⟩ : ∃ R, R = mayS s := ⟨_, rfl⟩
  rw [← hR] at HMAY ⊢
  have HCV : Hid (∀ (W : World) (l : List Vl) (u : Value) (d : Bool), Below w.heap.size w W → valsR S w u l → (∀ x ∈ l, smallV x ∧ I64 x.k) → d = (l.all fun x => rightV x (nh : Int)) → Calls Tryz.prog 45 #[u, .int .i64 (nh : Int)] W fun e w' => e = .returned (.bool d) ∧ Below W.heap.size W w') := fun W l u d hW hu hl hd => pfVals_any S l u nh W (rowIn.kept hu (valE_keeps S) hW.size fun q _ hq => hW.block q hq) hl d hd
  have HSO : Hid ((strB s.out).size = s.out.length) := strB_size _
  obtain ⟨f0, f1, f2, f3, f4, f5, f6⟩ := HF.out w1 (Below.refl _ _)
  clear hw1 hb1 HZ1 h1 hin hsm hf cl h4 hHB0 hR hnc hnh
  obtain ⟨so, hso⟩ : ∃ so, so = strB s.out := ⟨_, rfl⟩
  have hsV : snV s (.slice bc nc cc) (.slice bh nh ch) = .agg #[.int .i64 s.pos, .int .i64 s.st, .int .i64 s.ft, .slice bc nc cc, .slice bh nh ch, .string so, .int .i64 s.rd] := by rw [hso]
  rw [← hso] at HSO HW1 HF f5
  rw [hsV]
  clear hso hsV
  by_cases c0 : s.pos < 0
  · have HFALSE : Hid (R = false) := by
      show _ = _
      rw [HMAY.out, decide_eq_false (fun h => by have := h.1; omega), Bool.false_and]
    clear cl2
    go_enter Tryz.func26, Tryz.ntmps26
    go_wp2
    go_ret
    rw [HFALSE.out]
    refine ⟨rfl, ?_⟩
    have h9 := HB1.out
    rw [HW1.out] at h9
    exact h9
  · by_cases c1 : s.rd < 0
    · have HFALSE : Hid (R = false) := by
        show _ = _
        rw [HMAY.out, decide_eq_false (fun h => by have := h.2.1; omega), Bool.false_and]
      clear cl2
      go_enter Tryz.func26, Tryz.ntmps26
      go_wp2
      go_ret
      rw [HFALSE.out]
      refine ⟨rfl, ?_⟩
      have h9 := HB1.out
      rw [HW1.out] at h9
      exact h9
    · by_cases c2 : s.st < 0
      · have HFALSE : Hid (R = false) := by
          show _ = _
          rw [HMAY.out, decide_eq_false (fun h => by have := h.2.2.1.1; omega), Bool.false_and]
        clear cl2
        go_enter Tryz.func26, Tryz.ntmps26
        go_wp2
        go_ret
        rw [HFALSE.out]
        refine ⟨rfl, ?_⟩
        have h9 := HB1.out
        rw [HW1.out] at h9
        exact h9
      · by_cases c3 : 2 < s.st
        · have HFALSE : Hid (R = false) := by
            show _ = _
            rw [HMAY.out, decide_eq_false (fun h => by have := h.2.2.1.2; omega), Bool.false_and]
          clear cl2
          go_enter Tryz.func26, Tryz.ntmps26
          go_wp2
          go_ret
          rw [HFALSE.out]
          refine ⟨rfl, ?_⟩
          have h9 := HB1.out
          rw [HW1.out] at h9
          exact h9
        · by_cases c4 : s.ft < 0
          · have HFALSE : Hid (R = false) := by
              show _ = _
              rw [HMAY.out, decide_eq_false (fun h => by have := h.2.2.2.1.1; omega), Bool.false_and]
            clear cl2
            go_enter Tryz.func26, Tryz.ntmps26
            go_wp2
            go_ret
            rw [HFALSE.out]
            refine ⟨rfl, ?_⟩
            have h9 := HB1.out
            rw [HW1.out] at h9
            exact h9
          · by_cases c5 : 10 < s.ft
            · have HFALSE : Hid (R = false) := by
                show _ = _
                rw [HMAY.out, decide_eq_false (fun h => by have := h.2.2.2.1.2; omega), Bool.false_and]
              clear cl2
              go_enter Tryz.func26, Tryz.ntmps26
              go_wp2
              go_ret
              rw [HFALSE.out]
              refine ⟨rfl, ?_⟩
              have h9 := HB1.out
              rw [HW1.out] at h9
              exact h9
            · by_cases c6 : (64 : Int) < nc
              · have HFALSE : Hid (R = false) := by
                  show _ = _
                  rw [HMAY.out, decide_eq_false (p := s.calls.length ≤ 64) (by have := HNC.out; omega), Bool.false_and, Bool.false_and, Bool.and_false]
                clear cl2
                go_enter Tryz.func26, Tryz.ntmps26
                go_wp2
                go_ret
                rw [HFALSE.out]
                refine ⟨rfl, ?_⟩
                have h9 := HB1.out
                rw [HW1.out] at h9
                exact h9
              · by_cases c7 : (4096 : Int) < so.size
                · have HFALSE : Hid (R = false) := by
                    show _ = _
                    rw [HMAY.out, decide_eq_false (fun h => by have := h.2.2.2.2; have := HSO.out; omega), Bool.false_and]
                  clear cl2
                  go_enter Tryz.func26, Tryz.ntmps26
                  go_wp2
                  go_ret
                  rw [HFALSE.out]
                  refine ⟨rfl, ?_⟩
                  have h9 := HB1.out
                  rw [HW1.out] at h9
                  exact h9
                · have HALL : Hid (R = ((s.calls.all (callB s.heap.length)) && HB0)) := by
                    show _ = _
                    rw [HMAY.out, decide_eq_true (⟨by omega, by omega, ⟨by omega, by omega⟩, ⟨by omega, by omega⟩, by have := HSO.out; omega⟩), decide_eq_true (p := s.calls.length ≤ 64) (by have := HNC.out; omega), Bool.true_and, Bool.true_and]
                  go_enter Tryz.func26, Tryz.ntmps26
                  go_wp2_with fail
                  rw [← HW1.out]
                  refine cl2.mono ?_
                  clear cl2 f0 f1 f2 f3 f4 f5 f6 c0 c1 c2 c3 c4 c5 c6 c7
                  rintro e w2 ⟨hb2, r0, r1, r2, r3, q, rfl, hq⟩
                  have HB2 : Hid (Below w1.heap.size w1 w2) := hb2
                  obtain ⟨w3, hw3, hb3, HZ3, h3⟩ := box1 w2 (.cells #[.int .i64 r0, .slice r1 r2 r3] 85)
                  have HW3 : Hid (w3 = w2.alloc (.cells #[.int .i64 r0, .slice r1 r2 r3] 85)) := hw3
                  have HB3 : Hid (Below w1.heap.size w1 w3) := HB2.out.trans (hb3.mono HB2.out.size)
                  have HBw3 : Hid (Below w.heap.size w w3) := HB1.out.trans (HB3.out.mono HB1.out.size)
                  obtain ⟨f0, f1, f2, f3, f4, f5, f6⟩ := HF.out w3 HB3.out
                  have HQ : Hid ((q == 0) = HB0) := hq
                  clear hb2 hw3 hb3 HZ3 h3 hq
                  cases HB0 with
                  | false =>
                    have hqb : (q == 0) = false := HQ.out
                    have hqn : (q != 0) = true := by simp [bne, hqb]
                    have hqi : ¬ q = 0 := by simpa using hqb
                    have HFALSE : Hid (R = false) := by show _ = _; rw [HALL.out, Bool.and_false]
                    go_upto_region 4 with fail
                    rw [← HW3.out]
                    go_wp2
                    go_ret
                    rw [HFALSE.out]
                    exact ⟨rfl, HBw3.out⟩
                  | true =>
                    have hqi : q = 0 := by simpa using HQ.out
                    have HALL2 : Hid (R = s.calls.all (callB s.heap.length)) := by show _ = _; rw [HALL.out, Bool.and_true]
                    subst hqi
                    go_upto_region 4 with fail
                    rw [← HW3.out]
                    go_wp2
                    clear f0 f1 f2 f3 f4 f5 f6
                    go_loopw [6] (fun vi wr => ∃ i : Nat, i ≤ nc ∧ vi = .int .i64 (i : Int) ∧ (∀ j (h : j < s.calls.length), j < i → callB s.heap.length s.calls[j] = true) ∧ Below w1.heap.size w1 wr) (fun vi _ => nc - (intOf vi).toNat)
                    case atStart => exact ⟨0, Nat.zero_le _, rfl, fun j h hj => by omega, HB3.out⟩
                    case round =>
                      obtain ⟨i, hi, rfl, hall, hbr⟩ := hrel
                      have HB : Hid (Below w1.heap.size w1 wr) := hbr
                      have HA : Hid (∀ j (h : j < s.calls.length), j < i → callB s.heap.length s.calls[j] = true) := hall
                      have HBw : Hid (Below w.heap.size w wr) := HB1.out.trans (hbr.mono HB1.out.size)
                      obtain ⟨f0, f1, f2, f3, f4, f5, f6⟩ := HF.out wr hbr
                      clear hbr hall
                      by_cases hlt : i < nc
                      · have hi2 : (i : Int) < nc := by omega
                        have hil : i < s.calls.length := by have := HNC.out; omega
                        obtain ⟨b, o, rfl, -, hbl, hc⟩ := HCA.out i hil
                        obtain ⟨e0, e1, e2, ⟨u3, e3, hu3⟩, u4, e4, hu4⟩ := hc
                        have HU : Hid (valsR S w u3 s.calls[i].slots ∧ valsR S w u4 s.calls[i].stack) := ⟨hu3, hu4⟩
                        obtain ⟨p3, q3, rfl, -⟩ := hu3.at
                        obtain ⟨p4, q4, rfl, -⟩ := hu4.at
                        obtain ⟨x, hx⟩ : ∃ x, x = s.calls[i] := ⟨_, rfl⟩
                        have HX : Hid (x = s.calls[i]) := hx
                        rw [← hx] at e0 e1 e2 e3 e4 HU
                        have hxs := HSM.out.calls.1 x (hx ▸ List.getElem_mem hil)
                        have HXS : Hid (smallC x) := hxs
                        obtain ⟨m3, hm3⟩ : ∃ n, n = x.slots.length := ⟨_, rfl⟩
                        obtain ⟨m4, hm4⟩ : ∃ n, n = x.stack.length := ⟨_, rfl⟩
                        have HM : Hid (m3 = x.slots.length ∧ m4 = x.stack.length) := ⟨hm3, hm4⟩
                        have hm3i : (m3 : Int) ≤ 1048576 := by have := hxs.2.1.2; omega
                        have hm4i : (m4 : Int) ≤ 1048576 := by have := hxs.2.2.2; omega
                        rw [← hm3] at e3 HU
                        rw [← hm4] at e4 HU
                        have hcc : ∀ q, wr.cell? ⟨b, q, none⟩ = w.cell? ⟨b, q, none⟩ := fun q => below_cell HBw.out hbl
                        rw [← hcc] at e0 e1 e2 e3 e4
                        have HNO : Hid (callB s.heap.length x = false → R = false) := fun h => by rw [HALL2.out]; exact qall_false hil (by rw [← HX.out]; exact h)
                        obtain ⟨D3, hD3⟩ : ∃ d, d = (x.slots.all fun v => rightV v (nh : Int)) := ⟨_, rfl⟩
                        obtain ⟨D4, hD4⟩ : ∃ d, d = (x.stack.all fun v => rightV v (nh : Int)) := ⟨_, rfl⟩
                        have HCB : Hid (callB s.heap.length x = (decide (0 ≤ x.unit ∧ 0 ≤ x.at0 ∧ -1 ≤ x.mark) && ((decide (m3 ≤ 32) && D3) && (decide (m4 ≤ 256) && D4)))) := by
                          show _ = _
                          rw [hD3, hD4, hm3, hm4, HNH.out]
                          rfl
                        have C3 : Hid (∀ W, Below w.heap.size w W → Calls Tryz.prog 45 #[.slice p3 m3 q3, .int .i64 (nh : Int)] W fun e w' => e = .returned (.bool D3) ∧ Below W.heap.size W w') := fun W hW => HCV.out W x.slots _ D3 hW HU.out.1 HXS.out.2.1.1 hD3
                        have C4 : Hid (∀ W, Below w.heap.size w W → Calls Tryz.prog 45 #[.slice p4 m4 q4, .int .i64 (nh : Int)] W fun e w' => e = .returned (.bool D4) ∧ Below W.heap.size W w') := fun W hW => HCV.out W x.stack _ D4 hW HU.out.2 HXS.out.2.2.1 hD4
                        obtain ⟨w4, hw4, hb4, HZ4, h4⟩ := box1 wr (.cells #[.int .i64 x.unit, .int .i64 x.at0, .int .i64 x.mark, .slice p3 m3 q3, .slice p4 m4 q4] 49)
                        have HW4 : Hid (w4 = wr.alloc (.cells #[.int .i64 x.unit, .int .i64 x.at0, .int .i64 x.mark, .slice p3 m3 q3, .slice p4 m4 q4] 49)) := hw4
                        have HB4 : Hid (Below w1.heap.size w1 w4) := HB.out.trans (hb4.mono HB.out.size)
                        have HBw4 : Hid (Below w.heap.size w w4) := HBw.out.trans (hb4.mono HBw.out.size)
                        have HX4 : Hid (w4.heap[wr.heap.size]? = some (.cells #[.int .i64 x.unit, .int .i64 x.at0, .int .i64 x.mark, .slice p3 m3 q3, .slice p4 m4 q4] 49 (0, 0))) := h4
                        obtain ⟨g0, g1, g2, g3, g4⟩ := cells5p h4
                        clear hx hxs hm3 hm4 hcc hD3 hD4 hw4 hb4 HZ4 h4 hu3 hu4
                        by_cases i0 : x.unit < 0
                        · have HFALSE : Hid (R = false) := HNO.out (by rw [HCB.out, decide_eq_false (fun h => by have := h.1; omega), Bool.false_and])
                          go_upto_region 11 with fail
                          rw [← HW4.out]
                          go_wp2
                          go_ret
                          rw [HFALSE.out]
                          exact ⟨rfl, HBw4.out⟩
                        · by_cases i1 : x.at0 < 0
                          · have HFALSE : Hid (R = false) := HNO.out (by rw [HCB.out, decide_eq_false (fun h => by have := h.2.1; omega), Bool.false_and])
                            go_upto_region 11 with fail
                            rw [← HW4.out]
                            go_wp2
                            go_ret
                            rw [HFALSE.out]
                            exact ⟨rfl, HBw4.out⟩
                          · by_cases i2 : x.mark < -1
                            · have HFALSE : Hid (R = false) := HNO.out (by rw [HCB.out, decide_eq_false (fun h => by have := h.2.2; omega), Bool.false_and])
                              go_upto_region 11 with fail
                              rw [← HW4.out]
                              go_wp2
                              go_ret
                              rw [HFALSE.out]
                              exact ⟨rfl, HBw4.out⟩
                            · by_cases i3 : (32 : Int) < m3
                              · have HFALSE : Hid (R = false) := HNO.out (by rw [HCB.out, decide_eq_false (p := m3 ≤ 32) (by omega), Bool.false_and, Bool.false_and, Bool.and_false])
                                go_upto_region 11 with fail
                                rw [← HW4.out]
                                go_wp2
                                go_ret
                                rw [HFALSE.out]
                                exact ⟨rfl, HBw4.out⟩
                              · by_cases i4 : (256 : Int) < m4
                                · have HFALSE : Hid (R = false) := HNO.out (by rw [HCB.out, decide_eq_false (p := m4 ≤ 256) (by omega), Bool.false_and, Bool.and_false, Bool.and_false])
                                  go_upto_region 11 with fail
                                  rw [← HW4.out]
                                  go_wp2
                                  go_ret
                                  rw [HFALSE.out]
                                  exact ⟨rfl, HBw4.out⟩
                                · have HCB2 : Hid (callB s.heap.length x = (D3 && D4)) := by
                                    show _ = _
                                    rw [HCB.out, decide_eq_true (⟨by omega, by omega, by omega⟩), decide_eq_true (p := m3 ≤ 32) (by omega), decide_eq_true (p := m4 ≤ 256) (by omega)]
                                    simp
                                  have c9 := C3.out w4 HBw4.out
                                  go_upto_region 11 with fail
                                  rw [← HW4.out]
                                  go_wp2_with fail
                                  refine c9.mono ?_
                                  clear c9 g0 g1 g2 g3 g4 e0 e1 e2 e3 e4 f0 f1 f2 f3 f4 f5 f6
                                  rintro e w5 ⟨rfl, hb5⟩
                                  have HB5 : Hid (Below w1.heap.size w1 w5) := HB4.out.trans (hb5.mono HB4.out.size)
                                  have HBw5 : Hid (Below w.heap.size w w5) := HBw4.out.trans (hb5.mono HBw4.out.size)
                                  obtain ⟨g0, g1, g2, g3, g4⟩ := cells5p ((hb5.block _ (heap_lt HX4.out)).trans HX4.out)
                                  clear hb5
                                  cases D3 with
                                  | false =>
                                    have HFALSE : Hid (R = false) := HNO.out (by rw [HCB2.out]; rfl)
                                    go_wp2
                                    go_ret
                                    rw [HFALSE.out]
                                    exact ⟨rfl, HBw5.out⟩
                                  | true =>
                                    have c9 := C4.out w5 HBw5.out
                                    go_wp2_with fail
                                    refine c9.mono ?_
                                    clear c9 g0 g1 g2 g3 g4
                                    rintro e w6 ⟨rfl, hb6⟩
                                    have HB6 : Hid (Below w1.heap.size w1 w6) := HB5.out.trans (hb6.mono HB5.out.size)
                                    have HBw6 : Hid (Below w.heap.size w w6) := HBw5.out.trans (hb6.mono HBw5.out.size)
                                    clear hb6
                                    cases D4 with
                                    | false =>
                                      have HFALSE : Hid (R = false) := HNO.out (by rw [HCB2.out]; rfl)
                                      go_wp2
                                      go_ret
                                      rw [HFALSE.out]
                                      exact ⟨rfl, HBw6.out⟩
                                    | true =>
                                      go_wp2
                                      refine ⟨⟨i + 1, by omega, by go_num, fun j h hj => ?_, HB6.out⟩, by simp [intOf]; omega⟩
                                      by_cases hji : j < i
                                      · exact HA.out j h hji
                                      · obtain rfl : j = i := by omega
                                        rw [← HX.out, HCB2.out]
                                        rfl
                      · obtain rfl : i = nc := by omega
                        have hi2 : ¬ (i : Int) < i := by omega
                        have HT : Hid (R = true) := by show _ = _; rw [HALL2.out]; exact qall_true fun j hj => HA.out j hj (by have := HNC.out; omega)
                        go_wp2
                        go_ret
                        rw [HT.out]
                        exact ⟨rfl, HBw.out⟩

set_option maxRecDepth 100000 in
set_option maxHeartbeats 8000000 in
theorem pfCheck_any (S : Nat → Prop) (s : Sn) (bc bh : Option Addr) (nc cc nh ch : Nat) (w : World) (hin : SnIn S w s (.slice bc nc cc) (.slice bh nh ch)) (hsm : SmallS s) (hf : objsF w (.slice bh nh ch) s.heap) :
    Calls Tryz.prog 13 #[snV s (.slice bc nc cc) (.slice bh nh ch)] w fun e w' => e = .returned (.int .i64 (errR (mayS s))) ∧ Below w.heap.size w w' := by
  obtain ⟨w2, hw2, hb2, HZ2, h0⟩ := box1 w (.cells #[.int .i64 s.pos, .int .i64 s.st, .int .i64 s.ft, .slice bc nc cc, .slice bh nh ch, .string (strB s.out), .int .i64 s.rd] 27)
  have HW2 : Hid (w2 = w.alloc (.cells #[.int .i64 s.pos, .int .i64 s.st, .int .i64 s.ft, .slice bc nc cc, .slice bh nh ch, .string (strB s.out), .int .i64 s.rd] 27)) := hw2
  have HB2 : Hid (Below w.heap.size w w2) := hb2
  have c := pfMay_any S s bc bh nc cc nh ch w2 (hin.below hb2) hsm (objsF_below hin.heap hf hb2)
  obtain ⟨R, hR⟩ : ∃ R, R = mayS s := ⟨_, rfl⟩
  rw [← hR] at c ⊢
  clear hw2 hb2 HZ2 h0 hR hin hsm hf
  go_enter Tryz.func13, Tryz.ntmps13
  go_wp2_with fail
  rw [← HW2.out]
  refine c.mono ?_
  clear c
  rintro e w3 ⟨rfl, hb3⟩
  have HB3 : Hid (Below w.heap.size w w3) := HB2.out.trans (hb3.mono HB2.out.size)
  clear hb3
  cases R with
  | true =>
    go_wp2
    go_ret
    exact ⟨rfl, HB3.out⟩
  | false =>
    go_wp2
    go_ret
    exact ⟨rfl, HB3.out⟩

set_option maxRecDepth 100000 in
set_option maxHeartbeats 8000000 in
theorem pfBytes_any (S : Nat → Prop) (s : Sn) (bc bh : Option Addr) (nc cc nh ch : Nat) (w : World) (hin : SnIn S w s (.slice bc nc cc) (.slice bh nh ch)) (hsm : SmallS s) (hf : objsF w (.slice bh nh ch) s.heap) :
    Calls Tryz.prog 11 #[snV s (.slice bc nc cc) (.slice bh nh ch)] w fun e w' => (if mayS s = true then e = .returned (.tuple #[.string (strB (snB s)), .int .i64 0]) else e = .returned (.tuple #[.string ⟨#[]⟩, .int .i64 2])) ∧ Below w.heap.size w w' := by
  obtain ⟨w2, hw2, hb2, HZ2, h0⟩ := box1 w (.cells #[.int .i64 s.pos, .int .i64 s.st, .int .i64 s.ft, .slice bc nc cc, .slice bh nh ch, .string (strB s.out), .int .i64 s.rd] 27)
  have HW2 : Hid (w2 = w.alloc (.cells #[.int .i64 s.pos, .int .i64 s.st, .int .i64 s.ft, .slice bc nc cc, .slice bh nh ch, .string (strB s.out), .int .i64 s.rd] 27)) := hw2
  have HB2 : Hid (Below w.heap.size w w2) := hb2
  have HF : Hid (∀ W, Below w2.heap.size w2 W → W.cell? ⟨w.heap.size, 0, none⟩ = some (.int .i64 s.pos) ∧ W.cell? ⟨w.heap.size, 1, none⟩ = some (.int .i64 s.st) ∧ W.cell? ⟨w.heap.size, 2, none⟩ = some (.int .i64 s.ft) ∧ W.cell? ⟨w.heap.size, 3, none⟩ = some (.slice bc nc cc) ∧ W.cell? ⟨w.heap.size, 4, none⟩ = some (.slice bh nh ch) ∧ W.cell? ⟨w.heap.size, 5, none⟩ = some (.string (strB s.out)) ∧ W.cell? ⟨w.heap.size, 6, none⟩ = some (.int .i64 s.rd)) := fun W hW => cells7 ((hW.block w.heap.size (heap_lt h0)).trans h0)
  have c := pfMay_any S s bc bh nc cc nh ch w2 (hin.below hb2) hsm (objsF_below hin.heap hf hb2)
  have CP : Hid (mayS s = true → ∀ W, Below w.heap.size w W → Calls Tryz.prog 27 #[snV s (.slice bc nc cc) (.slice bh nh ch)] W fun e w' => e = .returned (.string (strB (snB s))) ∧ Below W.heap.size W w') := fun h W hW => pfPut_any S s bc bh nc cc nh ch W (hin.below hW) hsm (may_len h hsm)
  obtain ⟨R, hR⟩ : ∃ R, R = mayS s := ⟨_, rfl⟩
  rw [← hR] at c CP ⊢
  obtain ⟨X, hX⟩ : ∃ X, X = snB s := ⟨_, rfl⟩
  rw [← hX] at CP ⊢
  clear hw2 hb2 HZ2 h0 hR hX hin hsm hf
  go_enter Tryz.func11, Tryz.ntmps11
  go_wp2_with fail
  rw [← HW2.out]
  refine c.mono ?_
  clear c
  rintro e w3 ⟨rfl, hb3⟩
  have HB3 : Hid (Below w.heap.size w w3) := HB2.out.trans (hb3.mono HB2.out.size)
  obtain ⟨f0, f1, f2, f3, f4, f5, f6⟩ := HF.out w3 hb3
  clear hb3
  cases R with
  | true =>
    have c := CP.out rfl w3 HB3.out
    go_wp2_with fail
    refine c.mono ?_
    clear c f0 f1 f2 f3 f4 f5 f6
    rintro e w4 ⟨rfl, hb4⟩
    have HB4 : Hid (Below w.heap.size w w4) := HB3.out.trans (hb4.mono HB3.out.size)
    clear hb4
    go_wp2
    go_ret2
    exact ⟨rfl, HB4.out⟩
  | false =>
    go_wp2
    go_ret2
    exact ⟨rfl, HB3.out⟩
end Go.Proofs.YtbdgniiafdjmiaaGreatDoor
