/- LexBack. -/
import Derived.Test.YtjhfkiighphepaaDoorXBackMath
import Derived.Test.YtjhfkiighphepaaDoorXToks
import Derived.BigQuiet
namespace Go.Proofs.YtjhfkiighphepaaDoor
open Go.RowKit Go.Shelf

/-- A token that came in, with its place. -/
structure TI where
  k : Int
  n : Int
  a : Int
  b : Int
  s : List UInt8
def TI.tt (t : TI) : TT := ⟨t.k, t.n, t.s⟩
def tiRow (t : TI) : List Value := [.int .i64 t.k, .string (strB t.s), .int .i64 t.n, .int .i64 t.a, .int .i64 t.b]
def tiCells (ts : List TI) : List Value := ts.flatMap tiRow

theorem tiCells_at : ∀ (ts : List TI) (i : Nat) (h : i < ts.length), (tiCells ts)[i * 5]? = some (.int .i64 (ts[i]).k) ∧ (tiCells ts)[i * 5 + 1]? = some (.string (strB (ts[i]).s)) ∧ (tiCells ts)[i * 5 + 2]? = some (.int .i64 (ts[i]).n)
  | [], _, h => by cases h
  | t :: ts, 0, _ => ⟨rfl, rfl, rfl⟩
  | t :: ts, i + 1, h => by
    have ih := tiCells_at ts i (by simpa using h)
    have e : tiCells (t :: ts) = tiRow t ++ tiCells ts := rfl
    have key : ∀ q, (tiCells (t :: ts))[(i + 1) * 5 + q]? = (tiCells ts)[i * 5 + q]? := fun q => by
      rw [e, List.getElem?_append_right (by simp [tiRow]; omega)]
      congr 1
      simp [tiRow]
      omega
    have k0 := key 0
    simp only [Nat.add_zero] at k0
    rw [k0, key 1, key 2]
    exact ih

/-- Tokens that came in lie there. -/
def toksIn (w : World) (base : Option Addr) (ts : List TI) : Prop :=
  ts.length = 0 ∨ ∃ b o, base = some ⟨b, o, none⟩ ∧ b < w.heap.size ∧ ∀ j (h : j < ts.length), w.cell? ⟨b, o + j * 5, none⟩ = some (.int .i64 (ts[j]).k) ∧ w.cell? ⟨b, o + j * 5 + 1, none⟩ = some (.string (strB (ts[j]).s)) ∧ w.cell? ⟨b, o + j * 5 + 2, none⟩ = some (.int .i64 (ts[j]).n) ∧
    w.cell? ⟨b, o + j * 5 + 3, none⟩ = some (.int .i64 (ts[j]).a) ∧ w.cell? ⟨b, o + j * 5 + 4, none⟩ = some (.int .i64 (ts[j]).b)

theorem below_drewX {n : Nat} {w w' : World} (h : Below n w w') (k : Nat) : Below n w (w'.drewN k) :=
  h.trans (⟨rfl, rfl, rfl, Nat.le_refl _, fun _ _ => rfl⟩ : Below n w' (w'.drewN k))

theorem own_form {w : World} {B e n : Nat} {v : Value} {xs : List Value} (h : w.ownsRow B e 5 v n xs) : ∃ base cap, v = .slice base n cap ∧ (1 ≤ n → ∃ g, base = some ⟨g, 0, none⟩ ∧ g < w.heap.size ∧ n ≤ cap ∧ ∀ j u, xs[j]? = some u → w.cell? ⟨g, j, none⟩ = some u) := by
  rcases Nat.eq_zero_or_pos n with h0 | h0
  · obtain ⟨-, ⟨rfl, rfl⟩ | ⟨g, cap, cur, rfl, -⟩⟩ := h
    · exact ⟨_, _, rfl, fun h => by omega⟩
    · exact ⟨_, _, rfl, fun h => by omega⟩
  · obtain ⟨g, cap, rfl, -, hg, hc, hx⟩ := row_cells h h0
    exact ⟨_, _, rfl, fun _ => ⟨g, rfl, hg, hc, hx⟩⟩

set_option maxRecDepth 100000 in
/-- append of one token's cells onto a row of tokens. -/
theorem append_tokI {ops : Array Oper} {rest : List Oper} {o : Oper} {a : Act} {w : World} {Q : Exit → Act → World → Prop} (hgd : o.guard = none) (s x : Operand)
    (ho : o.op = .call { callee := .builtin .append, args := #[s, x], argTypes := #[22, 22] })
    (B : Nat) (v : Value) (n : Nat) (xs : List Value) (hs : a.eval s = v) (hown : w.ownsRow B 33 5 v n xs) (g : Nat) (cs : List Value) (hx : a.eval x = .slice (some ⟨g, 0, none⟩) 1 1)
    (hcs : cs.length = 5) (hone : ∀ u ∈ cs, u.oneCell' = true) (hc : ∀ j u, cs[j]? = some u → w.cell? ((⟨g, 0, none⟩ : Addr).add j) = some u) (hb : n ≤ 1000000) (hB : B ≤ w.heap.size)
    (h : ∀ v' w', w'.ownsRow B 33 5 v' (n + 1) (xs ++ cs) → w.grownBy w' v.ownBlock → wpList Tryd.prog ops Q rest (a.put o.dst v') w') : wpList Tryd.prog ops Q (o :: rest) a w := by
  obtain ⟨i0, hi, hz0, hz1, hz2⟩ := info_parts info_tok
  refine wpList_append_own _ hgd s x 22 ho B 33 i0 _ 5 48 Tryd.underlying22 hi hz0 hz1 hz2 rfl (by decide) v n _ hs hown ⟨g, 0, none⟩ 1 1 cs hx (by rw [hcs]) hc hone (by unfold maxLen; omega) (by omega) hB ?_
  intro v' w' ho' hg' _
  exact h v' w' ho' hg'

set_option maxRecDepth 100000 in
set_option maxHeartbeats 8000000 in
theorem back_all (base : Option Addr) (cap : Nat) (I : List TI) (w : World) (ht : TabsP w) (hin : toksIn w base I) (hI : ∀ t ∈ I, (-9223372036854775808 ≤ t.n ∧ t.n ≤ 9223372036854775807) ∧ t.s.length ≤ 1048576) (hIl : I.length ≤ 1048576) :
    Calls Tryd.prog 6 #[.slice base I.length cap] w fun e w' => e = .returned (.bool true) ∧ Below w.heap.size w w' := by
  have HT : Hid (TabsP w) := ht
  have HIN : Hid (toksIn w base I) := hin
  have HI : Hid (∀ t ∈ I, (-9223372036854775808 ≤ t.n ∧ t.n ≤ 9223372036854775807) ∧ t.s.length ≤ 1048576) := hI
  clear ht hin hI
  go_enter Tryd.func6, Tryd.ntmps6
  go_wp2
  go_loopw [3, 4, 5] (fun vs vw vi wr => ∃ (i : Nat) (Q : List TI), i ≤ I.length ∧ i ≤ 100 ∧ vi = .int .i64 i ∧ vs = .string (strB (catT (Q.map TI.tt))) ∧ (catT (Q.map TI.tt)).length ≤ 4001 ∧ (∀ t ∈ Q.map TI.tt, okTT t) ∧ Q.length ≤ i ∧
      wr.ownsRow w.heap.size 33 5 vw Q.length (tiCells Q) ∧ Below w.heap.size w wr) (fun _ _ vi _ => I.length - (intOf vi).toNat)
  case atStart => exact ⟨0, [], Nat.zero_le _, Nat.zero_le _, rfl, rfl, by simp [catT], (fun t h => by cases h), Nat.le_refl _, World.ownsRow_nil _ _ _ _, Below.refl _ _⟩
  case round =>
    obtain ⟨i, Q, hi, hi100, rfl, rfl, hcl, hok, hql, hown, hbw⟩ := hrel
    have HOK : Hid (∀ t ∈ Q.map TI.tt, okTT t) := hok
    have HO : Hid (wr.ownsRow w.heap.size 33 5 u4 Q.length (tiCells Q)) := hown
    have HB : Hid (Below w.heap.size w wr) := hbw
    have hszw := hbw.size
    have hszc : (strB (catT (Q.map TI.tt))).size = (catT (Q.map TI.tt)).length := rfl
    clear hok hown hbw
    by_cases hlt : i < I.length
    · by_cases hlt1 : i < 100
      · obtain ⟨b, o, rfl, hb, hcell⟩ : ∃ b o, base = some ⟨b, o, none⟩ ∧ b < w.heap.size ∧ ∀ j (h : j < I.length), w.cell? ⟨b, o + j * 5, none⟩ = some (.int .i64 (I[j]).k) ∧ w.cell? ⟨b, o + j * 5 + 1, none⟩ = some (.string (strB (I[j]).s)) ∧ w.cell? ⟨b, o + j * 5 + 2, none⟩ = some (.int .i64 (I[j]).n) ∧
            w.cell? ⟨b, o + j * 5 + 3, none⟩ = some (.int .i64 (I[j]).a) ∧ w.cell? ⟨b, o + j * 5 + 4, none⟩ = some (.int .i64 (I[j]).b) := by
          rcases HIN.out with h | h
          · omega
          · exact h
        have t := hcell i hlt
        have hti := HI.out I[i] (List.getElem_mem hlt)
        obtain ⟨T, hT⟩ : ∃ T, T = I[i] := ⟨_, rfl⟩
        rw [← hT] at t hti
        have a0 := (below_cell HB.out hb).trans t.1
        have a1 := (below_cell HB.out hb).trans t.2.1
        have a2 := (below_cell HB.out hb).trans t.2.2.1
        have a3 := (below_cell HB.out hb).trans t.2.2.2.1
        have a4 := (below_cell HB.out hb).trans t.2.2.2.2
        have ct := lexText_any T.k T.n T.a T.b T.s wr hti.1.1 hti.1.2 (by omega) (HT.out.below HB.out (Nat.le_refl _))
        have hwl := wrB_len T.k T.n T.s hti.1.1 hti.1.2
        have HTC : Hid (w.cell? ⟨b, o + i * 5, none⟩ = some (.int .i64 T.k) ∧ w.cell? ⟨b, o + i * 5 + 1, none⟩ = some (.string (strB T.s)) ∧ w.cell? ⟨b, o + i * 5 + 2, none⟩ = some (.int .i64 T.n) ∧ w.cell? ⟨b, o + i * 5 + 3, none⟩ = some (.int .i64 T.a) ∧ w.cell? ⟨b, o + i * 5 + 4, none⟩ = some (.int .i64 T.b)) := t
        have HTN : Hid (T.n ≤ 9223372036854775807) := hti.1.2
        have hi2 : (i : Int) < I.length := by omega
        clear t hT hcell
        by_cases hbk : backB T.k T.n T.s
        · have htb : tkB T.k T.n T.s = (wrB T.k T.n T.s, 0) := if_pos hbk
          rw [htb] at ct
          have HBK : Hid (backB T.k T.n T.s) := hbk
          obtain ⟨x, hx⟩ : ∃ x, x = wrB T.k T.n T.s := ⟨_, rfl⟩
          rw [← hx] at ct hwl
          have HX : Hid (x = wrB T.k T.n T.s) := hx
          have hszx : (strB x).size = x.length := rfl
          clear hbk htb hx
          go_wp2_with fail
          refine ct.mono ?_
          clear ct
          rintro e w2 ⟨rfl, hb2⟩
          have HB2 : Hid (Below w.heap.size w w2) := HB.out.trans (hb2.mono hszw)
          have HO2 : Hid (w2.ownsRow w.heap.size 33 5 u4 Q.length (tiCells Q)) := own_blockX HO.out (fun k cur hk => hb2.block k (Array.getElem?_eq_some_iff.1 hk).1)
          have d0 := (below_cell HB2.out hb).trans HTC.out.1
          have d1 := (below_cell HB2.out hb).trans HTC.out.2.1
          have d2 := (below_cell HB2.out hb).trans HTC.out.2.2.1
          have d3 := (below_cell HB2.out hb).trans HTC.out.2.2.2.1
          have d4 := (below_cell HB2.out hb).trans HTC.out.2.2.2.2
          have hsz2 := HB2.out.size
          clear hb2 a0 a1 a2 a3 a4 HB HO hszw
          by_cases hk0 : T.k = 0
          · have hkb : (T.k == 0) = true := by rw [hk0]; rfl
            go_wp2
            exact ⟨⟨i + 1, Q, by omega, by omega, by go_num, rfl, hcl, HOK.out, by omega, HO2.out, HB2.out⟩, by simp [intOf]; omega⟩
          · have hkb : (T.k == 0) = false := by rw [beq_eq_false_iff_ne]; exact hk0
            by_cases hbig : 4000 < (catT (Q.map TI.tt)).length + x.length
            · have hbb : (4000 : Int) < ((catT (Q.map TI.tt)).length : Int) + (x.length : Int) := by omega
              have HB : Hid (Below w.heap.size w w2) := HB2.out
              have HO : Hid (w2.ownsRow w.heap.size 33 5 u4 Q.length (tiCells Q)) := HO2.out
              have hszw := HB.out.size
              clear HB2 HO2 HTC HBK HX HIN d1 d2 d3 d4
              generalize w2 = wr at *
              have hl41 : (catT (Q.map TI.tt)).length ≤ 4096 := by omega
              obtain ⟨ts, e9, hsc, htl, hsame⟩ := scanB_cat (Q.map TI.tt) HOK.out hl41
              rw [List.length_map] at htl
              have HSM : Hid (∀ i (h1 : i < ts.length) (h2 : i < (Q.map TI.tt).length), sameT ts[i] (Q.map TI.tt)[i]) := hsame
              have cs := scan_any (catT (Q.map TI.tt)) wr (HT.out.1.below HB.out (Nat.le_refl _))
              rw [hsc] at cs
              obtain ⟨S3, hS3⟩ : ∃ S, S = strB (catT (Q.map TI.tt)) := ⟨_, rfl⟩
              rw [← hS3] at cs ⊢
              simp only [List.length_append, List.length_singleton, htl] at cs
              have HTL : Hid (ts.length = Q.length) := htl
              have hS3z : S3.size = (catT (Q.map TI.tt)).length := by rw [hS3]; rfl
              clear hsc hsame htl hS3
              go_wp2_with fail
              refine cs.mono ?_
              clear cs
              rintro e w2 ⟨r2, rfl, ho2, hb2⟩
              have HB2 : Hid (Below w.heap.size w w2) := HB.out.trans (hb2.mono hszw)
              have hs2 : wr.heap.size ≤ w2.heap.size := hb2.size
              have HO2 : Hid (w2.ownsRow w.heap.size 33 5 u4 Q.length (tiCells Q)) := own_blockX HO.out (fun k cur hk => hb2.block k (Array.getElem?_eq_some_iff.1 hk).1)
              obtain ⟨g1, cap1, rfl, -, hg1, hcp1, hc1⟩ := row_cells ho2 (by omega)
              have HC1 : Hid (∀ j u, (tkCells (ts ++ [e9]))[j]? = some u → w2.cell? ⟨g1, j, none⟩ = some u) := hc1
              obtain ⟨b4, cap4, hu4, hf4⟩ := own_form HO2.out
              subst hu4
              have HF4 : Hid (1 ≤ Q.length → ∃ g, b4 = some ⟨g, 0, none⟩ ∧ g < w2.heap.size ∧ Q.length ≤ cap4 ∧ ∀ j u, (tiCells Q)[j]? = some u → w2.cell? ⟨g, j, none⟩ = some u) := hf4
              have hmx := row_max HO2.out
              unfold maxLen at hmx
              clear ho2 hb2 hc1 hf4
              have hnn : ((Q.length : Int) + 1 != (Q.length : Int) + 1) = false := by simp
              go_wp2
              go_loopw [11] (fun vi wq => ∃ i : Nat, i ≤ Q.length ∧ vi = .int .i64 i ∧ Below w2.heap.size w2 wq) (fun vi _ => Q.length - (intOf vi).toNat)
              case atStart => exact ⟨0, Nat.zero_le _, rfl, Below.refl _ _⟩
              case round =>
                obtain ⟨i2, hi2, rfl, hbq⟩ := hrel
                have HBQ : Hid (Below w2.heap.size w2 wr) := hbq
                have hsq := hbq.size
                clear hbq
                by_cases hlt2 : i2 < Q.length
                · obtain ⟨g2, rfl, hg2, hcp2, hc2⟩ := HF4.out (by omega)
                  have ta := tkCells_at (ts ++ [e9]) i2 (by rw [List.length_append, HTL.out]; omega)
                  have tb := tiCells_at Q i2 hlt2
                  have hsm := HSM.out i2 (by rw [HTL.out]; exact hlt2) (by rw [List.length_map]; exact hlt2)
                  rw [List.getElem_map] at hsm
                  have eA : (ts ++ [e9])[i2]'(by rw [List.length_append, HTL.out]; omega) = ts[i2]'(by rw [HTL.out]; exact hlt2) := List.getElem_append_left _
                  rw [eA] at ta
                  obtain ⟨T, hT⟩ : ∃ T, T = Q[i2] := ⟨_, rfl⟩
                  rw [← hT] at tb hsm
                  obtain ⟨s1, s2, s3, s4⟩ := hsm
                  have a0 := (below_cell HBQ.out hg1).trans (HC1.out _ _ ta.1)
                  have a1 := (below_cell HBQ.out hg1).trans (HC1.out _ _ ta.2.1)
                  have a2 := (below_cell HBQ.out hg1).trans (HC1.out _ _ ta.2.2.1)
                  have a3 := (below_cell HBQ.out hg1).trans (HC1.out _ _ ta.2.2.2.1)
                  rw [s1] at a0
                  rw [s2] at a1
                  rw [s3] at a2
                  rw [s4] at a3
                  have a3' : wr.cell? ⟨g1, i2 * 5 + 3, none⟩ = some (.int .i64 1) := a3
                  have a0' : wr.cell? ⟨g1, i2 * 5, none⟩ = some (.int .i64 T.k) := a0
                  have a1' : wr.cell? ⟨g1, i2 * 5 + 1, none⟩ = some (.string (strB T.s)) := a1
                  have a2' : wr.cell? ⟨g1, i2 * 5 + 2, none⟩ = some (.int .i64 T.n) := a2
                  clear a0 a1 a2 a3
                  have b0 := (below_cell HBQ.out hg2).trans (hc2 _ _ tb.1)
                  have b1 := (below_cell HBQ.out hg2).trans (hc2 _ _ tb.2.1)
                  have b2 := (below_cell HBQ.out hg2).trans (hc2 _ _ tb.2.2)
                  clear ta tb eA hT s1 s2 s3 s4 hc2
                  have hi0 : (i2 : Int) < Q.length := by omega
                  have hi1 : (i2 : Int) < (Q.length : Int) + 1 := by omega
                  have ni1 : i2 < Q.length + 1 := by omega
                  go_wp2
                  go_quiet (fail)
                  go_wp2
                  refine ⟨⟨i2 + 1, by omega, by go_num, below_drewX HBQ.out _⟩, ?_⟩
                  simp [intOf]
                  omega
                · obtain rfl : i2 = Q.length := by omega
                  have c4 := lives03_any wr ((HT.out.1.below HB2.out (Nat.le_refl _)).below HBQ.out (Nat.le_refl _))
                  have hs9 := HB2.out.size
                  go_wp2_with fail
                  refine c4.mono ?_
                  clear c4
                  rintro e w4 ⟨rfl, hb4⟩
                  have HB4 : Hid (Below w.heap.size w w4) := (HB2.out.trans (HBQ.out.mono hs9)).trans (hb4.mono (by omega))
                  clear hb4
                  go_wp2
                  go_ret
                  exact ⟨rfl, HB4.out⟩
            · have hbb : ¬ (4000 : Int) < ((catT (Q.map TI.tt)).length : Int) + (x.length : Int) := by omega
              have HCT : Hid (catT ((Q ++ [T]).map TI.tt) = catT (Q.map TI.tt) ++ (32 :: x)) := by
                show _ = _
                rw [List.map_append, List.map_singleton, catT_snoc, HX.out]
                rfl
              have HOKN : Hid (∀ t ∈ (Q ++ [T]).map TI.tt, okTT t) := fun t ht => by
                rw [List.map_append, List.mem_append] at ht
                rcases ht with h | h
                · exact HOK.out t h
                · rw [List.map_singleton, List.mem_singleton] at h
                  rw [h]
                  exact ⟨HBK.out, hk0, HTN.out⟩
              have hcat : strB (catT (Q.map TI.tt)) ++ ⟨#[32]⟩ ++ strB x = strB (catT (Q.map TI.tt) ++ (32 :: x)) := by
                show strB (catT (Q.map TI.tt)) ++ strB [32] ++ strB x = _
                rw [strB_append, strB_append]
                simp
              obtain ⟨Y, hY⟩ : ∃ Y, Y = catT (Q.map TI.tt) := ⟨_, rfl⟩
              rw [← hY] at hcat hcl hszc hbig hbb HCT ⊢
              have hsp : (strB Y ++ ⟨#[32]⟩).size = Y.length + 1 := by
                show (strB Y ++ strB [32]).size = _
                rw [strB_append, strB_size, List.length_append]; rfl
              clear hY
              go_wp2_with (at_builtin; refine append_tokI rfl _ _ rfl w.heap.size _ Q.length (tiCells Q) rfl (HO2.out.alloc _) _ [.int .i64 T.k, .string (strB T.s), .int .i64 T.n, .int .i64 T.a, .int .i64 T.b] rfl rfl (by simp [Value.oneCell']) (cells_new _ _ _) (by omega) (by simp; omega) ?_; intro v4 w4 hown4 hgrow)
              have HB4 : Hid (Below w.heap.size w w4) := (HB2.out.alloc hsz2 _).grown hgrow (by simp; omega) (fun q hq => (HO2.out.lt q hq).1)
              have HO4 : Hid (w4.ownsRow w.heap.size 33 5 v4 (Q ++ [T]).length (tiCells (Q ++ [T]))) := by
                show w4.ownsRow _ _ _ _ _ _
                have e9 : tiCells (Q ++ [T]) = tiCells Q ++ [.int .i64 T.k, .string (strB T.s), .int .i64 T.n, .int .i64 T.a, .int .i64 T.b] := by unfold tiCells; rw [List.flatMap_append]; rfl
                rw [e9, List.length_append]
                exact hown4
              refine ⟨⟨i + 1, Q ++ [T], by omega, by omega, by go_num, by rw [HCT.out], by rw [HCT.out, List.length_append, List.length_cons]; omega, HOKN.out, by simp; omega, HO4.out, HB4.out⟩, by simp [intOf]; omega⟩
        · have htb : tkB T.k T.n T.s = ([], 2) := if_neg hbk
          rw [htb] at ct
          clear hbk htb
          go_wp2_with fail
          refine ct.mono ?_
          clear ct
          rintro e w2 ⟨rfl, hb2⟩
          have HB2 : Hid (Below w.heap.size w w2) := HB.out.trans (hb2.mono hszw)
          have HO2 : Hid (w2.ownsRow w.heap.size 33 5 u4 Q.length (tiCells Q)) := own_blockX HO.out (fun k cur hk => hb2.block k (Array.getElem?_eq_some_iff.1 hk).1)
          clear hb2
          go_wp2
          exact ⟨⟨i + 1, Q, by omega, by omega, by go_num, rfl, hcl, HOK.out, by omega, HO2.out, HB2.out⟩, by simp [intOf]; omega⟩
      · obtain rfl : i = 100 := by omega
        have hi2 : ((100 : Nat) : Int) < I.length := by omega
        have hl41 : (catT (Q.map TI.tt)).length ≤ 4096 := by omega
        obtain ⟨ts, e9, hsc, htl, hsame⟩ := scanB_cat (Q.map TI.tt) HOK.out hl41
        rw [List.length_map] at htl
        have HSM : Hid (∀ i (h1 : i < ts.length) (h2 : i < (Q.map TI.tt).length), sameT ts[i] (Q.map TI.tt)[i]) := hsame
        have cs := scan_any (catT (Q.map TI.tt)) wr (HT.out.1.below HB.out (Nat.le_refl _))
        rw [hsc] at cs
        obtain ⟨S3, hS3⟩ : ∃ S, S = strB (catT (Q.map TI.tt)) := ⟨_, rfl⟩
        rw [← hS3] at cs ⊢
        simp only [List.length_append, List.length_singleton, htl] at cs
        have HTL : Hid (ts.length = Q.length) := htl
        have hS3z : S3.size = (catT (Q.map TI.tt)).length := by rw [hS3]; rfl
        clear hsc hsame htl hS3
        go_wp2_with fail
        refine cs.mono ?_
        clear cs
        rintro e w2 ⟨r2, rfl, ho2, hb2⟩
        have HB2 : Hid (Below w.heap.size w w2) := HB.out.trans (hb2.mono hszw)
        have hs2 : wr.heap.size ≤ w2.heap.size := hb2.size
        have HO2 : Hid (w2.ownsRow w.heap.size 33 5 u4 Q.length (tiCells Q)) := own_blockX HO.out (fun k cur hk => hb2.block k (Array.getElem?_eq_some_iff.1 hk).1)
        obtain ⟨g1, cap1, rfl, -, hg1, hcp1, hc1⟩ := row_cells ho2 (by omega)
        have HC1 : Hid (∀ j u, (tkCells (ts ++ [e9]))[j]? = some u → w2.cell? ⟨g1, j, none⟩ = some u) := hc1
        obtain ⟨b4, cap4, hu4, hf4⟩ := own_form HO2.out
        subst hu4
        have HF4 : Hid (1 ≤ Q.length → ∃ g, b4 = some ⟨g, 0, none⟩ ∧ g < w2.heap.size ∧ Q.length ≤ cap4 ∧ ∀ j u, (tiCells Q)[j]? = some u → w2.cell? ⟨g, j, none⟩ = some u) := hf4
        have hmx := row_max HO2.out
        unfold maxLen at hmx
        clear ho2 hb2 hc1 hf4
        have hnn : ((Q.length : Int) + 1 != (Q.length : Int) + 1) = false := by simp
        go_wp2
        go_loopw [11] (fun vi wq => ∃ i : Nat, i ≤ Q.length ∧ vi = .int .i64 i ∧ Below w2.heap.size w2 wq) (fun vi _ => Q.length - (intOf vi).toNat)
        case atStart => exact ⟨0, Nat.zero_le _, rfl, Below.refl _ _⟩
        case round =>
          obtain ⟨i2, hi2, rfl, hbq⟩ := hrel
          have HBQ : Hid (Below w2.heap.size w2 wr) := hbq
          have hsq := hbq.size
          clear hbq
          by_cases hlt2 : i2 < Q.length
          · obtain ⟨g2, rfl, hg2, hcp2, hc2⟩ := HF4.out (by omega)
            have ta := tkCells_at (ts ++ [e9]) i2 (by rw [List.length_append, HTL.out]; omega)
            have tb := tiCells_at Q i2 hlt2
            have hsm := HSM.out i2 (by rw [HTL.out]; exact hlt2) (by rw [List.length_map]; exact hlt2)
            rw [List.getElem_map] at hsm
            have eA : (ts ++ [e9])[i2]'(by rw [List.length_append, HTL.out]; omega) = ts[i2]'(by rw [HTL.out]; exact hlt2) := List.getElem_append_left _
            rw [eA] at ta
            obtain ⟨T, hT⟩ : ∃ T, T = Q[i2] := ⟨_, rfl⟩
            rw [← hT] at tb hsm
            obtain ⟨s1, s2, s3, s4⟩ := hsm
            have a0 := (below_cell HBQ.out hg1).trans (HC1.out _ _ ta.1)
            have a1 := (below_cell HBQ.out hg1).trans (HC1.out _ _ ta.2.1)
            have a2 := (below_cell HBQ.out hg1).trans (HC1.out _ _ ta.2.2.1)
            have a3 := (below_cell HBQ.out hg1).trans (HC1.out _ _ ta.2.2.2.1)
            rw [s1] at a0
            rw [s2] at a1
            rw [s3] at a2
            rw [s4] at a3
            have a3' : wr.cell? ⟨g1, i2 * 5 + 3, none⟩ = some (.int .i64 1) := a3
            have a0' : wr.cell? ⟨g1, i2 * 5, none⟩ = some (.int .i64 T.k) := a0
            have a1' : wr.cell? ⟨g1, i2 * 5 + 1, none⟩ = some (.string (strB T.s)) := a1
            have a2' : wr.cell? ⟨g1, i2 * 5 + 2, none⟩ = some (.int .i64 T.n) := a2
            clear a0 a1 a2 a3
            have b0 := (below_cell HBQ.out hg2).trans (hc2 _ _ tb.1)
            have b1 := (below_cell HBQ.out hg2).trans (hc2 _ _ tb.2.1)
            have b2 := (below_cell HBQ.out hg2).trans (hc2 _ _ tb.2.2)
            clear ta tb eA hT s1 s2 s3 s4 hc2
            have hi0 : (i2 : Int) < Q.length := by omega
            have hi1 : (i2 : Int) < (Q.length : Int) + 1 := by omega
            have ni1 : i2 < Q.length + 1 := by omega
            go_wp2
            go_quiet (fail)
            go_wp2
            refine ⟨⟨i2 + 1, by omega, by go_num, below_drewX HBQ.out _⟩, ?_⟩
            simp [intOf]
            omega
          · obtain rfl : i2 = Q.length := by omega
            have c4 := lives03_any wr ((HT.out.1.below HB2.out (Nat.le_refl _)).below HBQ.out (Nat.le_refl _))
            have hs9 := HB2.out.size
            go_wp2_with fail
            refine c4.mono ?_
            clear c4
            rintro e w4 ⟨rfl, hb4⟩
            have HB4 : Hid (Below w.heap.size w w4) := (HB2.out.trans (HBQ.out.mono hs9)).trans (hb4.mono (by omega))
            clear hb4
            go_wp2
            go_ret
            exact ⟨rfl, HB4.out⟩
    · have hi2 : ¬ (i : Int) < I.length := by omega
      have hl41 : (catT (Q.map TI.tt)).length ≤ 4096 := by omega
      obtain ⟨ts, e9, hsc, htl, hsame⟩ := scanB_cat (Q.map TI.tt) HOK.out hl41
      rw [List.length_map] at htl
      have HSM : Hid (∀ i (h1 : i < ts.length) (h2 : i < (Q.map TI.tt).length), sameT ts[i] (Q.map TI.tt)[i]) := hsame
      have cs := scan_any (catT (Q.map TI.tt)) wr (HT.out.1.below HB.out (Nat.le_refl _))
      rw [hsc] at cs
      obtain ⟨S3, hS3⟩ : ∃ S, S = strB (catT (Q.map TI.tt)) := ⟨_, rfl⟩
      rw [← hS3] at cs ⊢
      simp only [List.length_append, List.length_singleton, htl] at cs
      have HTL : Hid (ts.length = Q.length) := htl
      have hS3z : S3.size = (catT (Q.map TI.tt)).length := by rw [hS3]; rfl
      clear hsc hsame htl hS3
      go_wp2_with fail
      refine cs.mono ?_
      clear cs
      rintro e w2 ⟨r2, rfl, ho2, hb2⟩
      have HB2 : Hid (Below w.heap.size w w2) := HB.out.trans (hb2.mono hszw)
      have hs2 : wr.heap.size ≤ w2.heap.size := hb2.size
      have HO2 : Hid (w2.ownsRow w.heap.size 33 5 u4 Q.length (tiCells Q)) := own_blockX HO.out (fun k cur hk => hb2.block k (Array.getElem?_eq_some_iff.1 hk).1)
      obtain ⟨g1, cap1, rfl, -, hg1, hcp1, hc1⟩ := row_cells ho2 (by omega)
      have HC1 : Hid (∀ j u, (tkCells (ts ++ [e9]))[j]? = some u → w2.cell? ⟨g1, j, none⟩ = some u) := hc1
      obtain ⟨b4, cap4, hu4, hf4⟩ := own_form HO2.out
      subst hu4
      have HF4 : Hid (1 ≤ Q.length → ∃ g, b4 = some ⟨g, 0, none⟩ ∧ g < w2.heap.size ∧ Q.length ≤ cap4 ∧ ∀ j u, (tiCells Q)[j]? = some u → w2.cell? ⟨g, j, none⟩ = some u) := hf4
      have hmx := row_max HO2.out
      unfold maxLen at hmx
      clear ho2 hb2 hc1 hf4
      have hnn : ((Q.length : Int) + 1 != (Q.length : Int) + 1) = false := by simp
      go_wp2
      go_loopw [11] (fun vi wq => ∃ i : Nat, i ≤ Q.length ∧ vi = .int .i64 i ∧ Below w2.heap.size w2 wq) (fun vi _ => Q.length - (intOf vi).toNat)
      case atStart => exact ⟨0, Nat.zero_le _, rfl, Below.refl _ _⟩
      case round =>
        obtain ⟨i2, hi2, rfl, hbq⟩ := hrel
        have HBQ : Hid (Below w2.heap.size w2 wr) := hbq
        have hsq := hbq.size
        clear hbq
        by_cases hlt2 : i2 < Q.length
        · obtain ⟨g2, rfl, hg2, hcp2, hc2⟩ := HF4.out (by omega)
          have ta := tkCells_at (ts ++ [e9]) i2 (by rw [List.length_append, HTL.out]; omega)
          have tb := tiCells_at Q i2 hlt2
          have hsm := HSM.out i2 (by rw [HTL.out]; exact hlt2) (by rw [List.length_map]; exact hlt2)
          rw [List.getElem_map] at hsm
          have eA : (ts ++ [e9])[i2]'(by rw [List.length_append, HTL.out]; omega) = ts[i2]'(by rw [HTL.out]; exact hlt2) := List.getElem_append_left _
          rw [eA] at ta
          obtain ⟨T, hT⟩ : ∃ T, T = Q[i2] := ⟨_, rfl⟩
          rw [← hT] at tb hsm
          obtain ⟨s1, s2, s3, s4⟩ := hsm
          have a0 := (below_cell HBQ.out hg1).trans (HC1.out _ _ ta.1)
          have a1 := (below_cell HBQ.out hg1).trans (HC1.out _ _ ta.2.1)
          have a2 := (below_cell HBQ.out hg1).trans (HC1.out _ _ ta.2.2.1)
          have a3 := (below_cell HBQ.out hg1).trans (HC1.out _ _ ta.2.2.2.1)
          rw [s1] at a0
          rw [s2] at a1
          rw [s3] at a2
          rw [s4] at a3
          have a3' : wr.cell? ⟨g1, i2 * 5 + 3, none⟩ = some (.int .i64 1) := a3
          have a0' : wr.cell? ⟨g1, i2 * 5, none⟩ = some (.int .i64 T.k) := a0
          have a1' : wr.cell? ⟨g1, i2 * 5 + 1, none⟩ = some (.string (strB T.s)) := a1
          have a2' : wr.cell? ⟨g1, i2 * 5 + 2, none⟩ = some (.int .i64 T.n) := a2
          clear a0 a1 a2 a3
          have b0 := (below_cell HBQ.out hg2).trans (hc2 _ _ tb.1)
          have b1 := (below_cell HBQ.out hg2).trans (hc2 _ _ tb.2.1)
          have b2 := (below_cell HBQ.out hg2).trans (hc2 _ _ tb.2.2)
          clear ta tb eA hT s1 s2 s3 s4 hc2
          have hi0 : (i2 : Int) < Q.length := by omega
          have hi1 : (i2 : Int) < (Q.length : Int) + 1 := by omega
          have ni1 : i2 < Q.length + 1 := by omega
          go_wp2
          go_quiet (fail)
          go_wp2
          refine ⟨⟨i2 + 1, by omega, by go_num, below_drewX HBQ.out _⟩, ?_⟩
          simp [intOf]
          omega
        · obtain rfl : i2 = Q.length := by omega
          have c4 := lives03_any wr ((HT.out.1.below HB2.out (Nat.le_refl _)).below HBQ.out (Nat.le_refl _))
          have hs9 := HB2.out.size
          go_wp2_with fail
          refine c4.mono ?_
          clear c4
          rintro e w4 ⟨rfl, hb4⟩
          have HB4 : Hid (Below w.heap.size w w4) := (HB2.out.trans (HBQ.out.mono hs9)).trans (hb4.mono (by omega))
          clear hb4
          go_wp2
          go_ret
          exact ⟨rfl, HB4.out⟩
end Go.Proofs.YtjhfkiighphepaaDoor
