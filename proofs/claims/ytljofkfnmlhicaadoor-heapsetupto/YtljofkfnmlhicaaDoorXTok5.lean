/- lex: a text at the front; a token at the front. -/
import Derived.Test.YtljofkfnmlhicaaDoorXTok4
namespace Go.Proofs.YtljofkfnmlhicaaDoor
open Go.RowKit

/-- A text, from a place behind its first sign on; what it stands for so far. -/
def textF : Nat → List UInt8 → Nat → List UInt8 → TR
  | 0, _, _, _ => ⟨0, [], 0, 0, 6⟩
  | _ + 1, _, _, [] => ⟨0, [], 0, 0, 6⟩
  | f + 1, meant, at0, x :: r => if x.toNat = 34 then ⟨3, meant, 0, at0 + 1, 0⟩ else if (tbR (x :: r)).2 = 0 then ⟨0, [], 0, 0, 6⟩ else if meant.length = 255 then ⟨0, [], 0, 0, 5⟩
    else textF f (meant ++ [(tbR (x :: r)).1.toUInt8]) (at0 + (tbR (x :: r)).2) ((x :: r).drop (tbR (x :: r)).2)
def textT (l : List UInt8) : TR := textF l.length [] 1 (l.drop 1)

theorem tbR_le (l : List UInt8) : (tbR l).2 ≤ l.length ∧ (tbR l).1 < 256 := by
  cases l with
  | nil => exact ⟨Nat.le_refl _, by decide⟩
  | cons x r =>
    by_cases h : x.toNat < 32 ∨ 126 < x.toNat
    · rw [tbR_bad h]; simp
    · by_cases h2 : x.toNat = 92
      · cases r with
        | nil => rw [tbR_end h h2]; simp
        | cons y t =>
          rw [tbR_two h h2]
          unfold tbE
          split
          · simp
          · split
            · simp
            · split <;> simp
      · rw [tbR_one h h2]
        have := UInt8.toNat_lt x
        simp; omega

abbrev tokZ : Obj := Obj.cells #[Value.int IntKind.i64 0, Value.string ⟨#[]⟩, Value.int IntKind.i64 0, Value.int IntKind.i64 0, Value.int IntKind.i64 0] 89

/-- The place of a result is as it was made. -/
theorem tok_kept {w w1 : World} (hb : Below (w.heap.size + 1) (w.alloc tokZ) w1) :
    (∀ o, w1.cell? ⟨w.heap.size, o, none⟩ = (w.alloc tokZ).cell? ⟨w.heap.size, o, none⟩) ∧ (∀ o, w1.frozen? ⟨w.heap.size, o, none⟩ = (w.alloc tokZ).frozen? ⟨w.heap.size, o, none⟩) :=
  ⟨fun o => hb.cell (p := ⟨w.heap.size, o, none⟩) (by simp), fun o => hb.frozen (p := ⟨w.heap.size, o, none⟩) (by simp)⟩

theorem below_set5 {w w1 : World} (h : Below w.heap.size w w1) (a b c d e : Value) :
    Below w.heap.size w (((((w1.setCell ⟨w.heap.size, 0, none⟩ a).setCell ⟨w.heap.size, 1, none⟩ b).setCell ⟨w.heap.size, 2, none⟩ c).setCell ⟨w.heap.size, 3, none⟩ d).setCell ⟨w.heap.size, 4, none⟩ e) :=
  ((((h.setCell (p := ⟨w.heap.size, 0, none⟩) (Nat.le_refl _) _).setCell (p := ⟨w.heap.size, 1, none⟩) (Nat.le_refl _) _).setCell (p := ⟨w.heap.size, 2, none⟩) (Nat.le_refl _) _).setCell (p := ⟨w.heap.size, 3, none⟩) (Nat.le_refl _) _).setCell (p := ⟨w.heap.size, 4, none⟩) (Nat.le_refl _) _

theorem own_keptX {w w' : World} {B C e n : Nat} {v : Value} {xs : List Value} (h : w.ownsRow B e 1 v n xs) (hb : Below C w w') (hC : w.heap.size ≤ C) : w'.ownsRow B e 1 v n xs :=
  h.kept (row := none) ⟨hb.os, hb.tape, hb.output, hb.size, fun k hk _ => hb.block k (by omega)⟩ (by cases h' : v.ownBlock <;> simp)

set_option maxHeartbeats 4000000 in
set_option maxRecDepth 100000 in
theorem textToken_any (l : List UInt8) (w : World) (hl : l.length ≤ 140737488351232) (hl1 : 1 ≤ l.length) (ht : Tabs w) :
    Calls Tryd.prog 74 #[.string (strB l)] w fun e w' => e = .returned (resV (textT l)) ∧ Below w.heap.size w w' := by
  have HT : Hid (Tabs w) := ht
  have hsz : (strB l).size = l.length := rfl
  have hA : Below w.heap.size w (w.alloc tokZ) := (Below.refl w.heap.size w).alloc (Nat.le_refl _) _
  have HA : Hid (Below w.heap.size w (w.alloc tokZ)) := hA
  clear ht hA
  go_enter Tryd.func74, Tryd.ntmps74
  go_wp2
  go_loopw [5, 6] (fun vm va wr => ∃ (f at0 : Nat) (meant : List UInt8), va = .int .i64 at0 ∧ at0 ≤ l.length ∧ l.length ≤ at0 + f ∧ meant.length ≤ 255 ∧ textT l = textF f meant at0 (l.drop at0) ∧
      wr.ownsRow (w.heap.size + 1) 5 1 vm meant.length (Lib.byteCells meant) ∧ Below (w.heap.size + 1) (w.alloc tokZ) wr) (fun _ a _ => l.length - (intOf a).toNat)
  case atStart => exact ⟨l.length, 1, [], rfl, hl1, by omega, by simp, rfl, World.ownsRow_nil _ _ _ _, Below.refl _ _⟩
  case round =>
    obtain ⟨f, at0, meant, rfl, hat, hfu, hme, htx, hown, hbw⟩ := hrel
    have HTX : Hid (textT l = textF f meant at0 (l.drop at0)) := htx
    have HBW : Hid (Below (w.heap.size + 1) (w.alloc tokZ) wr) := hbw
    have HB : Hid (Below w.heap.size w wr) := HA.out.trans (hbw.mono (by omega))
    have hszw := hbw.size
    rw [World.size_alloc] at hszw
    obtain ⟨hc1, hf1⟩ := tok_kept hbw
    have HO : Hid (wr.ownsRow (w.heap.size + 1) 5 1 u5 meant.length (Lib.byteCells meant)) := hown
    clear htx hbw hown
    by_cases hlt : at0 < l.length
    · obtain ⟨x, r, hxr⟩ : ∃ x r, l.drop at0 = x :: r := ⟨l[at0], l.drop (at0 + 1), List.drop_eq_getElem_cons hlt⟩
      have hx0 : l[at0] = x := by
        have h := List.drop_eq_getElem_cons hlt
        rw [hxr] at h
        exact (List.cons.inj h).1.symm
      have hidx := fun wx => str_at wx l at0 hlt
      rw [hx0] at hidx
      obtain ⟨n, hn⟩ : ∃ n, n = x.toNat := ⟨_, rfl⟩
      rw [← hn] at hidx
      have hn256 : n < 256 := by rw [hn]; exact UInt8.toNat_lt x
      obtain ⟨f', rfl⟩ : ∃ f', f = f' + 1 := ⟨f - 1, by omega⟩
      have HT1 : Hid (textT l = if n = 34 then ⟨3, meant, 0, at0 + 1, 0⟩ else if (tbR (x :: r)).2 = 0 then ⟨0, [], 0, 0, 6⟩ else if meant.length = 255 then ⟨0, [], 0, 0, 5⟩ else textF f' (meant ++ [(tbR (x :: r)).1.toUInt8]) (at0 + (tbR (x :: r)).2) ((x :: r).drop (tbR (x :: r)).2)) := show _ = _ by
        rw [HTX.out, hxr, hn]; rfl
      have hsl := fun wx => str_from wx l at0 (by omega)
      rw [hxr] at hsl
      have hrl : (x :: r).length = l.length - at0 := by rw [← hxr, List.length_drop]
      have HXR : Hid (l.drop at0 = x :: r) := hxr
      clear hx0 hn hxr
      by_cases h34 : n = 34
      · have HR : Hid (textT l = ⟨3, meant, 0, at0 + 1, 0⟩) := show _ = _ by rw [HT1.out, if_pos h34]
        subst h34
        obtain ⟨baseM, capM, rfl, hrowM, -, -, -⟩ := own_row HO.out
        have hcv := conv_row wr baseM meant capM hrowM
        clear hrowM
        go_wp2
        refine bodyPost_ret (v := resV ⟨3, meant, 0, at0 + 1, 0⟩) (by simp [results, Tryd.results74, go_sem, resV, hc1]) rfl ⟨by rw [HR.out], ?_⟩
        exact below_set5 HB.out _ _ _ _ _
      · have h34b : ((n : Int) == 34) = false := by rw [beq_eq_false_iff_ne]; omega
        have htb := tbR_le (x :: r)
        have cb := textByte_any x r wr (by simp at hrl; omega) (HT.out.below HB.out (Nat.le_refl _))
        obtain ⟨c, sz, hcs⟩ : ∃ c sz, tbR (x :: r) = (c, sz) := ⟨_, _, rfl⟩
        rw [hcs] at cb htb
        simp only at htb
        have HT2 : Hid (textT l = if sz = 0 then ⟨0, [], 0, 0, 6⟩ else if meant.length = 255 then ⟨0, [], 0, 0, 5⟩ else textF f' (meant ++ [c.toUInt8]) (at0 + sz) ((x :: r).drop sz)) := show _ = _ by
          rw [HT1.out, if_neg h34, hcs]
        clear hcs h34
        go_wp2_with fail
        refine cb.mono ?_
        clear cb hc1 hf1
        rintro e w2 ⟨rfl, hb2⟩
        have hsz2 := hb2.size
        have hB2 : Below (w.heap.size + 1) (w.alloc tokZ) w2 := HBW.out.trans (hb2.mono hszw)
        obtain ⟨hc1, hf1⟩ := tok_kept hB2
        have HB2 : Hid (Below (w.heap.size + 1) (w.alloc tokZ) w2) := hB2
        have HB3 : Hid (Below w.heap.size w w2) := HA.out.trans (hB2.mono (by omega))
        have HO2 : Hid (w2.ownsRow (w.heap.size + 1) 5 1 u5 meant.length (Lib.byteCells meant)) := own_keptX HO.out hb2 (Nat.le_refl _)
        clear hb2 hB2 HO HBW
        by_cases hs0 : sz = 0
        · have HR : Hid (textT l = ⟨0, [], 0, 0, 6⟩) := show _ = _ by rw [HT2.out, if_pos hs0]
          subst hs0
          go_wp2
          refine bodyPost_ret (v := resV ⟨0, [], 0, 0, 6⟩) (by simp [results, Tryd.results74, go_sem, resV, hc1]) rfl ⟨by rw [HR.out], ?_⟩
          exact below_set5 HB3.out _ _ _ _ _
        · have hs0b : ((sz : Int) == 0) = false := by rw [beq_eq_false_iff_ne]; omega
          obtain ⟨baseM, capM, rfl, -, -, -, -⟩ := own_row HO2.out
          obtain ⟨ml, hml⟩ : ∃ ml, ml = meant.length := ⟨_, rfl⟩
          have HML : Hid (ml = meant.length) := hml
          rw [← hml]
          by_cases h255 : ml = 255
          · have HR : Hid (textT l = ⟨0, [], 0, 0, 5⟩) := show _ = _ by rw [HT2.out, if_neg hs0, if_pos (by rw [← hml]; exact h255)]
            clear hml
            subst h255
            go_wp2
            refine bodyPost_ret (v := resV ⟨0, [], 0, 0, 5⟩) (by simp [results, Tryd.results74, go_sem, resV, hc1]) rfl ⟨by rw [HR.out], ?_⟩
            exact below_set5 HB3.out _ _ _ _ _
          · have h255b : ((ml : Int) == 255) = false := by rw [beq_eq_false_iff_ne]; omega
            have HR : Hid (textT l = textF f' (meant ++ [c.toUInt8]) (at0 + sz) (l.drop (at0 + sz))) := show _ = _ by
              rw [HT2.out, if_neg hs0, if_neg (by rw [← hml]; exact h255), ← HXR.out, List.drop_drop]
            have HO3 : Hid (w2.ownsRow (w.heap.size + 1) 5 1 (.slice baseM ml capM) meant.length (Lib.byteCells meant)) := by rw [hml]; exact HO2.out
            have hc256 := htb.2
            have hszl := htb.1
            rw [hrl] at hszl
            have hmlb : meant.length ≤ 255 := hme
            clear hml HO2 htb
            go_wp2_with (at_builtin; refine append_bytes rfl _ _ rfl (w.heap.size + 1) _ meant rfl (HO3.out.alloc _) _ [c.toUInt8] rfl (bytesAt_one hc256 (by simp)) (by simp; omega) (by simp; omega) ?_)
            intro v3 w3 hown3 hgrow
            have HB4 : Hid (Below (w.heap.size + 1) (w.alloc tokZ) w3) := (HB2.out.alloc (by omega) _).grown hgrow (by simp; omega) (fun q hq => (HO3.out.lt q hq).1)
            have HO4 : Hid (w3.ownsRow (w.heap.size + 1) 5 1 v3 (meant ++ [c.toUInt8]).length (Lib.byteCells (meant ++ [c.toUInt8]))) := by
              rw [show (meant ++ [c.toUInt8]).length = meant.length + 1 by simp]; exact hown3
            clear hgrow hown3
            go_wp2
            refine ⟨⟨f', at0 + sz, meant ++ [c.toUInt8], by go_num, by omega, by omega, ?_, HR.out, HO4.out, HB4.out⟩, by simp [intOf]; omega⟩
            rw [List.length_append, List.length_singleton, ← HML.out]
            have := HML.out
            omega
    · obtain rfl : at0 = l.length := by omega
      have HR : Hid (textT l = ⟨0, [], 0, 0, 6⟩) := show _ = _ by
        rw [HTX.out, List.drop_length]; cases f <;> rfl
      go_wp2
      refine bodyPost_ret (v := resV ⟨0, [], 0, 0, 6⟩) (by simp [results, Tryd.results74, go_sem, resV, hc1]) rfl ⟨by rw [HR.out], ?_⟩
      exact below_set5 HB.out _ _ _ _ _

/-- The token with which a text begins. -/
def tokT (l : List UInt8) : TR :=
  match l with
  | [] => ⟨0, [], 0, 0, 0⟩
  | x :: _ => if letterN x.toNat = true then nameR l else if digitN x.toNat = true then numT l else if x.toNat = 34 then textT l else signT l

theorem digL_ne {x : UInt8} {r : List UInt8} (h : digitN x.toNat = true) : digL (x :: r) ≠ [] := by
  unfold digL; simp [h]

set_option maxHeartbeats 4000000 in
set_option maxRecDepth 100000 in
theorem token_any (l : List UInt8) (w : World) (hl : l.length ≤ 140737488351232) (ht : Tabs w) :
    Calls Tryd.prog 64 #[.string (strB l)] w fun e w' => e = .returned (resV (tokT l)) ∧ Below w.heap.size w w' := by
  have hA : Below w.heap.size w (w.alloc tokZ) := (Below.refl w.heap.size w).alloc (Nat.le_refl _) _
  have HA : Hid (Below w.heap.size w (w.alloc tokZ)) := hA
  have HT : Hid (Tabs (w.alloc tokZ)) := ht.alloc _
  clear ht hA
  cases l with
  | nil =>
    go_enter Tryd.func64, Tryd.ntmps64
    go_wp2
    refine bodyPost_ret (v := resV ⟨0, [], 0, 0, 0⟩) (by simp [results, Tryd.results64, go_sem, resV]) rfl ⟨rfl, ?_⟩
    exact HA.out
  | cons x r =>
    have hidx := fun wx => str_at wx (x :: r) 0 (by simp)
    rw [show ((0 : Nat) : Int) = 0 from rfl, show (x :: r)[0] = x from rfl] at hidx
    obtain ⟨n, hn⟩ : ∃ n, n = x.toNat := ⟨_, rfl⟩
    rw [← hn] at hidx
    have hn256 : n < 256 := by rw [hn]; exact UInt8.toNat_lt x
    have HTT : Hid (tokT (x :: r) = if letterN n = true then nameR (x :: r) else if digitN n = true then numT (x :: r) else if n = 34 then textT (x :: r) else signT (x :: r)) := show _ = _ by rw [hn]; rfl
    have HD : Hid (digitN n = true → digL (x :: r) ≠ []) := fun h => digL_ne (by rw [← hn]; exact h)
    have hne : ¬ (x :: r) = [] := by simp
    clear hn
    go_enter Tryd.func64, Tryd.ntmps64
    have hl' : (x :: r).length ≤ 140737488351232 := hl
    have fin : Hid (∀ (R : TR) (w1 : World), Below (w.alloc tokZ).heap.size (w.alloc tokZ) w1 → Below (w.heap.size + 1) (w.alloc tokZ) w1) := fun R w1 h => by rw [World.size_alloc] at h; exact h
    have cn := beginsName_any n hn256 (w.alloc tokZ)
    go_wp2_with fail
    refine cn.mono ?_
    clear cn
    rintro e w1 ⟨rfl, rfl⟩
    cases h1 : letterN n with
    | true =>
      obtain ⟨R, hR⟩ : ∃ R, R = nameR (x :: r) := ⟨_, rfl⟩
      have c1 := nameToken_any (x :: r) (w.alloc tokZ) (by omega) HT.out
      rw [← hR] at c1
      have HR : Hid (tokT (x :: r) = R) := show _ = _ by rw [HTT.out, if_pos h1, hR]
      unfold resV at c1
      clear hR
      go_wp2_with fail
      refine c1.mono ?_
      clear c1
      rintro e w1 ⟨rfl, hb1⟩
      have hb2 := fin.out R w1 hb1
      obtain ⟨hc1, hf1⟩ := tok_kept hb2
      have HB : Hid (Below w.heap.size w w1) := HA.out.trans (hb2.mono (by omega))
      clear hb1 hb2
      go_wp2
      refine bodyPost_ret (v := resV R) (by simp [results, Tryd.results64, go_sem, resV, hc1]) rfl ⟨by rw [HR.out], ?_⟩
      exact below_set5 HB.out _ _ _ _ _
    | false =>
      have cd := isDigit_any n hn256 (w.alloc tokZ)
      go_wp2_with fail
      refine cd.mono ?_
      clear cd
      rintro e w1 ⟨rfl, rfl⟩
      cases h2 : digitN n with
      | true =>
        obtain ⟨R, hR⟩ : ∃ R, R = numT (x :: r) := ⟨_, rfl⟩
        have c1 := numberToken_any (x :: r) (w.alloc tokZ) (by omega) (HD.out h2) HT.out
        rw [← hR] at c1
        have HR : Hid (tokT (x :: r) = R) := show _ = _ by rw [HTT.out, if_neg (by rw [h1]; simp), if_pos h2, hR]
        unfold resV at c1
        clear hR
        go_wp2_with fail
        refine c1.mono ?_
        clear c1
        rintro e w1 ⟨rfl, hb1⟩
        have hb2 := fin.out R w1 hb1
        obtain ⟨hc1, hf1⟩ := tok_kept hb2
        have HB : Hid (Below w.heap.size w w1) := HA.out.trans (hb2.mono (by omega))
        clear hb1 hb2
        go_wp2
        refine bodyPost_ret (v := resV R) (by simp [results, Tryd.results64, go_sem, resV, hc1]) rfl ⟨by rw [HR.out], ?_⟩
        exact below_set5 HB.out _ _ _ _ _
      | false =>
        by_cases h34 : n = 34
        · obtain ⟨R, hR⟩ : ∃ R, R = textT (x :: r) := ⟨_, rfl⟩
          have c1 := textToken_any (x :: r) (w.alloc tokZ) (by omega) (by simp) HT.out
          rw [← hR] at c1
          have HR : Hid (tokT (x :: r) = R) := show _ = _ by rw [HTT.out, if_neg (by rw [h1]; simp), if_neg (by rw [h2]; simp), if_pos h34, hR]
          subst h34
          unfold resV at c1
          clear hR
          go_wp2_with fail
          refine c1.mono ?_
          clear c1
          rintro e w1 ⟨rfl, hb1⟩
          have hb2 := fin.out R w1 hb1
          obtain ⟨hc1, hf1⟩ := tok_kept hb2
          have HB : Hid (Below w.heap.size w w1) := HA.out.trans (hb2.mono (by omega))
          clear hb1 hb2
          go_wp2
          refine bodyPost_ret (v := resV R) (by simp [results, Tryd.results64, go_sem, resV, hc1]) rfl ⟨by rw [HR.out], ?_⟩
          exact below_set5 HB.out _ _ _ _ _
        · obtain ⟨R, hR⟩ : ∃ R, R = signT (x :: r) := ⟨_, rfl⟩
          have h34b : ((n : Int) == 34) = false := by rw [beq_eq_false_iff_ne]; omega
          have c1 := signToken_any (x :: r) (w.alloc tokZ) HT.out
          rw [← hR] at c1
          have HR : Hid (tokT (x :: r) = R) := show _ = _ by rw [HTT.out, if_neg (by rw [h1]; simp), if_neg (by rw [h2]; simp), if_neg h34, hR]
          unfold resV at c1
          clear hR
          go_wp2_with fail
          refine c1.mono ?_
          clear c1
          rintro e w1 ⟨rfl, hb1⟩
          have hb2 := fin.out R w1 hb1
          obtain ⟨hc1, hf1⟩ := tok_kept hb2
          have HB : Hid (Below w.heap.size w w1) := HA.out.trans (hb2.mono (by omega))
          clear hb1 hb2
          go_wp2
          refine bodyPost_ret (v := resV R) (by simp [results, Tryd.results64, go_sem, resV, hc1]) rfl ⟨by rw [HR.out], ?_⟩
          exact below_set5 HB.out _ _ _ _ _
end Go.Proofs.YtljofkfnmlhicaaDoor
