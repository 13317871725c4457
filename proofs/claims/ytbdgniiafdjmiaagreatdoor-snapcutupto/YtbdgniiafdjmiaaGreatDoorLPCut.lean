/- SnapCut: the walk. -/
import Derived.Test.YtbdgniiafdjmiaaGreatDoorPLives
import Derived.Test.YtbdgniiafdjmiaaGreatDoorPLight
import Derived.Test.YtbdgniiafdjmiaaGreatDoorPSame
import Derived.Test.YtbdgniiafdjmiaaGreatDoorPCut
namespace Go.Proofs.YtbdgniiafdjmiaaGreatDoor
open Go.RowKit Go.Shelf

set_option maxRecDepth 100000 in
theorem prun_to (w : World) (base : Option Addr) (len cap n : Nat) (h : n ≤ cap) :
    (Instr.slice 30 (.slice base len cap) none (some (.int .i64 n)) none).run Tryz.prog w = .ok (.slice base n cap) w := by
  have h1 := run_slice_h (P := Tryz.prog) w 30 base len cap Tryz.underlying30 .i64 (n : Int) (by omega) (by omega)
  have hs : (sizeOf (Tryz.prog.elem 30)).run Tryz.prog w = .ok 1 w := by kernel_rfl
  rw [h1, hs]
  simp [sliced, Addr.add]
theorem pbytes_take {w : World} {base : Option Addr} {cap : Nat} {bs : List UInt8} (h : bytesAt w (.slice base bs.length cap) bs) (n : Nat) (hn : n ≤ bs.length) : bytesAt w (.slice base n cap) (bs.take n) := by
  obtain ⟨base', cap', hv, hb, h1, h2, hc⟩ := h
  cases hv
  refine ⟨base, cap, by rw [List.length_take, Nat.min_eq_left hn], fun e => ?_, by rw [List.length_take]; omega, h2, fun a ha j u hj => ?_⟩
  · obtain ⟨rfl, rfl⟩ := hb e; simp
  · refine hc a ha j u ?_
    unfold Lib.byteCells at hj ⊢
    rw [List.getElem?_map] at hj ⊢
    rcases Nat.lt_or_ge j n with hl | hl
    · rw [List.getElem?_take_of_lt hl] at hj; exact hj
    · rw [List.getElem?_eq_none (by rw [List.length_take]; omega)] at hj; cases hj
theorem pmade_empty (w : World) : (w.alloc (.cells #[] 5)).ownsRow w.heap.size 5 1 (.slice (some ⟨w.heap.size, 0, none⟩) 0 0) 0 [] := World.ownsRow_made w #[] 0 (Nat.le_refl _) (Nat.zero_le _) rfl
theorem sn_some (s : Sn) : 1 ≤ (snB s).length := by
  have h : 1 ≤ (numB s.pos).length := by
    unfold numB
    rcases Nat.lt_or_ge (Lib.zigzag s.pos) 128 with h | h
    · rw [Lib.uvarint_small h]; simp
    · rw [Lib.uvarint_big h]; simp
  unfold snB
  simp only [List.length_append]
  omega

set_option maxRecDepth 100000 in
set_option maxHeartbeats 8000000 in
theorem snapCut_any (S : Nat → Prop) (s : Sn) (b1 b2 : Option Addr) (n1 c1 n2 c2 : Nat) (n : Int) (x : UInt8) (w : World) (hin : SnIn S w s (.slice b1 n1 c1) (.slice b2 n2 c2)) (hsm : SmallS s) (ht : TabsP w) :
    Calls Tryz.prog 6 #[snV s (.slice b1 n1 c1) (.slice b2 n2 c2), .int .i64 n, .int .u8 (x.toNat : Int)] w fun e w' => e = .returned (.bool true) ∧ Below w.heap.size w w' := by
  obtain ⟨w1, hw1, hb1, HZ1, h1⟩ := box1 w (.cells #[.int .i64 s.pos, .int .i64 s.st, .int .i64 s.ft, .slice b1 n1 c1, .slice b2 n2 c2, .string (strB s.out), .int .i64 s.rd] 27)
  have HW1 : Hid (w1 = w.alloc (.cells #[.int .i64 s.pos, .int .i64 s.st, .int .i64 s.ft, .slice b1 n1 c1, .slice b2 n2 c2, .string (strB s.out), .int .i64 s.rd] 27)) := hw1
  have HB1 : Hid (Below w.heap.size w w1) := hb1
  have HLT : Hid (w.heap.size < w1.heap.size) := heap_lt h1
  have HF : Hid (∀ W, Below w1.heap.size w1 W → W.cell? ⟨w.heap.size, 0, none⟩ = some (.int .i64 s.pos) ∧ W.cell? ⟨w.heap.size, 1, none⟩ = some (.int .i64 s.st) ∧ W.cell? ⟨w.heap.size, 2, none⟩ = some (.int .i64 s.ft) ∧ W.cell? ⟨w.heap.size, 3, none⟩ = some (.slice b1 n1 c1) ∧ W.cell? ⟨w.heap.size, 4, none⟩ = some (.slice b2 n2 c2) ∧ W.cell? ⟨w.heap.size, 5, none⟩ = some (.string (strB s.out)) ∧ W.cell? ⟨w.heap.size, 6, none⟩ = some (.int .i64 s.rd)) := fun W hW => cells7 ((hW.block w.heap.size HLT.out).trans h1)
  have HBW : Hid (∀ W, Below w1.heap.size w1 W → Below w.heap.size w W) := fun W hW => hb1.trans (hW.mono hb1.size)
  have HCIN : Hid (∀ W, Below w.heap.size w W → SnAt W s b1 n1 c1 b2 n2 c2) := fun W hW => ⟨S, hin.below hW⟩
  have HT : Hid (∀ W, Below w.heap.size w W → TabsP W) := fun W hW => ht.below hW (Nat.le_refl _)
  have HSM : Hid (SmallS s) := hsm
  have CL : Hid (∀ (W : World), Below w.heap.size w W → Calls Tryz.prog 8 #[snV s (.slice b1 n1 c1) (.slice b2 n2 c2)] W fun e w' => Told10 e ∧ Below W.heap.size W w') := fun W hW => light10_any S s b1 b2 n1 c1 n2 c2 W (hin.below hW) hsm
  have CV : Hid (∀ (W : World), Below w.heap.size w W → Calls Tryz.prog 9 #[] W fun e w' => e = .returned (.bool true) ∧ Below W.heap.size W w') := fun W hW => lives10_any W (HT.out W hW)
  obtain ⟨R, hR⟩ : ∃ R, R = mayS s := ⟨_, rfl⟩
  have HRR : Hid (R = mayS s) := hR
  obtain ⟨B, hB⟩ : ∃ B, B = snB s := ⟨_, rfl⟩
  have HE : Hid (R = true → (∀ k, k < B.length → ldS (B.take k) = 3) ∧ ldS (B ++ [x]) = 5 ∧ B.length ≤ 100000000000000) := fun h => by
    have hr : mayS s = true := by rw [← hR]; exact h
    have hok := may_ok hr hsm
    rw [hB]
    exact ⟨fun k hk => ldS_cut hok hk, ldS_more hok x, may_few hr hsm⟩
  have CY : Hid (R = true → ∀ (W : World), Below w.heap.size w W → Calls Tryz.prog 10 #[snV s (.slice b1 n1 c1) (.slice b2 n2 c2)] W fun e w' => (∃ b n c, e = .returned (.tuple #[.slice b n c, .int .i64 0]) ∧ bytesAt w' (.slice b n c) B) ∧ Below W.heap.size W w') := fun h W hW => by
    rw [hB]; exact bytes_yes (HCIN.out W hW) hsm (HT.out W hW) (by rw [← hR]; exact h)
  have CN : Hid (R = false → ∀ (W : World), Below w.heap.size w W → Calls Tryz.prog 10 #[snV s (.slice b1 n1 c1) (.slice b2 n2 c2)] W fun e w' => e = .returned (.tuple #[.slice none 0 0, .int .i64 2]) ∧ Below W.heap.size W w') := fun h W hW => bytes_no (HCIN.out W hW) hsm (HT.out W hW) (by rw [← hR]; exact h)
  have hB1 : 1 ≤ B.length := by rw [hB]; exact sn_some s
  obtain ⟨f0, f1, f2, f3, f4, f5, f6⟩ := HF.out w1 (Below.refl _ _)
  have c1' := CL.out w1 hb1
  clear hw1 hb1 h1 hin hsm ht HZ1 hR hB
  go_enter Tryz.func6, Tryz.ntmps6
  go_wp2_with fail
  rw [← HW1.out]
  refine c1'.mono ?_
  clear c1' f0 f1 f2 f3 f4 f5 f6
  rintro e w2 ⟨⟨L, rfl⟩, hb2⟩
  have HB2 : Hid (Below w1.heap.size w1 w2) := hb2
  have HBw2 : Hid (Below w.heap.size w w2) := HBW.out _ hb2
  clear hb2
  cases L with
  | false =>
    have k1 := CV.out w2 HBw2.out
    go_wp2_with fail
    refine k1.mono ?_
    clear k1
    rintro e wz ⟨rfl, hbz⟩
    have HBz : Hid (Below w.heap.size w wz) := HBw2.out.trans (hbz.mono HBw2.out.size)
    clear hbz
    go_wp2
    go_ret
    exact ⟨rfl, HBz.out⟩
  | true =>
    obtain ⟨f0, f1, f2, f3, f4, f5, f6⟩ := HF.out w2 HB2.out
    cases R with
    | false =>
      have c2' := CN.out rfl w2 HBw2.out
      go_wp2_with fail
      refine c2'.mono ?_
      clear c2' f0 f1 f2 f3 f4 f5 f6
      rintro e w3 ⟨rfl, hb3⟩
      have HB3 : Hid (Below w.heap.size w w3) := HBw2.out.trans (hb3.mono HBw2.out.size)
      clear hb3
      have k1 := CV.out w3 HB3.out
      go_wp2_with fail
      refine k1.mono ?_
      clear k1
      rintro e wz ⟨rfl, hbz⟩
      have HBz : Hid (Below w.heap.size w wz) := HB3.out.trans (hbz.mono HB3.out.size)
      clear hbz
      go_wp2
      go_ret
      exact ⟨rfl, HBz.out⟩
    | true =>
      have c2' := CY.out rfl w2 HBw2.out
      obtain ⟨hcutE, hmoreE, hBl⟩ := HE.out rfl
      have HCE : Hid (∀ k, k < B.length → ldS (B.take k) = 3) := hcutE
      have HME : Hid (ldS (B ++ [x]) = 5) := hmoreE
      clear hcutE hmoreE
      go_wp2_with fail
      refine c2'.mono ?_
      clear c2' f0 f1 f2 f3 f4 f5 f6
      rintro e w3 ⟨⟨b3, n3, c3, rfl, hx3⟩, hb3⟩
      have HB3 : Hid (Below w.heap.size w w3) := HBw2.out.trans (hb3.mono HBw2.out.size)
      obtain ⟨hn3, -, hc3, hc3m⟩ := bytesAt_row hx3
      subst hn3
      have HX3 : Hid (bytesAt w3 (.slice b3 B.length c3) B) := hx3
      obtain ⟨U, hU⟩ : ∃ U : Nat, IntKind.u64.wrap n = (U : Int) := ⟨(n % 18446744073709551616).toNat, by show n % 18446744073709551616 = _; omega⟩
      obtain ⟨cut, hcut⟩ : ∃ cut, cut = U % B.length := ⟨_, rfl⟩
      have hcl : cut < B.length := by rw [hcut]; exact Nat.mod_lt U (by omega)
      have hto := fun wx => prun_to wx b3 B.length c3 cut (by omega)
      have hke : wrap64 ((U : Int) % (B.length : Int)) = (cut : Int) := by
        rw [← Int.natCast_emod, ← hcut]
        unfold wrap64
        omega
      have hBI : (B.length : Int) ≤ 100000000000000 := by omega
      have hBI1 : (1 : Int) ≤ B.length := by omega
      have hBn : ¬ (B.length : Int) = 0 := by omega
      have hBn2 : ((B.length : Int) == 0) = false := by rw [beq_eq_false_iff_ne]; omega
      have hl3 := HCE.out cut hcl
      have c3' := load_no (pbytes_take hx3 cut (by omega)) (by rw [List.length_take]; omega) (HT.out w3 HB3.out) (by rw [hl3]; decide)
      rw [hl3] at c3'
      have HCL : Hid (cut < B.length) := hcl
      unfold maxLen at hc3m
      clear hb3 hx3 hcut hcl hl3
      go_wp2_with fail
      rw [hke]
      refine c3'.mono ?_
      clear c3' hto hke hU
      rintro e w4 ⟨rfl, hb4⟩
      have HB4 : Hid (Below w.heap.size w w4) := HB3.out.trans (hb4.mono HB3.out.size)
      have H34 : Hid (Below w3.heap.size w3 w4) := hb4
      obtain ⟨w5, hw5, hb5, HZ5, h5⟩ := box1 w4 (.cells #[.int .i64 0, .int .i64 0, .int .i64 0, .slice none 0 0, .slice none 0 0, .string ⟨#[]⟩, .int .i64 0] 27)
      have HW5 : Hid (w5 = w4.alloc (.cells #[.int .i64 0, .int .i64 0, .int .i64 0, .slice none 0 0, .slice none 0 0, .string ⟨#[]⟩, .int .i64 0] 27)) := hw5
      have HB5 : Hid (Below w.heap.size w w5) := HB4.out.trans (hb5.mono HB4.out.size)
      have H35 : Hid (Below w3.heap.size w3 w5) := H34.out.trans (hb5.mono H34.out.size)
      have HBX5 : Hid (w5.heap[w4.heap.size]? = some (.cells #[.int .i64 0, .int .i64 0, .int .i64 0, .slice none 0 0, .slice none 0 0, .string ⟨#[]⟩, .int .i64 0] 27 (0, 0))) := h5
      have h5a : Below w5.heap.size w5 (w5.alloc (.cells #[] 5)) := (Below.refl _ _).alloc (Nat.le_refl _) _
      have HBY5 : Hid (bytesAt (w5.alloc (.cells #[] 5)) (.slice b3 B.length c3) B) := bytesAt_below HX3.out (H35.out.trans (h5a.mono H35.out.size)) (Nat.le_refl _)
      have HOW5 : Hid ((w5.alloc (.cells #[] 5)).ownsRow w5.heap.size 5 1 (.slice (some ⟨w5.heap.size, 0, none⟩) 0 0) ([] : List UInt8).length (Lib.byteCells [])) := pmade_empty w5
      have HS5 : Hid (w5.heap.size ≤ (w5.alloc (.cells #[] 5)).heap.size) := h5a.size
      have H5A : Hid (Below w5.heap.size w5 (w5.alloc (.cells #[] 5))) := h5a
      simp only [sZ]
      clear hb4 hw5 hb5 h5 HZ5 h5a
      go_upto_region 9 with fail
      change Code.wp _ _ _ _ (w4.alloc (.cells #[.int .i64 0, .int .i64 0, .int .i64 0, .slice none 0 0, .slice none 0 0, .string ⟨#[]⟩, .int .i64 0] 27))
      rw [← HW5.out]
      go_wp2_with (at_builtin; refine append_bytes rfl _ _ rfl w5.heap.size _ [] rfl HOW5.out _ B rfl HBY5.out (by simp only [List.length_nil]; omega) HS5.out ?_)
      intro v6 w6 hown6 hgrow6
      have HB6 : Hid (Below w5.heap.size w5 w6) := H5A.out.grown hgrow6 HS5.out (fun k hk => by simp [Value.ownBlock] at hk; omega)
      have HO6 : Hid ((w6.alloc (.cells #[.int .u8 (x.toNat : Int)] 5)).ownsRow w5.heap.size 5 1 v6 B.length (Lib.byteCells B)) := hown6.alloc _
      have HOL : Hid (∀ k, v6.ownBlock = some k → w5.heap.size ≤ k) := fun k hk => (hown6.lt k hk).1
      have HN6 : Hid (bytesAt (w6.alloc (.cells #[.int .u8 (x.toNat : Int)] 5)) (.slice (some ⟨w6.heap.size, 0, none⟩) 1 1) [x]) := bytesAt_new1 w6 x
      have h6a : Below w5.heap.size w5 (w6.alloc (.cells #[.int .u8 (x.toNat : Int)] 5)) := HB6.out.alloc HB6.out.size _
      have H6A : Hid (Below w5.heap.size w5 (w6.alloc (.cells #[.int .u8 (x.toNat : Int)] 5))) := h6a
      have HS6 : Hid (w5.heap.size ≤ (w6.alloc (.cells #[.int .u8 (x.toNat : Int)] 5)).heap.size) := h6a.size
      clear hown6 hgrow6 h6a
      go_wp2_with (at_builtin; refine append_bytes rfl _ _ rfl w5.heap.size _ B rfl HO6.out _ [x] rfl HN6.out (by simp only [List.length_cons, List.length_nil]; omega) HS6.out ?_)
      intro v7 w7 hown7 hgrow7
      have HB7 : Hid (Below w5.heap.size w5 w7) := H6A.out.grown hgrow7 HS6.out HOL.out
      have HBw7 : Hid (Below w.heap.size w w7) := HB5.out.trans (HB7.out.mono HB5.out.size)
      have c7 := load_no (bytesAt_own hown7) (by simp only [List.length_append, List.length_cons, List.length_nil]; omega) (HT.out w7 HBw7.out) (by rw [HME.out]; decide)
      rw [HME.out] at c7
      clear hown7 hgrow7
      go_wp2_with fail
      refine c7.mono ?_
      clear c7
      rintro e w8 ⟨rfl, hb8⟩
      have HB8 : Hid (Below w5.heap.size w5 w8) := HB7.out.trans (hb8.mono HB7.out.size)
      clear hb8
      obtain ⟨w9, hw9, hb9, HZ9, h9⟩ := box1 w8 (.cells #[.int .i64 0, .int .i64 0, .int .i64 0, .slice none 0 0, .slice none 0 0, .string ⟨#[]⟩, .int .i64 0] 27)
      have HW9 : Hid (w9 = w8.alloc (.cells #[.int .i64 0, .int .i64 0, .int .i64 0, .slice none 0 0, .slice none 0 0, .string ⟨#[]⟩, .int .i64 0] 27)) := hw9
      have HB9 : Hid (Below w5.heap.size w5 w9) := HB8.out.trans (hb9.mono HB8.out.size)
      have HBw9 : Hid (Below w.heap.size w w9) := HB5.out.trans (HB9.out.mono HB5.out.size)
      have HBX9 : Hid (w9.heap[w8.heap.size]? = some (.cells #[.int .i64 0, .int .i64 0, .int .i64 0, .slice none 0 0, .slice none 0 0, .string ⟨#[]⟩, .int .i64 0] 27 (0, 0))) := h9
      obtain ⟨f0, f1, f2, f3, f4, f5, f6⟩ := cells7 ((HB9.out.block _ (heap_lt HBX5.out)).trans HBX5.out)
      have KZ : Hid (∀ W, Calls Tryz.prog 16 #[.agg #[.int .i64 0, .int .i64 0, .int .i64 0, .slice none 0 0, .slice none 0 0, .string ⟨#[]⟩, .int .i64 0], .agg #[.int .i64 0, .int .i64 0, .int .i64 0, .slice none 0 0, .slice none 0 0, .string ⟨#[]⟩, .int .i64 0]] W fun e w' => e = .returned (.bool true) ∧ Below W.heap.size W w') := fun W => pSame_any _ _ sZ none none none none 0 0 0 0 0 0 0 0 W (sZ_in W) (sZ_in W) sZ_small
      have k9 := KZ.out w9
      simp only [sZ]
      clear hw9 hb9 h9 HZ9
      go_upto_region 10 with fail
      change Code.wp _ _ _ _ (w8.alloc (.cells #[.int .i64 0, .int .i64 0, .int .i64 0, .slice none 0 0, .slice none 0 0, .string ⟨#[]⟩, .int .i64 0] 27))
      rw [← HW9.out]
      go_wp2_with fail
      refine k9.mono ?_
      clear k9 f0 f1 f2 f3 f4 f5 f6
      rintro e wa ⟨rfl, hba⟩
      have HBa : Hid (Below w.heap.size w wa) := HBw9.out.trans (hba.mono HBw9.out.size)
      obtain ⟨g0, g1, g2, g3, g4, g5, g6⟩ := cells7 ((hba.block _ (heap_lt HBX9.out)).trans HBX9.out)
      have ka := KZ.out wa
      clear hba hBl hBI hBI1 hBn hBn2 hc3 hc3m hB1
      go_wp2_with fail
      refine ka.mono ?_
      clear ka g0 g1 g2 g3 g4 g5 g6
      rintro e wy ⟨rfl, hby⟩
      have HBy : Hid (Below w.heap.size w wy) := HBa.out.trans (hby.mono HBa.out.size)
      clear hby
      have k1 := CV.out wy HBy.out
      go_wp2_with fail
      refine k1.mono ?_
      clear k1
      rintro e wz ⟨rfl, hbz⟩
      have HBz : Hid (Below w.heap.size w wz) := HBy.out.trans (hbz.mono HBy.out.size)
      clear hbz
      go_wp2
      go_ret
      exact ⟨rfl, HBz.out⟩
end Go.Proofs.YtbdgniiafdjmiaaGreatDoor
