/- CodeCut: the walk. -/
import Derived.Test.YtojopcgacgichaaGreatDoorCBackMath3
import Derived.Test.YtojopcgacgichaaGreatDoorCLives7
namespace Go.Proofs.YtojopcgacgichaaGreatDoor
open Go.RowKit Go.Shelf

set_option maxRecDepth 100000 in
theorem crun_to (w : World) (base : Option Addr) (len cap n : Nat) (h : n ≤ cap) :
    (Instr.slice 39 (.slice base len cap) none (some (.int .i64 n)) none).run Tryz.prog w = .ok (.slice base n cap) w := by
  have h1 := run_slice_h (P := Tryz.prog) w 39 base len cap Tryz.underlying39 .i64 (n : Int) (by omega) (by omega)
  have hs : (sizeOf (Tryz.prog.elem 39)).run Tryz.prog w = .ok 1 w := by kernel_rfl
  rw [h1, hs]
  simp [sliced, Addr.add]
theorem cbytes_take {w : World} {base : Option Addr} {cap : Nat} {bs : List UInt8} (h : bytesAt w (.slice base bs.length cap) bs) (n : Nat) (hn : n ≤ bs.length) : bytesAt w (.slice base n cap) (bs.take n) := by
  obtain ⟨base', cap', hv, hb, h1, h2, hc⟩ := h
  cases hv
  refine ⟨base, cap, by rw [List.length_take, Nat.min_eq_left hn], fun e => ?_, by rw [List.length_take]; omega, h2, fun a ha j u hj => ?_⟩
  · obtain ⟨rfl, rfl⟩ := hb e; simp
  · refine hc a ha j u ?_
    unfold Lib.byteCells at hj ⊢
    rw [List.getElem?_map] at hj ⊢
    rcases Nat.lt_or_ge j n with hl | hl
    · rw [List.getElem?_take_of_lt hl] at hj; exact hj
    · rw [List.getElem?_eq_none (by rw [List.length_take]; omega)] at hj; cases hj
theorem cmade_empty (w : World) : (w.alloc (.cells #[] 5)).ownsRow w.heap.size 5 1 (.slice (some ⟨w.heap.size, 0, none⟩) 0 0) 0 [] := World.ownsRow_made w #[] 0 (Nat.le_refl _) (Nat.zero_le _) rfl
theorem right_len2 {c : Cd} (hc : rightC c = true) (hsm : SmallC c) (hints : IntsC c) (hun : ∀ u ∈ c.units, u.ins.length ≤ 1048576 ∧ u.vars.length ≤ 1048576) : (cdB c).length ≤ 100000000000000 := by
  have hok := right_ok hc hsm hints hun
  obtain ⟨hout, hall, -⟩ := rightC_parts hc
  unfold outR at hout
  simp only [Bool.and_eq_true, List.all_eq_true, decide_eq_true_eq] at hout
  obtain ⟨-, -, -, hsh, hnu, -⟩ := hout
  have hn32 : c.units.length ≤ 32 := by
    unfold namesR at hnu
    simp only [Bool.and_eq_true, decide_eq_true_eq, List.length_map] at hnu
    omega
  have a0 := allB_most txB 265 1048576 (fun s hs => txB_most (hok.1.1 s hs)) hok.1.2 (Nat.le_refl _)
  have a1 := allB_most shB 2395 1048576 (fun x hx => by
    have h1 := hok.2.1.1 x hx
    have h2 := txB_most h1.1
    have h3 := allB_most txB 265 8 (fun s hs => txB_most (h1.2.1 s hs)) (shR_few (hsh x hx)) (by omega)
    unfold shB
    rw [List.length_append]
    omega) hok.2.1.2 (Nat.le_refl _)
  have a2 := allB_most unB 310000000 32 (fun u hu => by
    have h1 := hok.2.2.1.1 u hu
    have h2 := txB_most h1.1
    have h3 := numB_ten h1.2.1
    have h4 := numB_ten h1.2.2.1
    have h5 := numB_ten h1.2.2.2.1
    obtain ⟨-, -, -, hni, -, -⟩ := unitR_parts (hall u hu)
    have h6 := allB_most insB 20 4096 (fun x hx => by
      have q := h1.2.2.2.2.2.1.1 x hx
      have q1 := numB_ten q.1
      have q2 := numB_ten q.2
      unfold insB
      rw [List.length_append]
      omega) hni.2 (by omega)
    have h7 := allB_most vrB 295 1048576 (fun x hx => by
      have q := h1.2.2.2.2.2.2.1 x hx
      have q0 := txB_most q.1
      have q1 := numB_ten q.2.1
      have q2 := numB_ten q.2.2.1
      have q3 := numB_ten q.2.2.2
      unfold vrB
      simp only [List.length_append]
      omega) h1.2.2.2.2.2.2.2 (Nat.le_refl _)
    unfold unB
    simp only [List.length_append, boolB_len]
    omega) hn32 (by omega)
  have a3 := numB_ten hok.2.2.2
  unfold cdB
  simp only [List.length_append]
  omega
theorem cdB_some (c : Cd) : 1 ≤ (cdB c).length := by
  have h : 1 ≤ (numB c.main).length := by
    unfold numB
    rcases Nat.lt_or_ge (Lib.zigzag c.main) 128 with h | h
    · rw [Lib.uvarint_small h]; simp
    · rw [Lib.uvarint_big h]; simp
  unfold cdB
  simp only [List.length_append]
  omega

set_option maxRecDepth 100000 in
set_option maxHeartbeats 8000000 in
theorem codeCut_any (S : Nat → Prop) (c : Cd) (bs bh bu : Option Addr) (ns cs nh ch nu cu : Nat) (n : Int) (x : UInt8) (w : World) (hin : CodeIn S w c (.slice bs ns cs) (.slice bh nh ch) (.slice bu nu cu)) (hS : ∀ q, S q → q < w.heap.size) (hsm : SmallC c) (hints : IntsC c) (hun : ∀ u ∈ c.units, u.ins.length ≤ 1048576 ∧ u.vars.length ≤ 1048576) (ht : TabsP w) (hot : OpT w) :
    Calls Tryz.prog 8 #[cdV (.slice bs ns cs) (.slice bh nh ch) (.slice bu nu cu) c.main, .int .i64 n, .int .u8 (x.toNat : Int)] w fun e w' => e = .returned (.bool true) ∧ Below w.heap.size w w' := by
  obtain ⟨m, hm⟩ : ∃ m, m = c.main := ⟨_, rfl⟩
  rw [← hm]
  obtain ⟨w1, hw1, hb1, HZ1, h1⟩ := box1 w (.cells #[.slice bs ns cs, .slice bh nh ch, .slice bu nu cu, .int .i64 m] 26)
  have HW1 : Hid (w1 = w.alloc (.cells #[.slice bs ns cs, .slice bh nh ch, .slice bu nu cu, .int .i64 m] 26)) := hw1
  have HB1 : Hid (Below w.heap.size w w1) := hb1
  have HLT : Hid (w.heap.size < w1.heap.size) := heap_lt h1
  have HF : Hid (∀ W, Below w1.heap.size w1 W → W.cell? ⟨w.heap.size, 0, none⟩ = some (.slice bs ns cs) ∧ W.cell? ⟨w.heap.size, 1, none⟩ = some (.slice bh nh ch) ∧ W.cell? ⟨w.heap.size, 2, none⟩ = some (.slice bu nu cu) ∧ W.cell? ⟨w.heap.size, 3, none⟩ = some (.int .i64 m)) := fun W hW => bcells4 ((hW.block w.heap.size HLT.out).trans h1)
  have HBW : Hid (∀ W, Below w1.heap.size w1 W → Below w.heap.size w W) := fun W hW => hb1.trans (hW.mono hb1.size)
  have HCIN : Hid (∀ W, Below w.heap.size w W → CodeIn S W c (.slice bs ns cs) (.slice bh nh ch) (.slice bu nu cu)) := fun W hW => hin.below hW
  have HT : Hid (∀ W, Below w.heap.size w W → TabsP W ∧ OpT W) := fun W hW => ⟨ht.below hW (Nat.le_refl _), hot.below hW (Nat.le_refl _)⟩
  have hns : ns = c.strs.length := by obtain ⟨b, c, e, -⟩ := hin.strs.at; cases e; rfl
  have hnh : nh = c.shapes.length := by obtain ⟨b, c, e, -⟩ := hin.shapes.at; cases e; rfl
  have hnu : nu = c.units.length := by obtain ⟨b, c, e, -⟩ := hin.units.at; cases e; rfl
  have CL : Hid (∀ (W : World), Below w.heap.size w W → Calls Tryz.prog 9 #[cdV (.slice bs ns cs) (.slice bh nh ch) (.slice bu nu cu) m] W fun e w' => Told e ∧ Below W.heap.size W w') := fun W hW => by
    rw [hm]; exact light_any S c bs bh bu ns cs nh ch nu cu W (HCIN.out W hW) (by have := hsm.nstrs; omega) (by have := hsm.nshapes; omega) (by have := hsm.nunits; omega) hun
  have CV : Hid (∀ (W : World), Below w.heap.size w W → Calls Tryz.prog 10 #[] W fun e w' => e = .returned (.bool true) ∧ Below W.heap.size W w') := fun W hW => lives07_any W (HT.out W hW).1 (HT.out W hW).2
  obtain ⟨R, hR⟩ : ∃ R, R = rightC c := ⟨_, rfl⟩
  have CN : Hid (R = false → ∀ (W : World), Below w.heap.size w W → Calls Tryz.prog 16 #[cdV (.slice bs ns cs) (.slice bh nh ch) (.slice bu nu cu) m] W fun e w' => e = .returned (.tuple #[.slice none 0 0, .int .i64 2]) ∧ Below W.heap.size W w') := fun h W hW => by
    rw [hm]; exact cBytes_no S c bs bh bu ns cs nh ch nu cu W (HCIN.out W hW) hsm (HT.out W hW).1 (HT.out W hW).2 (by rw [← hR]; exact h)
  have CY : Hid (R = true → ∀ (W : World), Below w.heap.size w W → Calls Tryz.prog 16 #[cdV (.slice bs ns cs) (.slice bh nh ch) (.slice bu nu cu) m] W fun e w' => (∃ b2 n2 c2, e = .returned (.tuple #[.slice b2 n2 c2, .int .i64 0]) ∧ bytesAt w' (.slice b2 n2 c2) (cdB c)) ∧ Below W.heap.size W w') := fun h W hW => by
    have hr : rightC c = true := by rw [← hR]; exact h
    rw [hm]
    refine (cBytes_any S c bs bh bu ns cs nh ch nu cu W (HCIN.out W hW) (fun q hq => Nat.lt_of_lt_of_le (hS q hq) hW.size) hsm hints (right_len hr hsm hints hun) (HT.out W hW).1 (HT.out W hW).2).mono fun e w' ⟨hq, hw'⟩ => ⟨?_, hw'⟩
    rcases hq with ⟨h, -⟩ | ⟨-, v, he, ho⟩
    · rw [hr] at h; cases h
    · obtain ⟨n0, bb, cc, rfl⟩ := own_form1 ho
      exact ⟨bb, n0, cc, he, bytesAt_own ho⟩
  obtain ⟨B, hB⟩ : ∃ B, B = cdB c := ⟨_, rfl⟩
  have HE : Hid (R = true → (∀ k, k < B.length → ldE (B.take k) ≠ 0) ∧ ldE (B ++ [x]) = 5 ∧ B.length ≤ 100000000000000) := fun h => by
    have hr : rightC c = true := by rw [← hR]; exact h
    have hok := right_ok hr hsm hints hun
    rw [hB]
    exact ⟨fun k hk => ldE_cut hok hk, ldE_more hok x, right_len2 hr hsm hints hun⟩
  have hB1 : 1 ≤ B.length := by rw [hB]; exact cdB_some c
  rw [← hB] at CY
  obtain ⟨f0, f1, f2, f3⟩ := HF.out w1 (Below.refl _ _)
  have c1 := CL.out w1 hb1
  clear hns hnh hnu hm hw1 hb1 h1 hin hS hsm hints hun ht hot HZ1 hR hB
  go_enter Tryz.func8, Tryz.ntmps8
  go_wp2_with fail
  rw [← HW1.out]
  refine c1.mono ?_
  clear c1 f0 f1 f2 f3
  rintro e w2 ⟨⟨L, rfl⟩, hb2⟩
  have HB2 : Hid (Below w1.heap.size w1 w2) := hb2
  have HBw2 : Hid (Below w.heap.size w w2) := HBW.out _ hb2
  clear hb2
  cases L with
  | false =>
    have k1 := CV.out w2 HBw2.out
    go_wp2_with fail
    refine k1.mono ?_
    clear k1
    rintro e wz ⟨rfl, hbz⟩
    have HBz : Hid (Below w.heap.size w wz) := HBw2.out.trans (hbz.mono HBw2.out.size)
    clear hbz
    go_wp2
    go_ret
    exact ⟨rfl, HBz.out⟩
  | true =>
    obtain ⟨f0, f1, f2, f3⟩ := HF.out w2 HB2.out
    cases R with
    | false =>
      have c2 := CN.out rfl w2 HBw2.out
      go_wp2_with fail
      refine c2.mono ?_
      clear c2 f0 f1 f2 f3
      rintro e w3 ⟨rfl, hb3⟩
      have HB3 : Hid (Below w.heap.size w w3) := HBw2.out.trans (hb3.mono HBw2.out.size)
      clear hb3
      have k1 := CV.out w3 HB3.out
      go_wp2_with fail
      refine k1.mono ?_
      clear k1
      rintro e wz ⟨rfl, hbz⟩
      have HBz : Hid (Below w.heap.size w wz) := HB3.out.trans (hbz.mono HB3.out.size)
      clear hbz
      go_wp2
      go_ret
      exact ⟨rfl, HBz.out⟩
    | true =>
      have c2 := CY.out rfl w2 HBw2.out
      obtain ⟨hcutE, hmoreE, hBl⟩ := HE.out rfl
      have HCE : Hid (∀ k, k < B.length → ldE (B.take k) ≠ 0) := hcutE
      have HME : Hid (ldE (B ++ [x]) = 5) := hmoreE
      clear hcutE hmoreE
      go_wp2_with fail
      refine c2.mono ?_
      clear c2 f0 f1 f2 f3
      rintro e w3 ⟨⟨b3, n3, c3, rfl, hx3⟩, hb3⟩
      have HB3 : Hid (Below w.heap.size w w3) := HBw2.out.trans (hb3.mono HBw2.out.size)
      obtain ⟨hn3, -, hc3, hc3m⟩ := bytesAt_row hx3
      subst hn3
      have HX3 : Hid (bytesAt w3 (.slice b3 B.length c3) B) := hx3
      obtain ⟨U, hU⟩ : ∃ U : Nat, IntKind.u64.wrap n = (U : Int) := ⟨(n % 18446744073709551616).toNat, by show n % 18446744073709551616 = _; omega⟩
      obtain ⟨cut, hcut⟩ : ∃ cut, cut = U % B.length := ⟨_, rfl⟩
      have hcl : cut < B.length := by rw [hcut]; exact Nat.mod_lt U (by omega)
      have hto := fun wx => crun_to wx b3 B.length c3 cut (by omega)
      have hke : wrap64 ((U : Int) % (B.length : Int)) = (cut : Int) := by
        rw [← Int.natCast_emod, ← hcut]
        unfold wrap64
        omega
      have hBI : (B.length : Int) ≤ 100000000000000 := by omega
      have hBI1 : (1 : Int) ≤ B.length := by omega
      have hBn : ¬ (B.length : Int) = 0 := by omega
      have hBn2 : ((B.length : Int) == 0) = false := by rw [beq_eq_false_iff_ne]; omega
      have c3' := cLoad_any (.slice b3 cut c3) (B.take cut) w3 (cbytes_take hx3 cut (by omega)) (by rw [List.length_take]; omega) (HT.out w3 HB3.out).1 (HT.out w3 HB3.out).2
      have HCL : Hid (cut < B.length) := hcl
      unfold maxLen at hc3m
      clear hb3 hx3 hcut hcl
      go_wp2_with fail
      rw [hke]
      refine c3'.mono ?_
      clear c3' hto hke hU
      rintro e w4 ⟨hret, hb4⟩
      have HB4 : Hid (Below w.heap.size w w4) := HB3.out.trans (hb4.mono HB3.out.size)
      have H34 : Hid (Below w3.heap.size w3 w4) := hb4
      rcases hret with ⟨hne, rfl⟩ | ⟨hz, -⟩ | ⟨hz, -⟩
      rotate_left
      · exact absurd hz (HCE.out cut HCL.out)
      · exact absurd hz (HCE.out cut HCL.out)
      obtain ⟨q, hq⟩ : ∃ q : Int, q = (ldE (B.take cut) : Int) := ⟨_, rfl⟩
      have hq0 : ¬ q = 0 := by omega
      have hqI : (q == 0) = false := by rw [beq_eq_false_iff_ne]; exact hq0
      have hqn : (q != 0) = true := by simp [bne, hqI]
      rw [← hq]
      obtain ⟨w5, hw5, hb5, HZ5, h5⟩ := box1 w4 (.cells #[.slice none 0 0, .slice none 0 0, .slice none 0 0, .int .i64 0] 26)
      have HW5 : Hid (w5 = w4.alloc (.cells #[.slice none 0 0, .slice none 0 0, .slice none 0 0, .int .i64 0] 26)) := hw5
      have HB5 : Hid (Below w.heap.size w w5) := HB4.out.trans (hb5.mono HB4.out.size)
      have H35 : Hid (Below w3.heap.size w3 w5) := H34.out.trans (hb5.mono H34.out.size)
      have HBX5 : Hid (w5.heap[w4.heap.size]? = some (.cells #[.slice none 0 0, .slice none 0 0, .slice none 0 0, .int .i64 0] 26 (0, 0))) := h5
      have h5a : Below w5.heap.size w5 (w5.alloc (.cells #[] 5)) := (Below.refl _ _).alloc (Nat.le_refl _) _
      have hs5a : (w5.alloc (.cells #[] 5)).heap.size = w5.heap.size + 1 := by simp
      have HBY5 : Hid (bytesAt (w5.alloc (.cells #[] 5)) (.slice b3 B.length c3) B) := bytesAt_below HX3.out (H35.out.trans (h5a.mono H35.out.size)) (Nat.le_refl _)
      have HOW5 : Hid ((w5.alloc (.cells #[] 5)).ownsRow w5.heap.size 5 1 (.slice (some ⟨w5.heap.size, 0, none⟩) 0 0) ([] : List UInt8).length (Lib.byteCells [])) := cmade_empty w5
      have HS5 : Hid (w5.heap.size ≤ (w5.alloc (.cells #[] 5)).heap.size) := h5a.size
      have H5A : Hid (Below w5.heap.size w5 (w5.alloc (.cells #[] 5))) := h5a
      clear hb4 hq hne hw5 hb5 h5 HZ5 h5a hs5a
      go_upto_region 7 with fail
      rw [← HW5.out]
      go_wp2_with (at_builtin; refine append_bytes rfl _ _ rfl w5.heap.size _ [] rfl HOW5.out _ B rfl HBY5.out (by simp only [List.length_nil]; omega) HS5.out ?_)
      intro v6 w6 hown6 hgrow6
      have HB6 : Hid (Below w5.heap.size w5 w6) := H5A.out.grown hgrow6 HS5.out (fun k hk => by simp [Value.ownBlock] at hk; omega)
      have HO6 : Hid ((w6.alloc (.cells #[.int .u8 (x.toNat : Int)] 5)).ownsRow w5.heap.size 5 1 v6 B.length (Lib.byteCells B)) := hown6.alloc _
      have HOL : Hid (∀ k, v6.ownBlock = some k → w5.heap.size ≤ k) := fun k hk => (hown6.lt k hk).1
      have HN6 : Hid (bytesAt (w6.alloc (.cells #[.int .u8 (x.toNat : Int)] 5)) (.slice (some ⟨w6.heap.size, 0, none⟩) 1 1) [x]) := bytesAt_new1 w6 x
      have h6a : Below w5.heap.size w5 (w6.alloc (.cells #[.int .u8 (x.toNat : Int)] 5)) := HB6.out.alloc HB6.out.size _
      have H6A : Hid (Below w5.heap.size w5 (w6.alloc (.cells #[.int .u8 (x.toNat : Int)] 5))) := h6a
      have HS6 : Hid (w5.heap.size ≤ (w6.alloc (.cells #[.int .u8 (x.toNat : Int)] 5)).heap.size) := h6a.size
      clear hown6 hgrow6 h6a
      go_wp2_with (at_builtin; refine append_bytes rfl _ _ rfl w5.heap.size _ B rfl HO6.out _ [x] rfl HN6.out (by simp only [List.length_cons, List.length_nil]; omega) HS6.out ?_)
      intro v7 w7 hown7 hgrow7
      have HB7 : Hid (Below w5.heap.size w5 w7) := H6A.out.grown hgrow7 HS6.out HOL.out
      have HBw7 : Hid (Below w.heap.size w w7) := HB5.out.trans (HB7.out.mono HB5.out.size)
      have c7 := cLoad_any v7 (B ++ [x]) w7 (bytesAt_own hown7) (by simp only [List.length_append, List.length_cons, List.length_nil]; omega) (HT.out w7 HBw7.out).1 (HT.out w7 HBw7.out).2
      clear hown7 hgrow7
      go_wp2_with fail
      refine c7.mono ?_
      clear c7
      rintro e w8 ⟨hret, hb8⟩
      have HB8 : Hid (Below w5.heap.size w5 w8) := HB7.out.trans (hb8.mono HB7.out.size)
      clear hb8
      rcases hret with ⟨-, rfl⟩ | ⟨hz, -⟩ | ⟨hz, -⟩
      rotate_left
      · rw [HME.out] at hz; cases hz
      · rw [HME.out] at hz; cases hz
      rw [HME.out]
      obtain ⟨w9, hw9, hb9, HZ9, h9⟩ := box1 w8 (.cells #[.slice none 0 0, .slice none 0 0, .slice none 0 0, .int .i64 0] 26)
      have HW9 : Hid (w9 = w8.alloc (.cells #[.slice none 0 0, .slice none 0 0, .slice none 0 0, .int .i64 0] 26)) := hw9
      have HB9 : Hid (Below w5.heap.size w5 w9) := HB8.out.trans (hb9.mono HB8.out.size)
      have HBw9 : Hid (Below w.heap.size w w9) := HB5.out.trans (HB9.out.mono HB5.out.size)
      have HBX9 : Hid (w9.heap[w8.heap.size]? = some (.cells #[.slice none 0 0, .slice none 0 0, .slice none 0 0, .int .i64 0] 26 (0, 0))) := h9
      obtain ⟨f0, f1, f2, f3⟩ := bcells4 ((HB9.out.block _ (heap_lt HBX5.out)).trans HBX5.out)
      have KZ : Hid (∀ W, Calls Tryz.prog 23 #[.agg #[.slice none 0 0, .slice none 0 0, .slice none 0 0, .int .i64 0], .agg #[.slice none 0 0, .slice none 0 0, .slice none 0 0, .int .i64 0]] W fun e w' => e = .returned (.bool true) ∧ Below W.heap.size W w') := fun W => by
        have k9 := rfSame (fun _ => False) (fun _ => False) cZ cZ none none none 0 0 0 0 0 0 none none none 0 0 0 0 0 0 W (cZ_in W) cZ_small cZ_ints cZ_len (cZ_in W) cZ_small cZ_ints cZ_len
        rw [decide_eq_true (p := cdB cZ = cdB cZ) rfl] at k9
        exact k9
      have k9 := KZ.out w9
      clear hw9 hb9 h9 HZ9
      go_upto_region 8 with fail
      rw [← HW9.out]
      go_wp2_with fail
      refine k9.mono ?_
      clear k9 f0 f1 f2 f3
      rintro e wa ⟨rfl, hba⟩
      have HBa : Hid (Below w.heap.size w wa) := HBw9.out.trans (hba.mono HBw9.out.size)
      obtain ⟨g0, g1, g2, g3⟩ := bcells4 ((hba.block _ (heap_lt HBX9.out)).trans HBX9.out)
      have ka := KZ.out wa
      clear hba hBl hBI hBI1 hBn hBn2 hc3 hc3m hB1
      go_wp2_with fail
      refine ka.mono ?_
      clear ka g0 g1 g2 g3
      rintro e wy ⟨rfl, hby⟩
      have HBy : Hid (Below w.heap.size w wy) := HBa.out.trans (hby.mono HBa.out.size)
      clear hby
      have k1 := CV.out wy HBy.out
      go_wp2_with fail
      refine k1.mono ?_
      clear k1
      rintro e wz ⟨rfl, hbz⟩
      have HBz : Hid (Below w.heap.size w wz) := HBy.out.trans (hbz.mono HBy.out.size)
      clear hbz
      go_wp2
      go_ret
      exact ⟨rfl, HBz.out⟩
end Go.Proofs.YtojopcgacgichaaGreatDoor
