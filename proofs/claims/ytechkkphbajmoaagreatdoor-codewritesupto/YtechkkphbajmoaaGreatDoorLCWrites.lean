/- CodeWrites: any code has the bytes, and the text, that the document says, or none. -/
import Derived.Test.YtechkkphbajmoaaGreatDoorCRfHts
import Derived.Test.YtechkkphbajmoaaGreatDoorCRfList
import Derived.Test.YtechkkphbajmoaaGreatDoorCList2
import Derived.Test.YtechkkphbajmoaaGreatDoorCBytes
import Derived.Test.YtechkkphbajmoaaGreatDoorCBackMath3
import Derived.Test.YtechkkphbajmoaaGreatDoorCRefS
import Derived.Test.YtechkkphbajmoaaGreatDoorCLight
import Derived.Test.YtechkkphbajmoaaGreatDoorCLives7
namespace Go.Proofs.YtechkkphbajmoaaGreatDoor
open Go.RowKit Go.Shelf

theorem flat_lines {α β : Type} (f : α → List β) (M : Nat) : ∀ l : List α, (∀ x ∈ l, (f x).length ≤ M) → ((l.map f).flatten).length ≤ l.length * M
  | [], _ => by simp
  | x :: t, h => by
    have h1 := flat_lines f M t fun y hy => h y (by simp [hy])
    have h2 := h x (by simp)
    simp only [List.map_cons, List.flatten_cons, List.length_append, List.length_cons, Nat.succ_mul]
    omega
theorem listT_few {c : Cd} (h : rightC c = true) : (listT c).length ≤ 1048576 := by
  have hu := unitsFew h
  have h1 := flat_lines unT 4097 c.units fun u hu => by
    have := (unitR_parts ((rightC_parts h).2.1 u hu)).2.2.2.1.2
    unfold unT
    rw [List.length_cons, linesT_len]
    omega
  have h2 : c.units.length * 4097 ≤ 32 * 4097 := Nat.mul_le_mul_right _ hu
  unfold listT
  omega
/-- What List answers is these lines, and this number. -/
theorem ListRet.row {c : Cd} {N : Nat} {e : Ending} {w' : World} (h : ListRet N c e w') : ∃ b n k, e = .returned (.tuple #[.slice b n k, .int .i64 (if rightC c = true then 0 else 2)]) ∧ rowIn (fun q => N ≤ q) w' (.slice b n k) 1 strE (if rightC c = true then listT c else []) := by
  rcases h with ⟨hr, he⟩ | ⟨hr, v, he, ho⟩
  · refine ⟨none, 0, 0, by rw [he, if_neg (by rw [hr]; simp)], ?_⟩
    rw [if_neg (by rw [hr]; simp)]
    exact ⟨none, 0, rfl, Nat.le_refl _, Nat.zero_le _, .inl rfl⟩
  · have h1 := own_strs0 ho
    obtain ⟨b, k, rfl, -⟩ := h1.at
    exact ⟨b, _, k, by rw [he, if_pos hr], by rw [if_pos hr]; exact h1⟩
/-- What Bytes answers is these bytes, and this number. -/
theorem BytesRet.row {c : Cd} {N : Nat} {e : Ending} {w' : World} (h : BytesRet N c e w') : ∃ b n k, e = .returned (.tuple #[.slice b n k, .int .i64 (if rightC c = true then 0 else 2)]) ∧ bytesAt w' (.slice b n k) (if rightC c = true then cdB c else []) := by
  rcases h with ⟨hr, he⟩ | ⟨hr, v, he, ho⟩
  · refine ⟨none, 0, 0, by rw [he, if_neg (by rw [hr]; simp)], ?_⟩
    rw [if_neg (by rw [hr]; simp)]
    exact bytesAt_own (World.ownsRow_nil w' N 5 1)
  · obtain ⟨n0, bb, cc, rfl⟩ := own_form1 ho
    exact ⟨bb, n0, cc, by rw [he, if_pos hr], by rw [if_pos hr]; exact bytesAt_own ho⟩
theorem RfBytes.row {c : Cd} {e : Ending} (h : RfBytes c e) : e = .returned (.tuple #[.string (strB (if rightC c = true then cdB c else [])), .int .i64 (if rightC c = true then 0 else 2)]) := by
  rcases h with ⟨hr, he⟩ | ⟨hr, he⟩
  · rw [he, if_neg (by rw [hr]; simp), if_neg (by rw [hr]; simp)]
  · rw [he, if_pos hr, if_pos hr]

set_option maxRecDepth 100000 in
set_option maxHeartbeats 8000000 in
theorem codeWrites_any (S : Nat → Prop) (c : Cd) (bs bh bu : Option Addr) (ns cs nh ch nu cu : Nat) (w : World) (hin : CodeIn S w c (.slice bs ns cs) (.slice bh nh ch) (.slice bu nu cu)) (hS : ∀ q, S q → q < w.heap.size) (hsm : SmallC c) (hints : IntsC c) (hun : ∀ u ∈ c.units, u.ins.length ≤ 1048576 ∧ u.vars.length ≤ 1048576) (ht : TabsP w) (hot : OpT w) :
    Calls Tryz.prog 4 #[cdV (.slice bs ns cs) (.slice bh nh ch) (.slice bu nu cu) c.main] w fun e w' => e = .returned (.bool true) ∧ Below w.heap.size w w' := by
  have hns : ns = c.strs.length := by obtain ⟨b, c, e, -⟩ := hin.strs.at; cases e; rfl
  have hnh : nh = c.shapes.length := by obtain ⟨b, c, e, -⟩ := hin.shapes.at; cases e; rfl
  have hnu : nu = c.units.length := by obtain ⟨b, c, e, -⟩ := hin.units.at; cases e; rfl
  obtain ⟨m, hm⟩ : ∃ m, m = c.main := ⟨_, rfl⟩
  rw [← hm]
  obtain ⟨w1, hw1, hb1, HZ1, h1⟩ := box1 w (.cells #[.slice bs ns cs, .slice bh nh ch, .slice bu nu cu, .int .i64 m] 26)
  have HW1 : Hid (w1 = w.alloc (.cells #[.slice bs ns cs, .slice bh nh ch, .slice bu nu cu, .int .i64 m] 26)) := hw1
  have HB1 : Hid (Below w.heap.size w w1) := hb1
  have HLT : Hid (w.heap.size < w1.heap.size) := heap_lt h1
  have HF : Hid (∀ W, Below w1.heap.size w1 W → W.cell? ⟨w.heap.size, 0, none⟩ = some (.slice bs ns cs) ∧ W.cell? ⟨w.heap.size, 1, none⟩ = some (.slice bh nh ch) ∧ W.cell? ⟨w.heap.size, 2, none⟩ = some (.slice bu nu cu) ∧ W.cell? ⟨w.heap.size, 3, none⟩ = some (.int .i64 m)) := fun W hW => bcells4 ((hW.block w.heap.size HLT.out).trans h1)
  have HBW : Hid (∀ W, Below w1.heap.size w1 W → Below w.heap.size w W) := fun W hW => hb1.trans (hW.mono hb1.size)
  have HCIN : Hid (∀ W, Below w.heap.size w W → CodeIn S W c (.slice bs ns cs) (.slice bh nh ch) (.slice bu nu cu)) := fun W hW => hin.below hW
  have HT : Hid (∀ W, Below w.heap.size w W → TabsP W ∧ OpT W) := fun W hW => ⟨ht.below hW (Nat.le_refl _), hot.below hW (Nat.le_refl _)⟩
  obtain ⟨R, hR⟩ : ∃ R, R = rightC c := ⟨_, rfl⟩
  obtain ⟨K, hK⟩ : ∃ K : Int, K = if rightC c = true then 0 else 2 := ⟨_, rfl⟩
  obtain ⟨BS, hBS⟩ : ∃ B, B = if rightC c = true then cdB c else [] := ⟨_, rfl⟩
  obtain ⟨LS, hLS⟩ : ∃ B, B = if rightC c = true then listT c else [] := ⟨_, rfl⟩
  have HLL : Hid (LS.length ≤ 1048576) := by
    show _ ≤ _
    rw [hLS]
    by_cases h : rightC c = true
    · rw [if_pos h]; exact listT_few h
    · rw [if_neg h]; simp
  have CB : Hid (∀ (W : World), Below w.heap.size w W → Calls Tryz.prog 13 #[.agg #[.slice bs ns cs, .slice bh nh ch, .slice bu nu cu, .int .i64 m]] W fun e w' => (∃ b n k, e = .returned (.tuple #[.slice b n k, .int .i64 K]) ∧ bytesAt w' (.slice b n k) BS) ∧ Below W.heap.size W w') := fun W hW => by
    rw [hm, hK, hBS]
    by_cases h : rightC c = true
    · exact (cBytes_any S c bs bh bu ns cs nh ch nu cu W (HCIN.out W hW) (fun q hq => Nat.lt_of_lt_of_le (hS q hq) hW.size) hsm hints (right_len h hsm hints hun) (HT.out W hW).1 (HT.out W hW).2).mono fun e w' ⟨he, hb⟩ => ⟨he.row, hb⟩
    · have h0 : rightC c = false := by simpa using h
      exact (cBytes_no S c bs bh bu ns cs nh ch nu cu W (HCIN.out W hW) hsm (HT.out W hW).1 (HT.out W hW).2 h0).mono fun e w' ⟨he, hb⟩ => ⟨BytesRet.row (N := 0) (.inl ⟨h0, he⟩), hb⟩
  have CRB : Hid (∀ (W : World), Below w.heap.size w W → Calls Tryz.prog 14 #[.agg #[.slice bs ns cs, .slice bh nh ch, .slice bu nu cu, .int .i64 m]] W fun e w' => e = .returned (.tuple #[.string (strB BS), .int .i64 K]) ∧ Below W.heap.size W w') := fun W hW => by
    rw [hm, hK, hBS]; exact (rfBytes S c bs bh bu ns cs nh ch nu cu W (HCIN.out W hW) hsm hints hun (fun h => right_len h hsm hints hun)).mono fun e w' ⟨he, hb⟩ => ⟨he.row, hb⟩
  have CLI : Hid (∀ (W : World), Below w.heap.size w W → Calls Tryz.prog 15 #[.agg #[.slice bs ns cs, .slice bh nh ch, .slice bu nu cu, .int .i64 m]] W fun e w' => (∃ b n k, e = .returned (.tuple #[.slice b n k, .int .i64 K]) ∧ rowIn (fun q => W.heap.size ≤ q) w' (.slice b n k) 1 strE LS) ∧ Below W.heap.size W w') := fun W hW => by
    rw [hm, hK, hLS]; exact (cList_any S c bs bh bu ns cs nh ch nu cu W (HCIN.out W hW) hsm hints (HT.out W hW).1 (HT.out W hW).2).mono fun e w' ⟨he, hb⟩ => ⟨he.row, hb⟩
  have CRL : Hid (∀ (W : World), Below w.heap.size w W → Calls Tryz.prog 16 #[.agg #[.slice bs ns cs, .slice bh nh ch, .slice bu nu cu, .int .i64 m]] W fun e w' => (∃ b n k, e = .returned (.tuple #[.slice b n k, .int .i64 K]) ∧ rowIn (fun q => W.heap.size ≤ q) w' (.slice b n k) 1 strE LS) ∧ Below W.heap.size W w') := fun W hW => by
    rw [hm, hK, hLS]; exact (rfList S c bs bh bu ns cs nh ch nu cu W (HCIN.out W hW) hsm hints hun).mono fun e w' ⟨he, hb⟩ => ⟨he.row, hb⟩
  have CL : Hid (∀ (W : World), Below w.heap.size w W → Calls Tryz.prog 6 #[.agg #[.slice bs ns cs, .slice bh nh ch, .slice bu nu cu, .int .i64 m]] W fun e w' => Told e ∧ Below W.heap.size W w') := fun W hW => by
    rw [hm]; exact light_any S c bs bh bu ns cs nh ch nu cu W (HCIN.out W hW) (by have := hsm.nstrs; omega) (by have := hsm.nshapes; omega) (by have := hsm.nunits; omega) hun
  have CV : Hid (∀ (W : World), Below w.heap.size w W → Calls Tryz.prog 7 #[] W fun e w' => e = .returned (.bool true) ∧ Below W.heap.size W w') := fun W hW => lives07_any W (HT.out W hW).1 (HT.out W hW).2
  obtain ⟨f0, f1, f2, f3⟩ := HF.out w1 (Below.refl _ _)
  have c1 := CL.out w1 hb1
  clear hns hnh hnu hm hw1 hb1 h1 hin hsm hints hun ht hot HZ1 hK hBS hLS hR hS
  go_enter Tryz.func4, Tryz.ntmps4
  go_wp2_with fail
  rw [← HW1.out]
  refine c1.mono ?_
  clear c1 f0 f1 f2 f3
  rintro e w2 ⟨⟨L, rfl⟩, hb2⟩
  have HB2 : Hid (Below w1.heap.size w1 w2) := hb2
  have HBw2 : Hid (Below w.heap.size w w2) := HBW.out _ hb2
  clear hb2
  cases L with
  | false =>
    have c2 := CV.out w2 HBw2.out
    go_wp2_with fail
    refine c2.mono ?_
    clear c2
    rintro e w3 ⟨rfl, hb3⟩
    have HBw3 : Hid (Below w.heap.size w w3) := HBw2.out.trans (hb3.mono HBw2.out.size)
    clear hb3
    go_wp2
    go_ret
    exact ⟨rfl, HBw3.out⟩
  | true =>
    obtain ⟨f0, f1, f2, f3⟩ := HF.out w2 HB2.out
    have c2 := CB.out w2 HBw2.out
    go_wp2_with fail
    refine c2.mono ?_
    clear c2 f0 f1 f2 f3
    rintro e w3 ⟨⟨b3, n3, k3, rfl, hba⟩, hb3⟩
    have HB3 : Hid (Below w1.heap.size w1 w3) := HB2.out.trans (hb3.mono HB2.out.size)
    have HBw3 : Hid (Below w.heap.size w w3) := HBW.out _ HB3.out
    have HBA : Hid (bytesAt w3 (.slice b3 n3 k3) BS) := hba
    obtain ⟨f0, f1, f2, f3⟩ := HF.out w3 HB3.out
    have c3 := CRB.out w3 HBw3.out
    clear hb3 hba
    go_wp2_with fail
    refine c3.mono ?_
    clear c3 f0 f1 f2 f3
    rintro e w4 ⟨rfl, hb4⟩
    have HB4 : Hid (Below w1.heap.size w1 w4) := HB3.out.trans (hb4.mono HB3.out.size)
    have HBw4 : Hid (Below w.heap.size w w4) := HBW.out _ HB4.out
    have H34 : Hid (Below w3.heap.size w3 w4) := hb4
    obtain ⟨f0, f1, f2, f3⟩ := HF.out w4 HB4.out
    have c4 := CLI.out w4 HBw4.out
    clear hb4
    go_wp2_with fail
    refine c4.mono ?_
    clear c4 f0 f1 f2 f3
    rintro e w5 ⟨⟨b5, n5, k5, rfl, hro⟩, hb5⟩
    have HB5 : Hid (Below w1.heap.size w1 w5) := HB4.out.trans (hb5.mono HB4.out.size)
    have HBw5 : Hid (Below w.heap.size w w5) := HBW.out _ HB5.out
    have H35 : Hid (Below w3.heap.size w3 w5) := H34.out.trans (hb5.mono H34.out.size)
    have HRO : Hid (rowIn (fun q => w4.heap.size ≤ q) w5 (.slice b5 n5 k5) 1 strE LS) := hro
    obtain ⟨f0, f1, f2, f3⟩ := HF.out w5 HB5.out
    have c5 := CRL.out w5 HBw5.out
    clear hb5 hro
    go_wp2_with fail
    refine c5.mono ?_
    clear c5 f0 f1 f2 f3
    rintro e w6 ⟨⟨b6, n6, k6, rfl, hro⟩, hb6⟩
    have HB6 : Hid (Below w1.heap.size w1 w6) := HB5.out.trans (hb6.mono HB5.out.size)
    have HBw6 : Hid (Below w.heap.size w w6) := HBW.out _ HB6.out
    have H36 : Hid (Below w3.heap.size w3 w6) := H35.out.trans (hb6.mono H35.out.size)
    have cs := rfSameTexts _ _ LS LS (.slice b5 n5 k5) (.slice b6 n6 k6) w6 (rowIn.kept HRO.out (strE_keeps _) hb6.size fun a _ ha => hb6.block a ha) hro HLL.out
    rw [decide_eq_true (p := LS = LS) rfl] at cs
    obtain ⟨hn3, hrow3, -, -⟩ := bytesAt_row (bytesAt_below HBA.out H36.out (Nat.le_refl _))
    subst hn3
    have hc1 : (convert 39 9 (.slice b3 BS.length k3)).run Tryz.prog w6 = .ok (.string (strB BS)) w6 := conv_row w6 b3 BS k3 hrow3
    clear hb6 hro hrow3 HBA
    go_wp2_with fail
    refine cs.mono ?_
    clear cs hc1
    rintro e w7 ⟨rfl, hb7⟩
    have HBw7 : Hid (Below w.heap.size w w7) := HBw6.out.trans (hb7.mono HBw6.out.size)
    have c7 := CV.out w7 HBw7.out
    clear hb7
    go_wp2_with fail
    refine c7.mono ?_
    clear c7
    rintro e w8 ⟨rfl, hb8⟩
    have HBw8 : Hid (Below w.heap.size w w8) := HBw7.out.trans (hb8.mono HBw7.out.size)
    clear hb8
    go_wp2
    go_ret
    exact ⟨rfl, HBw8.out⟩
end Go.Proofs.YtechkkphbajmoaaGreatDoor
