/- CodeReads: any bytes are the code that the document says, or none, for its reason. -/
import Derived.Test.YtechkkphbajmoaaGreatDoorCTLoad
import Derived.Test.YtechkkphbajmoaaGreatDoorMK
import Derived.Test.YtechkkphbajmoaaGreatDoorCRefSame
import Derived.Test.YtechkkphbajmoaaGreatDoorCLives7
namespace Go.Proofs.YtechkkphbajmoaaGreatDoor
open Go.RowKit Go.Shelf

theorem crmade_empty (w : World) : (w.alloc (.cells #[] 5)).ownsRow w.heap.size 5 1 (.slice (some ⟨w.heap.size, 0, none⟩) 0 0) 0 [] := World.ownsRow_made w #[] 0 (Nat.le_refl _) (Nat.zero_le _) rfl
/-- A code in memory, of which all is small. -/
def CdOk (W : World) (c : Cd) (v : Value) : Prop := ∃ (T : Nat → Prop) (xs : Option Addr) (ms es : Nat) (xh : Option Addr) (mh eh : Nat) (xu : Option Addr) (mu eu : Nat), v = cdV (.slice xs ms es) (.slice xh mh eh) (.slice xu mu eu) c.main ∧ CodeIn T W c (.slice xs ms es) (.slice xh mh eh) (.slice xu mu eu) ∧ SmallC c ∧ IntsC c ∧ (cdB c).length ≤ 140737488355328
/-- What Load answers is this code, and this number. -/
theorem LoadRet.row {N : Nat} {bs : List UInt8} {e : Ending} {w' : World} (h : LoadRet N bs e w') (hl : bs.length ≤ 1048576) : ∃ v, e = .returned (.tuple #[v, .int .i64 (if ldE bs = 0 then (if rightC (rCode bs).1 = true then 0 else 2) else (ldE bs : Int))]) ∧ CdOk w' (if ldE bs = 0 ∧ rightC (rCode bs).1 = true then (rCode bs).1 else cZ) v := by
  have hz : CdOk w' cZ (.agg #[.slice none 0 0, .slice none 0 0, .slice none 0 0, .int .i64 0]) := ⟨_, none, 0, 0, none, 0, 0, none, 0, 0, rfl, cZ_in w', cZ_small, cZ_ints, cZ_len⟩
  rcases h with ⟨h1, he⟩ | ⟨h1, h2, he⟩ | ⟨h1, h2, xs, ms, es, xh, mh, eh, xu, mu, eu, he, hc⟩
  · exact ⟨_, by rw [he, if_neg h1], by rw [if_neg (fun h => h1 h.1)]; exact hz⟩
  · exact ⟨_, by rw [he, if_pos h1, if_neg (by rw [h2]; simp)], by rw [if_neg (fun h => by have h3 := h.2; rw [h2] at h3; cases h3)]; exact hz⟩
  · obtain ⟨hok, hb⟩ := ldE_form h1
    refine ⟨_, by rw [he, if_pos h1, if_pos h2], ?_⟩
    rw [if_pos ⟨h1, h2⟩]
    exact ⟨_, xs, ms, es, xh, mh, eh, xu, mu, eu, rfl, hc, rCode_small bs, okcd_ints hok, by rw [hb]; omega⟩

set_option maxRecDepth 100000 in
set_option maxHeartbeats 8000000 in
theorem codeReads_any (a0 : Option Addr) (cap0 : Nat) (b : List UInt8) (w : World) (hv : bytesAt w (.slice a0 b.length cap0) b) (hbl : b.length ≤ 140737488351232) (ht : TabsP w) (hot : OpT w) :
    Calls Tryz.prog 5 #[.slice a0 b.length cap0] w fun e w' => e = .returned (.bool true) ∧ Below w.heap.size w w' := by
  have HT : Hid (∀ W, Below w.heap.size w W → TabsP W ∧ OpT W) := fun W hW => ⟨ht.below hW (Nat.le_refl _), hot.below hW (Nat.le_refl _)⟩
  have CV : Hid (∀ (W : World), Below w.heap.size w W → Calls Tryz.prog 7 #[] W fun e w' => e = .returned (.bool true) ∧ Below W.heap.size W w') := fun W hW => lives07_any W (HT.out W hW).1 (HT.out W hW).2
  have HV : Hid (bytesAt w (.slice a0 b.length cap0) b) := hv
  have hlI : (b.length : Int) ≤ 140737488351232 := by omega
  by_cases hlen : 20000 < (b.length : Int)
  · have cv := CV.out w (Below.refl _ _)
    clear hv ht hot
    go_enter Tryz.func5, Tryz.ntmps5
    go_wp2_with fail
    refine cv.mono ?_
    clear cv
    rintro e w3 ⟨rfl, hb3⟩
    have HB3 : Hid (Below w.heap.size w w3) := hb3
    clear hb3
    go_wp2
    go_ret
    exact ⟨rfl, HB3.out⟩
  · have hle : (b.length : Int) ≤ 20000 := by omega
    have HLE : Hid (b.length ≤ 20000) := by show _ ≤ _; omega
    obtain ⟨K, hK⟩ : ∃ K : Int, K = if ldE b = 0 then (if rightC (rCode b).1 = true then 0 else 2) else (ldE b : Int) := ⟨_, rfl⟩
    obtain ⟨D, hD⟩ : ∃ D, D = if ldE b = 0 ∧ rightC (rCode b).1 = true then (rCode b).1 else cZ := ⟨_, rfl⟩
    have CLD : Hid (∀ (W : World) (v : Value), Below w.heap.size w W → bytesAt W v b → Calls Tryz.prog 18 #[v] W fun e w' => (∃ u, e = .returned (.tuple #[u, .int .i64 K]) ∧ CdOk w' D u) ∧ Below W.heap.size W w') := fun W v hW hvb => by
      rw [hK, hD]
      exact (cLoad_any v b W hvb (by have := HLE.out; omega) (HT.out W hW).1 (HT.out W hW).2).mono fun e w' ⟨he, hb⟩ => ⟨he.row (by have := HLE.out; omega), hb⟩
    have CRL : Hid (∀ (W : World), Calls Tryz.prog 19 #[.string (strB b)] W fun e w' => (∃ u, e = .returned (.tuple #[u, .int .i64 K]) ∧ CdOk w' D u) ∧ Below W.heap.size W w') := fun W => by
      rw [hK, hD]
      exact (rfLoad b W (by have := HLE.out; omega)).mono fun e w' ⟨he, hb⟩ => ⟨he.row (by have := HLE.out; omega), hb⟩
    have h1a : Below w.heap.size w (w.alloc (.cells #[] 5)) := (Below.refl _ _).alloc (Nat.le_refl _) _
    have HBY : Hid (bytesAt (w.alloc (.cells #[] 5)) (.slice a0 b.length cap0) b) := bytesAt_below hv h1a (Nat.le_refl _)
    have HOW : Hid ((w.alloc (.cells #[] 5)).ownsRow w.heap.size 5 1 (.slice (some ⟨w.heap.size, 0, none⟩) 0 0) ([] : List UInt8).length (Lib.byteCells [])) := crmade_empty w
    have HS : Hid (w.heap.size ≤ (w.alloc (.cells #[] 5)).heap.size) := h1a.size
    have H1A : Hid (Below w.heap.size w (w.alloc (.cells #[] 5))) := h1a
    clear hv ht hot hK hD hlen h1a
    go_enter Tryz.func5, Tryz.ntmps5
    go_wp2_with (at_builtin; refine append_bytes rfl _ _ rfl w.heap.size _ [] rfl HOW.out _ b rfl HBY.out (by simp only [List.length_nil]; omega) HS.out ?_)
    intro v1 w1 hown1 hgrow1
    have HB1 : Hid (Below w.heap.size w w1) := H1A.out.grown hgrow1 HS.out (fun k hk => by simp [Value.ownBlock] at hk; omega)
    have c1 := CLD.out w1 v1 HB1.out (bytesAt_own hown1)
    clear hown1 hgrow1
    go_wp2_with fail
    refine c1.mono ?_
    clear c1
    rintro e w2 ⟨⟨u2, rfl, hcd2⟩, hb2⟩
    obtain ⟨T2, xs, ms, es, xh, mh, eh, xu, mu, eu, rfl, hin2, hsm2, hi2, hl2⟩ := hcd2
    have HB2 : Hid (Below w.heap.size w w2) := HB1.out.trans (hb2.mono HB1.out.size)
    have HIN2 : Hid (CodeIn T2 w2 D (.slice xs ms es) (.slice xh mh eh) (.slice xu mu eu)) := hin2
    have HSM : Hid (SmallC D ∧ IntsC D ∧ (cdB D).length ≤ 140737488355328) := ⟨hsm2, hi2, hl2⟩
    obtain ⟨dm, hdm⟩ : ∃ m, m = D.main := ⟨_, rfl⟩
    have HDM : Hid (dm = D.main) := hdm
    rw [← hdm]
    obtain ⟨w3, hw3, hb3, HZ3, h3⟩ := box1 w2 (.cells #[.slice xs ms es, .slice xh mh eh, .slice xu mu eu, .int .i64 dm] 26)
    have HW3 : Hid (w3 = w2.alloc (.cells #[.slice xs ms es, .slice xh mh eh, .slice xu mu eu, .int .i64 dm] 26)) := hw3
    have HX3 : Hid (w3.heap[w2.heap.size]? = some (.cells #[.slice xs ms es, .slice xh mh eh, .slice xu mu eu, .int .i64 dm] 26 (0, 0))) := h3
    have H23 : Hid (Below w2.heap.size w2 w3) := hb3
    have HB3 : Hid (Below w.heap.size w w3) := HB2.out.trans (hb3.mono HB2.out.size)
    obtain ⟨-, hrow3, -, -⟩ := bytesAt_row (bytesAt_below HV.out HB3.out (Nat.le_refl _))
    have hc1 : (convert 39 9 (.slice a0 b.length cap0)).run Tryz.prog w3 = .ok (.string (strB b)) w3 := conv_row w3 a0 b cap0 hrow3
    have c3 := CRL.out w3
    clear hb2 hin2 hsm2 hi2 hl2 hdm hw3 hb3 HZ3 h3 hrow3
    go_upto_region 4 with fail
    rw [← HW3.out]
    go_wp2_with fail
    refine c3.mono ?_
    clear c3 hc1
    rintro e w4 ⟨⟨u4, rfl, hcd4⟩, hb4⟩
    obtain ⟨T4, ys, ps, fs, yh, ph, fh, yu, pu, fu, rfl, hin4, -, -, -⟩ := hcd4
    have H34 : Hid (Below w3.heap.size w3 w4) := hb4
    have HB4 : Hid (Below w.heap.size w w4) := HB3.out.trans (hb4.mono HB3.out.size)
    rw [← HDM.out]
    obtain ⟨w5, hw5, hb5, HZ5, h5⟩ := box1 w4 (.cells #[.slice ys ps fs, .slice yh ph fh, .slice yu pu fu, .int .i64 dm] 26)
    have HW5 : Hid (w5 = w4.alloc (.cells #[.slice ys ps fs, .slice yh ph fh, .slice yu pu fu, .int .i64 dm] 26)) := hw5
    have HB5 : Hid (Below w.heap.size w w5) := HB4.out.trans (hb5.mono HB4.out.size)
    obtain ⟨p0, p1, p2, p3⟩ := bcells4 h5
    obtain ⟨q0, q1, q2, q3⟩ := bcells4 ((hb5.block _ (Nat.lt_of_lt_of_le (heap_lt HX3.out) hb4.size)).trans ((hb4.block _ (heap_lt HX3.out)).trans HX3.out))
    have H25 : Below w2.heap.size w2 w5 := H23.out.trans ((hb4.trans (hb5.mono hb4.size)).mono H23.out.size)
    have cs := rfSame T2 T4 D D xs xh xu ms es mh eh mu eu ys yh yu ps fs ph fh pu fu w5 (HIN2.out.below H25) HSM.out.1 HSM.out.2.1 HSM.out.2.2 (hin4.below hb5) HSM.out.1 HSM.out.2.1 HSM.out.2.2
    rw [decide_eq_true (p := cdB D = cdB D) rfl, ← HDM.out] at cs
    have hlt4 : w4.heap.size < w5.heap.size := heap_lt h5
    have hlt2 : w2.heap.size < w5.heap.size := Nat.lt_of_lt_of_le (heap_lt HX3.out) (Nat.le_trans hb4.size hb5.size)
    clear hb4 hin4 hw5 hb5 HZ5 h5 H25
    go_upto_region 5 with fail
    rw [← HW5.out]
    go_wp2_with fail
    refine cs.mono ?_
    clear cs p0 p1 p2 p3 q0 q1 q2 q3 hlt4 hlt2
    rintro e w6 ⟨rfl, hb6⟩
    have HB6 : Hid (Below w.heap.size w w6) := HB5.out.trans (hb6.mono HB5.out.size)
    have c6 := CV.out w6 HB6.out
    clear hb6
    go_wp2_with fail
    refine c6.mono ?_
    clear c6
    rintro e w7 ⟨rfl, hb7⟩
    have HB7 : Hid (Below w.heap.size w w7) := HB6.out.trans (hb7.mono HB6.out.size)
    clear hb7
    go_wp2
    go_ret
    exact ⟨rfl, HB7.out⟩
end Go.Proofs.YtechkkphbajmoaaGreatDoor
