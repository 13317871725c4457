/- SnapReads: any bytes are the state that the document says, or none's, for its reason. -/
import Derived.Test.YtbdgniiafdjmiaaGreatDoorPTLoad
import Derived.Test.YtbdgniiafdjmiaaGreatDoorPEx
import Derived.Test.YtbdgniiafdjmiaaGreatDoorPSame
import Derived.Test.YtbdgniiafdjmiaaGreatDoorPLives
namespace Go.Proofs.YtbdgniiafdjmiaaGreatDoor
open Go.RowKit Go.Shelf

theorem pmade_empty (w : World) : (w.alloc (.cells #[] 5)).ownsRow w.heap.size 5 1 (.slice (some ⟨w.heap.size, 0, none⟩) 0 0) 0 [] := World.ownsRow_made w #[] 0 (Nat.le_refl _) (Nat.zero_le _) rfl
/-- A state in memory, of which all is small. -/
def SnOk (W : World) (s : Sn) (v : Value) : Prop := ∃ (T : Nat → Prop) (b1 : Option Addr) (n1 c1 : Nat) (b2 : Option Addr) (n2 c2 : Nat), v = snV s (.slice b1 n1 c1) (.slice b2 n2 c2) ∧ SnIn T W s (.slice b1 n1 c1) (.slice b2 n2 c2) ∧ SmallS s
/-- What Load answers is this state, and this number. -/
theorem LoadRetS.row {N : Nat} {bs : List UInt8} {e : Ending} {w' : World} (h : LoadRetS N bs e w') : ∃ v, e = .returned (.tuple #[v, .int .i64 (if ldS bs = 0 then (if mayS (rSn bs 0 0).1 = true then 0 else 2) else (ldS bs : Int))]) ∧ SnOk w' (if ldS bs = 0 ∧ mayS (rSn bs 0 0).1 = true then (rSn bs 0 0).1 else sZ) v := by
  have hz : SnOk w' sZ (.agg #[.int .i64 0, .int .i64 0, .int .i64 0, .slice none 0 0, .slice none 0 0, .string ⟨#[]⟩, .int .i64 0]) := ⟨_, none, 0, 0, none, 0, 0, rfl, sZ_in w', sZ_small⟩
  rcases h with ⟨h1, he⟩ | ⟨h1, h2, he⟩ | ⟨h1, h2, b1, n1, c1, b2, n2, c2, he, hc⟩
  · exact ⟨_, by rw [he, if_neg h1], by rw [if_neg (fun h => h1 h.1)]; exact hz⟩
  · exact ⟨_, by rw [he, if_pos h1, if_neg (by rw [h2]; simp)], by rw [if_neg (fun h => by have h3 := h.2; rw [h2] at h3; cases h3)]; exact hz⟩
  · refine ⟨_, by rw [he, if_pos h1, if_pos h2], ?_⟩
    rw [if_pos ⟨h1, h2⟩]
    exact ⟨_, b1, n1, c1, b2, n2, c2, rfl, hc, okSn_small (ldS_form h1).1⟩

set_option maxRecDepth 100000 in
set_option maxHeartbeats 8000000 in
theorem snapReads_any (a0 : Option Addr) (cap0 : Nat) (b : List UInt8) (w : World) (hv : bytesAt w (.slice a0 b.length cap0) b) (hbl : b.length ≤ 140737488351232) (ht : TabsP w) :
    Calls Tryz.prog 4 #[.slice a0 b.length cap0] w fun e w' => e = .returned (.bool true) ∧ Below w.heap.size w w' := by
  have HT : Hid (∀ W, Below w.heap.size w W → TabsP W) := fun W hW => ht.below hW (Nat.le_refl _)
  have CV : Hid (∀ (W : World), Below w.heap.size w W → Calls Tryz.prog 9 #[] W fun e w' => e = .returned (.bool true) ∧ Below W.heap.size W w') := fun W hW => lives10_any W (HT.out W hW)
  have HV : Hid (bytesAt w (.slice a0 b.length cap0) b) := hv
  have hlI : (b.length : Int) ≤ 140737488351232 := by omega
  by_cases hlen : 20000 < (b.length : Int)
  · have cv := CV.out w (Below.refl _ _)
    clear hv ht
    go_enter Tryz.func4, Tryz.ntmps4
    go_wp2_with fail
    refine cv.mono ?_
    clear cv
    rintro e w3 ⟨rfl, hb3⟩
    have HB3 : Hid (Below w.heap.size w w3) := hb3
    clear hb3
    go_wp2
    go_ret
    exact ⟨rfl, HB3.out⟩
  · have hle : (b.length : Int) ≤ 20000 := by omega
    have HLE : Hid (b.length ≤ 20000) := by show _ ≤ _; omega
    obtain ⟨K, hK⟩ : ∃ K : Int, K = if ldS b = 0 then (if mayS (rSn b 0 0).1 = true then 0 else 2) else (ldS b : Int) := ⟨_, rfl⟩
    obtain ⟨D, hD⟩ : ∃ D, D = if ldS b = 0 ∧ mayS (rSn b 0 0).1 = true then (rSn b 0 0).1 else sZ := ⟨_, rfl⟩
    have CLD : Hid (∀ (W : World) (v : Value), Below w.heap.size w W → bytesAt W v b → Calls Tryz.prog 14 #[v] W fun e w' => (∃ u, e = .returned (.tuple #[u, .int .i64 K]) ∧ SnOk w' D u) ∧ Below W.heap.size W w') := fun W v hW hvb => by
      rw [hK, hD]
      exact (pLoad_any v b W hvb (by have := HLE.out; omega) (HT.out W hW)).mono fun e w' ⟨he, hb⟩ => ⟨he.row, hb⟩
    have CRL : Hid (∀ (W : World), Calls Tryz.prog 15 #[.string (strB b)] W fun e w' => (∃ u, e = .returned (.tuple #[u, .int .i64 K]) ∧ SnOk w' D u) ∧ Below W.heap.size W w') := fun W => by
      rw [hK, hD]
      exact (pfLoad_any b W (by have := HLE.out; omega)).mono fun e w' ⟨he, hb⟩ => ⟨he.row, hb⟩
    have h1a : Below w.heap.size w (w.alloc (.cells #[] 5)) := (Below.refl _ _).alloc (Nat.le_refl _) _
    have HBY : Hid (bytesAt (w.alloc (.cells #[] 5)) (.slice a0 b.length cap0) b) := bytesAt_below hv h1a (Nat.le_refl _)
    have HOW : Hid ((w.alloc (.cells #[] 5)).ownsRow w.heap.size 5 1 (.slice (some ⟨w.heap.size, 0, none⟩) 0 0) ([] : List UInt8).length (Lib.byteCells [])) := pmade_empty w
    have HS : Hid (w.heap.size ≤ (w.alloc (.cells #[] 5)).heap.size) := h1a.size
    have H1A : Hid (Below w.heap.size w (w.alloc (.cells #[] 5))) := h1a
    clear hv ht hK hD hlen h1a
    go_enter Tryz.func4, Tryz.ntmps4
    go_wp2_with (at_builtin; refine append_bytes rfl _ _ rfl w.heap.size _ [] rfl HOW.out _ b rfl HBY.out (by simp only [List.length_nil]; omega) HS.out ?_)
    intro v1 w1 hown1 hgrow1
    have HB1 : Hid (Below w.heap.size w w1) := H1A.out.grown hgrow1 HS.out (fun k hk => by simp [Value.ownBlock] at hk; omega)
    have c1 := CLD.out w1 v1 HB1.out (bytesAt_own hown1)
    clear hown1 hgrow1
    go_wp2_with fail
    refine c1.mono ?_
    clear c1
    rintro e w2 ⟨⟨u2, rfl, hcd2⟩, hb2⟩
    obtain ⟨T2, xs, ms, es, xh, mh, eh, rfl, hin2, hsm2⟩ := hcd2
    have HB2 : Hid (Below w.heap.size w w2) := HB1.out.trans (hb2.mono HB1.out.size)
    have HIN2 : Hid (SnIn T2 w2 D (.slice xs ms es) (.slice xh mh eh)) := hin2
    have HSM : Hid (SmallS D) := hsm2
    obtain ⟨dp, hdp⟩ : ∃ m, m = D.pos := ⟨_, rfl⟩
    obtain ⟨ds, hds⟩ : ∃ m, m = D.st := ⟨_, rfl⟩
    obtain ⟨df, hdf⟩ : ∃ m, m = D.ft := ⟨_, rfl⟩
    obtain ⟨do9, hdo⟩ : ∃ m, m = strB D.out := ⟨_, rfl⟩
    obtain ⟨dr, hdr⟩ : ∃ m, m = D.rd := ⟨_, rfl⟩
    have HDM : Hid (dp = D.pos ∧ ds = D.st ∧ df = D.ft ∧ do9 = strB D.out ∧ dr = D.rd) := ⟨hdp, hds, hdf, hdo, hdr⟩
    simp only [snV]
    rw [← hdp, ← hds, ← hdf, ← hdo, ← hdr]
    obtain ⟨w3, hw3, hb3, HZ3, h3⟩ := box1 w2 (.cells #[.int .i64 dp, .int .i64 ds, .int .i64 df, .slice xs ms es, .slice xh mh eh, .string do9, .int .i64 dr] 27)
    have HW3 : Hid (w3 = w2.alloc (.cells #[.int .i64 dp, .int .i64 ds, .int .i64 df, .slice xs ms es, .slice xh mh eh, .string do9, .int .i64 dr] 27)) := hw3
    have HX3 : Hid (w3.heap[w2.heap.size]? = some (.cells #[.int .i64 dp, .int .i64 ds, .int .i64 df, .slice xs ms es, .slice xh mh eh, .string do9, .int .i64 dr] 27 (0, 0))) := h3
    have H23 : Hid (Below w2.heap.size w2 w3) := hb3
    have HB3 : Hid (Below w.heap.size w w3) := HB2.out.trans (hb3.mono HB2.out.size)
    obtain ⟨-, hrow3, -, -⟩ := bytesAt_row (bytesAt_below HV.out HB3.out (Nat.le_refl _))
    have hc1 : (convert 30 9 (.slice a0 b.length cap0)).run Tryz.prog w3 = .ok (.string (strB b)) w3 := conv_row w3 a0 b cap0 hrow3
    have c3 := CRL.out w3
    clear hb2 hin2 hsm2 hdp hds hdf hdo hdr hw3 hb3 HZ3 h3 hrow3
    go_upto_region 4 with fail
    rw [← HW3.out]
    go_wp2_with fail
    refine c3.mono ?_
    clear c3 hc1
    rintro e w4 ⟨⟨u4, rfl, hcd4⟩, hb4⟩
    obtain ⟨T4, ys, ps, fs, yh, ph, fh, rfl, hin4, -⟩ := hcd4
    have H34 : Hid (Below w3.heap.size w3 w4) := hb4
    have HB4 : Hid (Below w.heap.size w w4) := HB3.out.trans (hb4.mono HB3.out.size)
    simp only [snV]
    rw [← HDM.out.1, ← HDM.out.2.1, ← HDM.out.2.2.1, ← HDM.out.2.2.2.1, ← HDM.out.2.2.2.2]
    obtain ⟨w5, hw5, hb5, HZ5, h5⟩ := box1 w4 (.cells #[.int .i64 dp, .int .i64 ds, .int .i64 df, .slice ys ps fs, .slice yh ph fh, .string do9, .int .i64 dr] 27)
    have HW5 : Hid (w5 = w4.alloc (.cells #[.int .i64 dp, .int .i64 ds, .int .i64 df, .slice ys ps fs, .slice yh ph fh, .string do9, .int .i64 dr] 27)) := hw5
    have HB5 : Hid (Below w.heap.size w w5) := HB4.out.trans (hb5.mono HB4.out.size)
    obtain ⟨p0, p1, p2, p3, p4, p5, p6⟩ := cells7 h5
    obtain ⟨q0, q1, q2, q3, q4, q5, q6⟩ := cells7 ((hb5.block _ (Nat.lt_of_lt_of_le (heap_lt HX3.out) hb4.size)).trans ((hb4.block _ (heap_lt HX3.out)).trans HX3.out))
    have H25 : Below w2.heap.size w2 w5 := H23.out.trans ((hb4.trans (hb5.mono hb4.size)).mono H23.out.size)
    have cs := pSame_any T2 T4 D xs xh ys yh ms es mh eh ps fs ph fh w5 (HIN2.out.below H25) (hin4.below hb5) HSM.out
    simp only [snV] at cs
    rw [← HDM.out.1, ← HDM.out.2.1, ← HDM.out.2.2.1, ← HDM.out.2.2.2.1, ← HDM.out.2.2.2.2] at cs
    have hlt4 : w4.heap.size < w5.heap.size := heap_lt h5
    have hlt2 : w2.heap.size < w5.heap.size := Nat.lt_of_lt_of_le (heap_lt HX3.out) (Nat.le_trans hb4.size hb5.size)
    clear hb4 hin4 hw5 hb5 HZ5 h5 H25
    go_upto_region 5 with fail
    rw [← HW5.out]
    go_wp2_with fail
    refine cs.mono ?_
    clear cs p0 p1 p2 p3 p4 p5 p6 q0 q1 q2 q3 q4 q5 q6 hlt4 hlt2
    rintro e w6 ⟨rfl, hb6⟩
    have HB6 : Hid (Below w.heap.size w w6) := HB5.out.trans (hb6.mono HB5.out.size)
    have c6 := CV.out w6 HB6.out
    clear hb6
    go_wp2_with fail
    refine c6.mono ?_
    clear c6
    rintro e w7 ⟨rfl, hb7⟩
    have HB7 : Hid (Below w.heap.size w w7) := HB6.out.trans (hb7.mono HB6.out.size)
    clear hb7
    go_wp2
    go_ret
    exact ⟨rfl, HB7.out⟩
end Go.Proofs.YtbdgniiafdjmiaaGreatDoor
