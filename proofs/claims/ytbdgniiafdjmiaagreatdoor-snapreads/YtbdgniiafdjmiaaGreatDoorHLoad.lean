/- heap: Load. -/
import Derived.Test.YtbdgniiafdjmiaaGreatDoorHAddB
import Derived.Test.YtbdgniiafdjmiaaGreatDoorMH
import Derived.Test.YtbdgniiafdjmiaaGreatDoorHSame
namespace Go.Proofs.YtbdgniiafdjmiaaGreatDoor
open Go.RowKit Go.Shelf

/-- What Load answers. -/
def loadP (m : Int) (os : List Ob) (w : World) (e : Ending) (w' : World) : Prop :=
  Below w.heap.size w w' ∧ ((e = .returned (.tuple #[.pointer none, .int .i64 2]) ∧ ∃ o ∈ os, obB o (os.length : Int) = false) ∨
    (e = .returned (.tuple #[.pointer none, .int .i64 12]) ∧ (∀ o ∈ os, obB o (os.length : Int) = true) ∧ mostN m < os.length + (allV os).length) ∨
    ((∀ o ∈ os, obB o (os.length : Int) = true) ∧ os.length + (allV os).length ≤ mostN m ∧ ∃ g vo vc, e = .returned (.tuple #[.pointer (some ⟨g, 0, none⟩), .int .i64 0]) ∧ HpIn (fun k => w.heap.size ≤ k) w' (mostN m) os g vo vc))

theorem take_snoc {os : List Ob} {i : Nat} (h : i < os.length) : os.take (i + 1) = os.take i ++ [os[i]] := List.take_succ_eq_append_getElem h

set_option maxRecDepth 100000 in
set_option maxHeartbeats 4000000 in
theorem load_any (T : Nat → Prop) (m : Int) (os : List Ob) (v : Value) (w : World) (hv : objsIn T w v os) (hs : ∀ o ∈ os, smallO o) (hk : ∀ o ∈ os, o.2.length ≤ 1048576) (hl : os.length ≤ 1048576) (ht : TabsP w) :
    Calls Tryz.prog 86 #[.int .i64 m, v] w (loadP m os w) := by
  obtain ⟨b1, c1, rfl, p1, p2, hat1⟩ := hv.at
  have H1 : Hid (∀ i (hi : i < os.length), ∃ b o u, b1 = some ⟨b, o, none⟩ ∧ T b ∧ b < w.heap.size ∧ w.cell? ⟨b, o + i * 2, none⟩ = some (.string (strB (os[i]).1)) ∧ w.cell? ⟨b, o + i * 2 + 1, none⟩ = some u ∧ valsIn T w u (os[i]).2) := hat1
  have HT : Hid (TabsP w) := ht
  have HS : Hid (∀ o ∈ os, smallO o) := hs
  have HK : Hid (∀ o ∈ os, o.2.length ≤ 1048576) := hk
  have HAL : Hid (∀ i, i ≤ os.length → (allV (os.take i)).length ≤ i * 1048576) := fun i hi => by
    induction i with
    | zero => simp [allV]
    | succ i ih =>
      rw [take_snoc (by omega), allV_snoc, List.length_append]
      have := ih (by omega)
      have := hk os[i] (List.getElem_mem (by omega))
      omega
  clear hv hat1 hs hk ht
  go_enter Tryz.func86, Tryz.ntmps86
  go_wp2
  go_loopw [6, 14] (fun vu vi wr => ∃ i : Nat, i ≤ os.length ∧ vi = .int .i64 i ∧ vu = .int .i64 ((i + (allV (os.take i)).length : Nat) : Int) ∧ (∀ o ∈ os.take i, obB o (os.length : Int) = true) ∧ Below w.heap.size w wr) (fun _ vi _ => os.length - (intOf vi).toNat)
  case atStart => exact ⟨0, Nat.zero_le _, rfl, by simp [allV], by simp, Below.refl _ _⟩
  case round =>
    obtain ⟨i, hi, rfl, rfl, hall, hbw⟩ := hrel
    have HB : Hid (Below w.heap.size w wr) := hbw
    have hsw := hbw.size
    have HALL : Hid (∀ o ∈ os.take i, obB o (os.length : Int) = true) := hall
    clear hbw hall
    by_cases hlt : i < os.length
    · have hi2 : (i : Int) < os.length := by omega
      obtain ⟨ba, oa, ua, rfl, -, hla, q0, q1, hva⟩ := H1.out i hlt
      have hxs := HS.out os[i] (List.getElem_mem hlt)
      have hxk := HK.out os[i] (List.getElem_mem hlt)
      obtain ⟨X, hX⟩ : ∃ X, X = os[i] := ⟨_, rfl⟩
      rw [← hX] at q0 hva hxs hxk
      have HX : Hid (X = os[i]) := hX
      obtain ⟨bu, cu, hua, z1, z2, -⟩ := hva.at
      subst hua
      have t0 := (below_cell HB.out hla).trans q0
      have t1 := (below_cell HB.out hla).trans q1
      obtain ⟨w1, hw1⟩ : ∃ w1, w1 = wr.alloc (.cells #[.string (strB X.1), .slice bu X.2.length cu] 51) := ⟨_, rfl⟩
      have hb1 : Below w.heap.size w w1 := by rw [hw1]; exact HB.out.alloc hsw _
      have hz1 : w1.heap.size = wr.heap.size + 1 := by rw [hw1]; simp
      have bk1 : w1.heap[wr.heap.size]? = some (.cells #[.string (strB X.1), .slice bu X.2.length cu] 51 (0, 0)) := by rw [hw1]; exact World.alloc_heap_new _ _
      obtain ⟨r0, r1, -⟩ := cellsH2 bk1
      have cm := mayBe_any T X (.slice bu X.2.length cu) (os.length : Int) w1 (hva.kept hb1.size fun k _ hk => hb1.block k hk) hxs hxk (HT.out.below hb1 (Nat.le_refl _))
      have hw1' := hw1.symm
      have HB1 : Hid (Below w.heap.size w w1) := hb1
      have HBK1 : Hid (w1.heap[wr.heap.size]? = some (.cells #[.string (strB X.1), .slice bu X.2.length cu] 51 (0, 0))) := bk1
      have HAi := HAL.out i hi
      clear hb1 bk1 q0 q1 hva hX hw1
      go_wp2_with fail
      refine cm.mono ?_
      clear cm r0 r1 t0 t1
      cases hob : obB X (os.length : Int) with
      | false =>
        rintro e w2 ⟨rfl, hb2⟩
        have HB2 : Hid (Below w.heap.size w w2) := HB1.out.trans (hb2.mono HB1.out.size)
        clear hb2
        go_wp2
        exact bodyPost_ret (v := .tuple #[.pointer none, .int .i64 2]) (by simp [results, Tryz.results86, go_sem]) rfl ⟨HB2.out, .inl ⟨rfl, X, by rw [HX.out]; exact List.getElem_mem hlt, hob⟩⟩
      | true =>
        rintro e w2 ⟨rfl, hb2⟩
        have HB2 : Hid (Below w.heap.size w w2) := HB1.out.trans (hb2.mono HB1.out.size)
        obtain ⟨s0, s1, -⟩ := cellsH2 ((hb2.block wr.heap.size (by omega)).trans HBK1.out)
        have cu' := uses_any (strB X.1) bu X.2.length cu (by omega) w2
        clear hb2
        go_wp2_with fail
        refine cu'.mono ?_
        clear cu'
        rintro e w3 ⟨rfl, hb3⟩
        have HB3 : Hid (Below w.heap.size w w3) := HB2.out.trans (hb3.mono HB2.out.size)
        clear hb3
        go_wp2
        refine ⟨⟨i + 1, by omega, by go_num, ?_, ?_, HB3.out⟩, by simp [intOf]; omega⟩
        · rw [take_snoc hlt, allV_snoc, List.length_append, ← HX.out]
          go_num
        · rw [take_snoc hlt, ← HX.out]
          intro o ho
          rcases List.mem_append.1 ho with h9 | h9
          · exact HALL.out o h9
          · rw [List.mem_singleton] at h9; subst h9; exact hob
    · obtain rfl : i = os.length := by omega
      have hi2 : ¬ (os.length : Int) < os.length := by omega
      have hall : ∀ o ∈ os, obB o (os.length : Int) = true := by have := HALL.out; rwa [List.take_of_length_le (Nat.le_refl _)] at this
      rw [List.take_of_length_le (Nat.le_refl os.length)]
      have cn := new_any m wr
      have HALL2 : Hid (∀ o ∈ os, obB o (os.length : Int) = true) := hall
      clear hall
      go_wp2_with fail
      refine cn.mono ?_
      clear cn
      rintro e w2 ⟨rfl, H2, hb2⟩
      have hs2 := hb2.size
      have HB2 : Hid (Below w.heap.size w w2) := HB.out.trans (hb2.mono hsw)
      obtain ⟨-, d1, -, -, -⟩ := cells4 H2.blk
      have hmN := mostN_le m
      obtain ⟨M, hM⟩ : ∃ M, M = mostN m := ⟨_, rfl⟩
      have HM : Hid (M = mostN m) := hM
      rw [← hM] at d1 H2 hmN
      obtain ⟨g, hg⟩ : ∃ g, g = wr.heap.size := ⟨_, rfl⟩
      rw [← hg] at d1 H2 ⊢
      have HG : Hid (w.heap.size ≤ g) := by show _ ≤ _; omega
      have H2B : Hid (HpB (fun k => w.heap.size ≤ k) w2 M [] g (.slice none 0 0) (.slice none 0 0)) := H2.bare.wide fun k _ h => by omega
      have hAo := HAL.out os.length (Nat.le_refl _)
      rw [List.take_of_length_le (Nat.le_refl _)] at hAo
      clear hM hg H2 hb2
      by_cases hfit : M < os.length + (allV os).length
      · have hfi : (M : Int) < ((os.length + (allV os).length : Nat) : Int) := by omega
        have hfi2 : (M : Int) < (os.length : Int) + ((allV os).length : Int) := by omega
        go_wp2
        exact bodyPost_ret (v := .tuple #[.pointer none, .int .i64 12]) (by simp [results, Tryz.results86, go_sem]) rfl ⟨HB2.out, .inr (.inl ⟨rfl, HALL2.out, by rw [← HM.out]; exact hfit⟩)⟩
      · have hfi : ¬ (M : Int) < ((os.length + (allV os).length : Nat) : Int) := by omega
        have hfi2 : ¬ (M : Int) < (os.length : Int) + ((allV os).length : Int) := by omega
        go_wp2
        clear d1
        go_loopw [38] (fun vi wx => ∃ j : Nat, j ≤ os.length ∧ vi = .int .i64 j ∧ (∃ vo vc, HpB (fun k => w.heap.size ≤ k) wx M (os.take j) g vo vc) ∧ Below w.heap.size w wx) (fun vi _ => os.length - (intOf vi).toNat)
        case atStart => exact ⟨0, Nat.zero_le _, rfl, ⟨_, _, H2B.out⟩, HB2.out⟩
        case round =>
          obtain ⟨j, hj, rfl, ⟨vo, vc, hp⟩, hbx⟩ := hrel
          have HP : Hid (HpB (fun k => w.heap.size ≤ k) wr M (os.take j) g vo vc) := hp
          have HBX : Hid (Below w.heap.size w wr) := hbx
          have hsx := hbx.size
          clear hp hbx
          by_cases hjt : j < os.length
          · have hj2 : (j : Int) < os.length := by omega
            obtain ⟨ba, oa, ua, rfl, -, hla, q0, q1, hva⟩ := H1.out j hjt
            have hxs := HS.out os[j] (List.getElem_mem hjt)
            have hcut := (allV_cut os j hjt).1
            unfold fromO at hcut
            obtain ⟨X, hX⟩ : ∃ X, X = os[j] := ⟨_, rfl⟩
            rw [← hX] at q0 hva hxs hcut
            have HX : Hid (X = os[j]) := hX
            obtain ⟨bu, cu, hua, z1, z2, -⟩ := hva.at
            subst hua
            have t0 := (below_cell HBX.out hla).trans q0
            have t1 := (below_cell HBX.out hla).trans q1
            obtain ⟨w3, hw3⟩ : ∃ w3, w3 = wr.alloc (.cells #[.string (strB X.1), .slice bu X.2.length cu] 51) := ⟨_, rfl⟩
            have hr3 : Below wr.heap.size wr w3 := by rw [hw3]; exact (Below.refl _ _).alloc (Nat.le_refl _) _
            have hb3 : Below w.heap.size w w3 := HBX.out.trans (hr3.mono hsx)
            have bk3 : w3.heap[wr.heap.size]? = some (.cells #[.string (strB X.1), .slice bu X.2.length cu] 51 (0, 0)) := by rw [hw3]; exact World.alloc_heap_new _ _
            obtain ⟨r0, r1, -⟩ := cellsH2 bk3
            have htl : (os.take j).length = j := by rw [List.length_take]; omega
            have cad := addB_any (fun k => w.heap.size ≤ k) T M (os.take j) g vo vc X (.slice bu X.2.length cu) w3 (HP.out.below hr3) (hva.kept hb3.size fun k _ hk => hb3.block k hk) hxs (by rw [htl]; omega)
            have hw3' := hw3.symm
            have HB3 : Hid (Below w.heap.size w w3) := hb3
            clear hr3 hb3 bk3 q0 q1 hva hX hw3 htl hcut
            go_wp2_with fail
            refine cad.mono ?_
            clear cad r0 r1 t0 t1
            rintro e w4 ⟨rfl, hk4, vo4, vc4, hp4⟩
            have HB4 : Hid (Below w.heap.size w w4) := HB3.out.trans (hk4.below HB3.out.size (fun q hq => hq))
            have HP4 : Hid (HpB (fun k => w.heap.size ≤ k) w4 M (os.take (j + 1)) g vo4 vc4) := by
              show HpB _ _ _ _ _ _ _
              rw [take_snoc hjt, ← HX.out]
              exact hp4.wide fun k _ h => by have := HB3.out.size; omega
            clear hk4 hp4
            go_wp2
            exact ⟨⟨j + 1, by omega, by go_num, ⟨_, _, HP4.out⟩, HB4.out⟩, by simp [intOf]; omega⟩
          · obtain rfl : j = os.length := by omega
            have hj2 : ¬ (os.length : Int) < os.length := by omega
            have HP2 : Hid (HpB (fun k => w.heap.size ≤ k) wr M os g vo vc) := by
              have := HP.out
              rw [List.take_of_length_le (Nat.le_refl _)] at this
              exact this
            clear HP
            go_wp2
            refine bodyPost_ret (v := .tuple #[.pointer (some ⟨g, 0, none⟩), .int .i64 0]) (by simp [results, Tryz.results86, go_sem]) rfl ⟨HBX.out, .inr (.inr ⟨HALL2.out, by rw [← HM.out]; omega, g, vo, vc, rfl, ?_⟩)⟩
            rw [← HM.out]
            exact HP2.out.full fun o ho => ⟨HALL2.out o ho, HS.out o ho⟩
end Go.Proofs.YtbdgniiafdjmiaaGreatDoor
