/- What is read as a number, or as a text, is put as the very bytes: the walk of WireForm. -/
import Derived.Test.YtaakkbimlhlihaaLForm
import Derived.Deep.DeepCutAuto
namespace Go.Proofs.Ytaakkbimlhlihaa
open Go.RowKit

attribute [local go_sem] undef

set_option maxHeartbeats 8000000 in
set_option maxRecDepth 100000 in
theorem form_walk (base : Option Addr) (cap : Nat) (bs : List UInt8) (w : World) (hv : bytesAt w (.slice base bs.length cap) bs) (hl : bs.length ≤ 140737488351232) :
    Calls Try.prog 6 #[.slice base bs.length cap] w fun e w' => e = .returned (.bool true) ∧ Below w.heap.size w w' := by
  obtain ⟨-, hrow, hlc, hcm⟩ := bytesAt_row hv
  have hcm2 := hcm
  unfold maxLen at hcm2
  have HV : Hid (bytesAt w (.slice base bs.length cap) bs) := hv
  have HROW : Hid (rowAt w base bs) := hrow
  clear hv hrow hcm
  go_enter Try.func6, Try.ntmps6
  go_wp2_with fail
  refine (newReader_any _ bs w HV.out (by omega)).mono ?_
  rintro e w1 ⟨p1, base1, cap1, rfl, hR1, hp1, hp1', ha1, hb1⟩
  have hz1 := hb1.size
  have H1 : Hid (ReaderAt w1 p1 base1 cap1 bs 0 0 ∧ Below w.heap.size w w1 ∧ (∀ a, base1 = some a → a.block < w1.heap.size)) := ⟨hR1, hb1, fun a ha => (ha1 a ha).2⟩
  clear hR1 ha1 hb1
  go_wp2_with fail
  refine (newReader_any _ bs w1 (bytesAt_below HV.out H1.out.2.1 (Nat.le_refl _)) (by omega)).mono ?_
  rintro e w2 ⟨p2, base2, cap2, rfl, hR2, hp2, hp2', ha2, hb2⟩
  have hz2 := hb2.size
  have H2 : Hid (ReaderAt w2 p1 base1 cap1 bs 0 0 ∧ ReaderAt w2 p2 base2 cap2 bs 0 0 ∧ Below w.heap.size w w2 ∧ (∀ a, base1 = some a → a.block ≠ p2) ∧ (∀ a, base2 = some a → a.block ≠ p1)) :=
    ⟨H1.out.1.below hb2 (Nat.le_refl _), hR2, H1.out.2.1.trans (hb2.mono hz1), fun a ha => by have := H1.out.2.2 a ha; omega, fun a ha => by have := (ha2 a ha).1; omega⟩
  clear hR2 ha2 hb2 H1
  go_wp2_with fail
  have c3 := int_any H2.out.1
  rw [List.drop_zero] at c3
  obtain ⟨q, hq⟩ : ∃ q, q = stepR 0 0 0 (getI bs) := ⟨_, rfl⟩
  rw [← hq] at c3
  refine c3.mono ?_
  clear c3
  rintro e w3 ⟨rfl, hr, hg⟩
  have hz3 := hg.size
  obtain ⟨x, at1, er1⟩ := q
  have hfx := form_x hq
  have H3 : Hid (ReaderAt w3 p1 base1 cap1 bs at1 er1 ∧ ReaderAt w3 p2 base2 cap2 bs 0 0 ∧ Below w.heap.size w w3) :=
    ⟨hr, H2.out.2.1.other hg (by omega) H2.out.2.2.2.2, below_of_grown H2.out.2.2.1 hg (by omega) (by omega)⟩
  have HFX : Hid ((er1 = 0 ∧ bs.take at1 = numB x ∧ at1 = (numB x).length ∧ at1 ≤ bs.length ∧ -9223372036854775808 ≤ x ∧ x ≤ 9223372036854775807) ∨ (er1 ≠ 0 ∧ x = 0 ∧ at1 = 0)) := hfx
  clear hr hg H2 hq hfx
  have hzz : w.heap.size ≤ w3.heap.size := by omega
  have hpz : p2 < w3.heap.size ∧ w.heap.size ≤ p2 := by omega
  clear hz1 hz2 hz3 hp1' hp2' hp1 hp2
  go_upto_region 5 with fail
  go_cut [46] (fun t wx => t = .bool false ∧ ReaderAt wx p2 base2 cap2 bs 0 0 ∧ Below w.heap.size w wx ∧ w3.heap.size ≤ wx.heap.size)
  case first =>
    rcases HFX.out with ⟨rfl, hx1, hx2, hx3, hx4, hx5⟩ | ⟨he, rfl, rfl⟩
    · have hsl := fun wx => run_uptoF wx base bs.length cap at1 (by omega)
      have hat : at1 ≤ cap := by omega
      have HX1 : Hid (bs.take at1 = numB x) := hx1
      have HX2 : Hid (at1 = (numB x).length) := hx2
      clear hx1 hx2 HFX
      have hcvb : ∀ wx, Below w3.heap.size w3 wx → (convert 22 9 (.slice base at1 cap)).run Try.prog wx = .ok (.string ⟨(numB x).toArray⟩) wx := fun wx hbx => by
        have h := conv_row wx base (bs.take at1) cap (rowAt_take at1 (rowAt_below HROW.out (H3.out.2.2.trans (hbx.mono hzz)) (Nat.le_refl _)))
        rw [HX1.out, ← HX2.out] at h
        exact h
      have HCVB : Hid (∀ wx, Below w3.heap.size w3 wx → (convert 22 9 (.slice base at1 cap)).run Try.prog wx = .ok (.string ⟨(numB x).toArray⟩) wx) := hcvb
      clear hcvb
      first | go_region_with (first
        | (go_at_call 9; refine (putInt_any (.slice none 0 0) [] x hx4 hx5 _ (bytesAt_nil _) (by decide)).mono ?_; rintro e w5 ⟨v5, rfl, hown5, hb5⟩; rw [List.nil_append] at hown5; obtain ⟨base5, cap5, rfl, hrow5, -, -, -⟩ := own_row hown5; have hcv5 := conv_row w5 base5 (numB x) cap5 hrow5; have hb35 : Below w3.heap.size w3 w5 := (⟨rfl, rfl, rfl, Nat.le_refl _, fun _ _ => rfl⟩ : Below w3.heap.size w3 w3.drew).trans hb5; have hcvb5 := HCVB.out w5 hb35; have H5 : Hid (ReaderAt w5 p1 base1 cap1 bs at1 0 ∧ Below w3.heap.size w3 w5) := ⟨H3.out.1.below hb35 (Nat.le_refl _), hb35⟩; clear hown5 hb5 hrow5 hb35)
        | (go_at_call 19; refine (err_any (p := p1) (base := base1) (cap := cap1) (bs := bs) (at0 := at1) (er := 0) ?_).mono ?_; (first | exact H3.out.1.drew | exact H5.out.1); rintro e w' ⟨rfl, rfl⟩)
        | (go_at_call 18; refine (at_any (p := p1) (base := base1) (cap := cap1) (bs := bs) (at0 := at1) (er := 0) ?_).mono ?_; exact H5.out.1; rintro e w' ⟨rfl, rfl⟩)) | fail
      all_goals go_wp2
      all_goals go_meet
      all_goals exact ⟨rfl, H3.out.2.1.below H5.out.2 (Nat.le_refl _), H3.out.2.2.trans (H5.out.2.mono hzz), H5.out.2.size⟩
    · have t0 : ((er1 : Int) == 0) = false := by rw [beq_eq_false_iff_ne]; omega
      have t1 : ((er1 : Int) != 0) = true := by rw [bne_iff_ne]; omega
      have HErr : Hid (∀ n, Calls Try.prog 19 #[.pointer (some ⟨p1, 0, none⟩)] (w3.drewN n) fun e w' => e = .returned (.int .i64 er1) ∧ w3.drewN n = w') :=
        fun n => err_any (H3.out.1.below (⟨rfl, rfl, rfl, Nat.le_refl _, fun _ _ => rfl⟩ : Below w3.heap.size w3 (w3.drewN n)) (Nat.le_refl _))
      have HAt : Hid (∀ n, Calls Try.prog 18 #[.pointer (some ⟨p1, 0, none⟩)] (w3.drewN n) fun e w' => e = .returned (.int .i64 ((0 : Nat) : Int)) ∧ w3.drewN n = w') :=
        fun n => at_any (H3.out.1.below (⟨rfl, rfl, rfl, Nat.le_refl _, fun _ _ => rfl⟩ : Below w3.heap.size w3 (w3.drewN n)) (Nat.le_refl _))
      clear he HFX
      go_quiet (first | (go_at_call 19; exact quiet_mine (HErr.out _)) | (go_at_call 18; exact quiet_mine (HAt.out _)))
      go_wp2
      go_meet
      exact ⟨rfl, H3.out.2.1.below (⟨rfl, rfl, rfl, Nat.le_refl _, fun _ _ => rfl⟩ : Below w3.heap.size w3 (w3.drewN nq)) (Nat.le_refl _), H3.out.2.2.trans ⟨rfl, rfl, rfl, Nat.le_refl _, fun _ _ => rfl⟩, Nat.le_refl _⟩
  case rest =>
    obtain ⟨rfl, hR2, hB, hz4⟩ := hcut
    have H4 : Hid (ReaderAt wc p2 base2 cap2 bs 0 0 ∧ Below w.heap.size w wc) := ⟨hR2, hB⟩
    clear hR2 hB H3 HFX
    have hz5 : w.heap.size ≤ wc.heap.size := by omega
    go_wp2_with fail
    have c6 := text_any bs.length H4.out.1
    rw [List.drop_zero] at c6
    obtain ⟨t, ht⟩ : ∃ t, t = stepR [] 0 0 (getT bs bs.length) := ⟨_, rfl⟩
    rw [← ht] at c6
    refine c6.mono ?_
    clear c6
    rintro e w6 ⟨rfl, hr, hg⟩
    have hz6 := hg.size
    obtain ⟨ts, at2, er2⟩ := t
    have hft := form_t ht
    have H6 : Hid (ReaderAt w6 p2 base2 cap2 bs at2 er2 ∧ Below w.heap.size w w6) := ⟨hr, below_of_grown H4.out.2 hg hz5 hpz.2⟩
    obtain ⟨S, hS⟩ : ∃ S : ByteArray, S = ⟨ts.toArray⟩ := ⟨_, rfl⟩
    have HFT : Hid ((er2 = 0 ∧ bs.take at2 = textB S ∧ at2 = (textB S).length ∧ at2 ≤ bs.length ∧ S.size ≤ bs.length) ∨ (er2 ≠ 0 ∧ S = ⟨#[]⟩ ∧ at2 = 0)) := by
      rcases hft with ⟨h1, h2, h3, h4, h5⟩ | ⟨h1, h2, h3⟩
      · rw [← hS] at h2 h3
        exact .inl ⟨h1, h2, h3, h4, by rw [hS]; show ts.toArray.size ≤ bs.length; rw [List.size_toArray]; exact h5⟩
      · exact .inr ⟨h1, by rw [hS, h2], h3⟩
    rw [← hS]
    clear hr hg H4 ht hft hS
    have hz7 : w.heap.size ≤ w6.heap.size := by omega
    clear hz4 hz5 hz6 hzz hpz
    go_upto_region 8 with fail
    go_cut [78] (fun t wx => t = .bool false ∧ Below w.heap.size w wx ∧ w6.heap.size ≤ wx.heap.size)
    case first =>
      rcases HFT.out with ⟨rfl, hx1, hx2, hx3, hx4⟩ | ⟨he, rfl, rfl⟩
      · have hsl := fun wx => run_uptoF wx base bs.length cap at2 (by omega)
        have hat : at2 ≤ cap := by omega
        have HX1 : Hid (bs.take at2 = textB S) := hx1
        have HX2 : Hid (at2 = (textB S).length) := hx2
        clear hx1 hx2 HFT
        have HCVB : Hid (∀ wx, Below w6.heap.size w6 wx → (convert 22 9 (.slice base at2 cap)).run Try.prog wx = .ok (.string ⟨(textB S).toArray⟩) wx) := fun wx hbx => by
          have h := conv_row wx base (bs.take at2) cap (rowAt_take at2 (rowAt_below HROW.out (H6.out.2.trans (hbx.mono hz7)) (Nat.le_refl _)))
          rw [HX1.out, ← HX2.out] at h
          exact h
        first | go_region_with (first
          | (go_at_call 13; refine (putText_any (.slice none 0 0) [] S _ (bytesAt_nil _) (by simp; omega)).mono ?_; rintro e w8 ⟨v8, rfl, hown8, hb8⟩; rw [List.nil_append] at hown8; obtain ⟨base8, cap8, rfl, hrow8, -, -, -⟩ := own_row hown8; have hcv8 := conv_row w8 base8 (textB S) cap8 hrow8; have hb68 : Below w6.heap.size w6 w8 := (⟨rfl, rfl, rfl, Nat.le_refl _, fun _ _ => rfl⟩ : Below w6.heap.size w6 w6.drew).trans hb8; have hcvb8 := HCVB.out w8 hb68; have H8 : Hid (ReaderAt w8 p2 base2 cap2 bs at2 0 ∧ Below w6.heap.size w6 w8) := ⟨H6.out.1.below hb68 (Nat.le_refl _), hb68⟩; clear hown8 hb8 hrow8 hb68)
          | (go_at_call 19; refine (err_any (p := p2) (base := base2) (cap := cap2) (bs := bs) (at0 := at2) (er := 0) ?_).mono ?_; (first | exact H6.out.1.drew | exact H8.out.1); rintro e w' ⟨rfl, rfl⟩)
          | (go_at_call 18; refine (at_any (p := p2) (base := base2) (cap := cap2) (bs := bs) (at0 := at2) (er := 0) ?_).mono ?_; exact H8.out.1; rintro e w' ⟨rfl, rfl⟩)) | fail
        all_goals go_wp2
        all_goals go_meet
        all_goals exact ⟨rfl, H6.out.2.trans (H8.out.2.mono hz7), H8.out.2.size⟩
      · have t0 : ((er2 : Int) == 0) = false := by rw [beq_eq_false_iff_ne]; omega
        have t1 : ((er2 : Int) != 0) = true := by rw [bne_iff_ne]; omega
        have HErr : Hid (∀ n, Calls Try.prog 19 #[.pointer (some ⟨p2, 0, none⟩)] (w6.drewN n) fun e w' => e = .returned (.int .i64 er2) ∧ w6.drewN n = w') :=
          fun n => err_any (H6.out.1.below (⟨rfl, rfl, rfl, Nat.le_refl _, fun _ _ => rfl⟩ : Below w6.heap.size w6 (w6.drewN n)) (Nat.le_refl _))
        have HAt : Hid (∀ n, Calls Try.prog 18 #[.pointer (some ⟨p2, 0, none⟩)] (w6.drewN n) fun e w' => e = .returned (.int .i64 ((0 : Nat) : Int)) ∧ w6.drewN n = w') :=
          fun n => at_any (H6.out.1.below (⟨rfl, rfl, rfl, Nat.le_refl _, fun _ _ => rfl⟩ : Below w6.heap.size w6 (w6.drewN n)) (Nat.le_refl _))
        clear he HFT
        go_quiet (first | (go_at_call 19; exact quiet_mine (HErr.out _)) | (go_at_call 18; exact quiet_mine (HAt.out _)))
        go_wp2
        go_meet
        exact ⟨rfl, H6.out.2.trans ⟨rfl, rfl, rfl, Nat.le_refl _, fun _ _ => rfl⟩, Nat.le_refl _⟩
    case rest =>
      obtain ⟨rfl, hB, hz8⟩ := hcut
      go_wp2_with fail
      refine (lives_any _).mono ?_
      rintro e w9 ⟨rfl, hb9⟩
      have HF : Hid (Below w.heap.size w w9) := hB.trans (hb9.mono (by omega))
      clear hb9 hB
      go_wp2
      go_ret
      exact ⟨rfl, HF.out⟩
end Go.Proofs.Ytaakkbimlhlihaa
