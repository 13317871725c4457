/- Any bytes have the sum that the document says, and go on from any sum as it says: the walk of FrameSums. -/
import Derived.Test.YtelaignbghcccaaFRefPut
import Derived.Test.YtelaignbghcccaaFLives
import Derived.Deep.RegionWith
namespace Go.Proofs.Ytelaignbghcccaa
open Go.RowKit

set_option maxRecDepth 100000 in
theorem bytes_one8 : Try.prog.bytesOf 5 = 1 := by kernel_rfl

attribute [local go_sem] undef

set_option maxHeartbeats 8000000 in
set_option maxRecDepth 100000 in
theorem fsums_walk (vb : Value) (bs : List UInt8) (sum : Nat) (hs : sum < 4294967296) (w : World) (hb : bytesAt w vb bs) (h1 : bs.length ≤ 140737488355328) :
    Calls Try.prog 4 #[vb, .int .u32 sum] w fun e w' => e = .returned (.bool true) ∧ Below w.heap.size w w' := by
  have HB : Hid (bytesAt w vb bs) := hb
  obtain ⟨baseB, capB, rfl, -⟩ := hb
  have hsz : (⟨bs.toArray⟩ : ByteArray).size ≤ 9223372036854775000 := by show bs.length ≤ _; omega
  have hO : Hid (∀ wx, Below w.heap.size w wx → Calls Try.prog 17 #[.slice baseB bs.length capB] wx fun e w' => ∃ base cap, e = .returned (.slice base bs.length cap) ∧ rowAt w' base bs ∧ Below w.heap.size w w' ∧ (convert 22 9 (.slice baseB bs.length capB)).run Try.prog w' = .ok (.string ⟨bs.toArray⟩) w') := fun wx hx =>
    (own02_any _ bs wx (bytesAt_below HB.out hx (Nat.le_refl _)) h1).mono fun e w' ⟨v', he, ho, hb⟩ => by
      obtain ⟨b2, c2, hv2, hr2, -, -, -⟩ := own_row ho
      have hb2 := hx.trans (hb.mono hx.size)
      exact ⟨b2, c2, by rw [he, hv2], hr2, hb2, conv_row w' baseB bs capB (bytesAt_row (bytesAt_below HB.out hb2 (Nat.le_refl _))).2.1⟩
  obtain ⟨S1, hS1⟩ : ∃ S1, S1 = sumB bs := ⟨_, rfl⟩
  obtain ⟨S2, hS2⟩ : ∃ S2, S2 = moreB sum bs := ⟨_, rfl⟩
  have c1 : Hid (∀ wx base cap, rowAt wx base bs → Calls Try.prog 16 #[.slice base bs.length cap] wx fun e w' => e = .returned (.int .u32 S1) ∧ wx = w') := fun wx base cap hr => by
    rw [hS1]; exact sum_any base bs cap wx hr (by unfold maxLen; omega)
  have c2 : Hid (∀ wx base cap, rowAt wx base bs → Calls Try.prog 19 #[.int .u32 sum, .slice base bs.length cap] wx fun e w' => e = .returned (.int .u32 S2) ∧ wx = w') := fun wx base cap hr => by
    rw [hS2]; exact more_any sum hs base bs cap wx hr (by unfold maxLen; omega)
  have c3 : Hid (∀ wx, Calls Try.prog 18 #[.string ⟨bs.toArray⟩] wx fun e w' => e = .returned (.int .u32 S1) ∧ wx = w') := fun wx => by
    rw [hS1]; exact refSum_any ⟨bs.toArray⟩ wx hsz
  have c4 : Hid (∀ wx, Calls Try.prog 20 #[.int .u32 sum, .string ⟨bs.toArray⟩] wx fun e w' => e = .returned (.int .u32 S2) ∧ wx = w') := fun wx => by
    rw [hS2]; exact refMore_any sum hs ⟨bs.toArray⟩ wx hsz
  have hcv0 : (convert 22 9 (.slice baseB bs.length capB)).run Try.prog w.drew = .ok (.string ⟨bs.toArray⟩) w.drew := conv_row w.drew baseB bs capB (bytesAt_row HB.out).2.1
  have hd0 : Below w.heap.size w w.drew := ⟨rfl, rfl, rfl, Nat.le_refl _, fun _ _ => rfl⟩
  clear hS1 hS2 hsz
  go_enter Try.func4, Try.ntmps4
  go_wp2_with fail
  first | go_region_with (first
    | (go_at_call 17; refine (hO.out _ (by assumption)).mono ?_; rintro e wa ⟨ba, ca, rfl, hra, hba, hcva⟩)
    | (go_at_call 16; refine (c1.out _ _ _ (by assumption)).mono ?_; rintro e wz ⟨rfl, rfl⟩)
    | (go_at_call 19; refine (c2.out _ _ _ (by assumption)).mono ?_; rintro e wz ⟨rfl, rfl⟩)
    | (go_at_call 18; refine (c3.out _).mono ?_; rintro e wz ⟨rfl, rfl⟩)
    | (go_at_call 20; refine (c4.out _).mono ?_; rintro e wz ⟨rfl, rfl⟩)
    | (go_at_call 21; refine (lives02_any _).mono ?_; rintro e wd ⟨rfl, hbd⟩; have hdd := Below.trans (by assumption) (hbd.mono (Below.size (by assumption))))) | fail
  all_goals go_wp2
  all_goals go_ret
  all_goals exact ⟨rfl, by assumption⟩
end Go.Proofs.Ytelaignbghcccaa
