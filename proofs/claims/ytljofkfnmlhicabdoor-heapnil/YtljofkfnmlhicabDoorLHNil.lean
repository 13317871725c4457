/- HeapNil. -/
import Derived.Test.YtljofkfnmlhicabDoorHNil
namespace Go.Proofs.YtljofkfnmlhicabDoor
open Go.RowKit Go.Shelf

theorem nil_zero (w : World) (v : Vl) : NoHp (w.alloc (.cells #[.int .i64 v.k, .int .i64 v.n, .string (strB v.s)] 24)) (.pointer none) := .inl rfl

set_option maxRecDepth 100000 in
set_option maxHeartbeats 4000000 in
theorem heapNil_any (v : Vl) (i : Int) (made : Bool) (w : World) (ht : TabsP w) :
    Calls Tryd.prog 3 #[vlV v, .int .i64 i, .bool made] w fun e w' => e = .returned (.bool true) ∧ Below w.heap.size w w' := by
  have HT : Hid (TabsP w) := ht
  obtain ⟨w1, hv, hw1, hn1, hb1, hbx, hmk⟩ : ∃ (w1 : World) (hv : Value), (w1 = if made then (w.alloc (.cells #[.int .i64 v.k, .int .i64 v.n, .string (strB v.s)] 24)).alloc (.cells #[.bool false, .int .i64 0, .slice none 0 0, .slice none 0 0] 29) else w.alloc (.cells #[.int .i64 v.k, .int .i64 v.n, .string (strB v.s)] 24)) ∧ NoHp w1 hv ∧ Below w.heap.size w w1 ∧
      w1.heap[w.heap.size]? = some (.cells #[.int .i64 v.k, .int .i64 v.n, .string (strB v.s)] 24 (0, 0)) ∧ hv = if made then .pointer (some ⟨w.heap.size + 1, 0, none⟩) else .pointer none := by
    cases made with
    | true =>
      refine ⟨_, _, rfl, .inr ⟨w.heap.size + 1, rfl, by simp, by simp⟩, ?_, ?_, rfl⟩
      · exact ((Below.refl _ w).alloc (Nat.le_refl _) _).alloc (by simp) _
      · simp only [if_true]; rw [Below.heap_alloc _ _ _ (by simp)]; exact World.alloc_heap_new _ _
    | false =>
      refine ⟨_, _, rfl, .inl rfl, ?_, ?_, rfl⟩
      · exact (Below.refl _ w).alloc (Nat.le_refl _) _
      · exact World.alloc_heap_new _ _
  have hs1 : w.heap.size < w1.heap.size := (Array.getElem?_eq_some_iff.1 hbx).1
  have c2 := alloc_no w1 hv ⟨#[]⟩ hn1
  have HN1 : Hid (NoHp w1 hv) := hn1
  have HB1 : Hid (Below w.heap.size w w1) := hb1
  have HBX : Hid (w1.heap[w.heap.size]? = some (.cells #[.int .i64 v.k, .int .i64 v.n, .string (strB v.s)] 24 (0, 0))) := hbx
  have HGET : Hid (∀ W, Below w1.heap.size w1 W → Calls Tryd.prog 5 #[hv, vlV v, .int .i64 i] W fun e w' => e = .returned (.tuple #[vlV ⟨0, 0, []⟩, .int .i64 1]) ∧ Below W.heap.size W w') := fun W hW => (get_nil W hv v i (hn1.below hW))
  have HLEN : Hid (∀ W, Below w1.heap.size w1 W → Calls Tryd.prog 6 #[hv, vlV v] W fun e w' => e = .returned (.tuple #[.int .i64 0, .int .i64 1]) ∧ Below W.heap.size W w') := fun W hW => (len_nil W hv v (hn1.below hW))
  have HTAG : Hid (∀ W, Below w1.heap.size w1 W → Calls Tryd.prog 7 #[hv, vlV v] W fun e w' => e = .returned (.tuple #[.string ⟨#[]⟩, .int .i64 1]) ∧ Below W.heap.size W w') := fun W hW => (tag_nil W hv v (hn1.below hW))
  have HSET : Hid (∀ W, Below w1.heap.size w1 W → Calls Tryd.prog 8 #[hv, vlV v, .int .i64 i, vlV v] W fun e w' => e = .returned (.int .i64 1) ∧ Below W.heap.size W w') := fun W hW => (set_nil W hv v v i (hn1.below hW))
  have HUSE : Hid (∀ W, Below w1.heap.size w1 W → Calls Tryd.prog 9 #[hv] W fun e w' => e = .returned (.int .i64 0) ∧ Below W.heap.size W w') := fun W hW => (used_nil W hv (hn1.below hW))
  have HALL : Hid (∀ W, Below w1.heap.size w1 W → Calls Tryd.prog 10 #[hv] W fun e w' => e = .returned (.slice none 0 0) ∧ Below W.heap.size W w') := fun W hW => (all_nil W hv (hn1.below hW))
  have HCOP : Hid (∀ W, Below w1.heap.size w1 W → Calls Tryd.prog 11 #[hv] W fun e w' => e = .returned (.pointer none) ∧ Below W.heap.size W w') := fun W hW => (copy_nil W hv (hn1.below hW))
  have HSHO : Hid (∀ W, Below w1.heap.size w1 W → Calls Tryd.prog 12 #[hv, vlV v] W fun e w' => e = .returned (.string ⟨#[]⟩) ∧ Below W.heap.size W w') := fun W hW => (show_nil W hv v (hn1.below hW))
  have HLIV : Hid (∀ W, Below w1.heap.size w1 W → Calls Tryd.prog 13 #[] W fun e w' => e = .returned (.bool true) ∧ Below W.heap.size W w') := fun W hW => (lives06_any W ((HT.out.below HB1.out (Nat.le_refl _)).below hW (Nat.le_refl _)))
  obtain ⟨k, m, s⟩ := v
  have HW1 : Hid (w1 = if made then (w.alloc (.cells #[.int .i64 k, .int .i64 m, .string (strB s)] 24)).alloc (.cells #[.bool false, .int .i64 0, .slice none 0 0, .slice none 0 0] 29) else w.alloc (.cells #[.int .i64 k, .int .i64 m, .string (strB s)] 24)) := hw1
  have HMK : Hid (hv = if made then .pointer (some ⟨w.heap.size + 1, 0, none⟩) else .pointer none) := hmk
  clear hw1 hmk hn1 hb1 hbx ht
  go_enter Tryd.func3, Tryd.ntmps3
  rcases made with _ | _
  · have hw1' : w.alloc (.cells #[.int .i64 k, .int .i64 m, .string (strB s)] 24) = w1 := HW1.out.symm
    have hmk : hv = Value.pointer none := HMK.out
    subst hmk
    go_wp2_with fail
    refine c2.mono ?_
    clear c2 HW1 HMK
    rintro e w2 ⟨rfl, hb2⟩
    have hs2 := hb2.size
    have h1a : Below w1.heap.size w1 (w2.alloc (.cells #[.int .i64 0, .int .i64 0, .string ⟨#[]⟩] 24)) := hb2.alloc hs2 _
    have ba : (w2.alloc (.cells #[.int .i64 0, .int .i64 0, .string ⟨#[]⟩] 24)).heap[w2.heap.size]? = some (.cells #[.int .i64 0, .int .i64 0, .string ⟨#[]⟩] 24 (0, 0)) := World.alloc_heap_new _ _
    have hsa : (w2.alloc (.cells #[.int .i64 0, .int .i64 0, .string ⟨#[]⟩] 24)).heap.size = w2.heap.size + 1 := by simp
    obtain ⟨p0, p1, p2, -⟩ := cellsH3 ((h1a.block w.heap.size hs1).trans HBX.out)
    have cg := HGET.out _ h1a
    clear hb2
    go_wp2_with fail
    refine cg.mono ?_
    clear cg p0 p1 p2
    rintro e w3 ⟨rfl, hb3⟩
    have hs3 := hb3.size
    have hb3a : Below (w2.alloc (.cells #[.int .i64 0, .int .i64 0, .string ⟨#[]⟩] 24)).heap.size (w2.alloc (.cells #[.int .i64 0, .int .i64 0, .string ⟨#[]⟩] 24)) (w3.alloc (.cells #[.int .i64 0, .int .i64 0, .string ⟨#[]⟩] 24)) := hb3.alloc hs3 _
    have h1b : Below w1.heap.size w1 (w3.alloc (.cells #[.int .i64 0, .int .i64 0, .string ⟨#[]⟩] 24)) := h1a.trans (hb3a.mono (by omega))
    have bb : (w3.alloc (.cells #[.int .i64 0, .int .i64 0, .string ⟨#[]⟩] 24)).heap[w3.heap.size]? = some (.cells #[.int .i64 0, .int .i64 0, .string ⟨#[]⟩] 24 (0, 0)) := World.alloc_heap_new _ _
    have ba3 := (hb3a.block w2.heap.size (by omega)).trans ba
    have hsb : (w3.alloc (.cells #[.int .i64 0, .int .i64 0, .string ⟨#[]⟩] 24)).heap.size = w3.heap.size + 1 := by simp
    obtain ⟨p0, p1, p2, -⟩ := cellsH3 ((h1b.block w.heap.size hs1).trans HBX.out)
    have cg := HLEN.out _ h1b
    clear hb3 hb3a ba
    go_wp2_with fail
    refine cg.mono ?_
    clear cg p0 p1 p2
    rintro e w4 ⟨rfl, hb4⟩
    have hs4 := hb4.size
    have h14 : Below w1.heap.size w1 w4 := h1b.trans (hb4.mono (by omega))
    have ba4 := (hb4.block w2.heap.size (by omega)).trans ba3
    have bb4 := (hb4.block w3.heap.size (by omega)).trans bb
    obtain ⟨p0, p1, p2, -⟩ := cellsH3 ((h14.block w.heap.size hs1).trans HBX.out)
    have cg := HTAG.out _ h14
    clear hb4 ba3 bb
    go_wp2_with fail
    refine cg.mono ?_
    clear cg p0 p1 p2
    rintro e w5 ⟨rfl, hb5⟩
    have hs5 := hb5.size
    have h15 : Below w1.heap.size w1 w5 := h14.trans (hb5.mono (by omega))
    have ba5 := (hb5.block w2.heap.size (by omega)).trans ba4
    have bb5 := (hb5.block w3.heap.size (by omega)).trans bb4
    obtain ⟨p0, p1, p2, -⟩ := cellsH3 ((h15.block w.heap.size hs1).trans HBX.out)
    obtain ⟨q0, q1, q2, -⟩ := cellsH3 ba5
    obtain ⟨r0, r1, r2, -⟩ := cellsH3 bb5
    have cg := HSET.out _ h15
    clear hb5 ba4 bb4 ba5 bb5 h14 h1a h1b
    go_wp2_with fail
    refine cg.mono ?_
    clear cg p0 p1 p2 q0 q1 q2 r0 r1 r2
    rintro e w6 ⟨rfl, hb6⟩
    have h16 : Below w1.heap.size w1 w6 := h15.trans (hb6.mono h15.size)
    have cg := HUSE.out _ h16
    clear hb6 h15
    go_wp2_with fail
    refine cg.mono ?_
    clear cg
    rintro e w7 ⟨rfl, hb7⟩
    have h17 : Below w1.heap.size w1 w7 := h16.trans (hb7.mono h16.size)
    have cg := HALL.out _ h17
    clear hb7 h16
    go_wp2_with fail
    refine cg.mono ?_
    clear cg
    rintro e w8 ⟨rfl, hb8⟩
    have h18 : Below w1.heap.size w1 w8 := h17.trans (hb8.mono h17.size)
    have cg := HCOP.out _ h18
    clear hb8 h17
    go_wp2_with fail
    refine cg.mono ?_
    clear cg
    rintro e w9 ⟨rfl, hb9⟩
    have h19 : Below w1.heap.size w1 w9 := h18.trans (hb9.mono h18.size)
    obtain ⟨p0, p1, p2, -⟩ := cellsH3 ((h19.block w.heap.size hs1).trans HBX.out)
    have cg := HSHO.out _ h19
    clear hb9 h18
    go_wp2_with fail
    refine cg.mono ?_
    clear cg p0 p1 p2
    rintro e w10 ⟨rfl, hb10⟩
    have h110 : Below w1.heap.size w1 w10 := h19.trans (hb10.mono h19.size)
    have cg := HLIV.out _ h110
    clear hb10 h19
    go_wp2_with fail
    refine cg.mono ?_
    clear cg
    rintro e w11 ⟨rfl, hb11⟩
    have HBF : Hid (Below w.heap.size w w11) := HB1.out.trans ((h110.trans (hb11.mono h110.size)).mono HB1.out.size)
    clear hb11 h110
    go_wp2
    go_ret
    exact ⟨rfl, HBF.out⟩
  · have hw1' : (w.alloc (.cells #[.int .i64 k, .int .i64 m, .string (strB s)] 24)).alloc (.cells #[.bool false, .int .i64 0, .slice none 0 0, .slice none 0 0] 29) = w1 := HW1.out.symm
    have hmk : Value.pointer (some ⟨w.heap.size + 1, 0, none⟩) = hv := HMK.out.symm
    go_wp2_with fail
    refine c2.mono ?_
    clear c2 HW1 HMK
    rintro e w2 ⟨rfl, hb2⟩
    have hs2 := hb2.size
    have h1a : Below w1.heap.size w1 (w2.alloc (.cells #[.int .i64 0, .int .i64 0, .string ⟨#[]⟩] 24)) := hb2.alloc hs2 _
    have ba : (w2.alloc (.cells #[.int .i64 0, .int .i64 0, .string ⟨#[]⟩] 24)).heap[w2.heap.size]? = some (.cells #[.int .i64 0, .int .i64 0, .string ⟨#[]⟩] 24 (0, 0)) := World.alloc_heap_new _ _
    have hsa : (w2.alloc (.cells #[.int .i64 0, .int .i64 0, .string ⟨#[]⟩] 24)).heap.size = w2.heap.size + 1 := by simp
    obtain ⟨p0, p1, p2, -⟩ := cellsH3 ((h1a.block w.heap.size hs1).trans HBX.out)
    have cg := HGET.out _ h1a
    clear hb2
    go_wp2_with fail
    refine cg.mono ?_
    clear cg p0 p1 p2
    rintro e w3 ⟨rfl, hb3⟩
    have hs3 := hb3.size
    have hb3a : Below (w2.alloc (.cells #[.int .i64 0, .int .i64 0, .string ⟨#[]⟩] 24)).heap.size (w2.alloc (.cells #[.int .i64 0, .int .i64 0, .string ⟨#[]⟩] 24)) (w3.alloc (.cells #[.int .i64 0, .int .i64 0, .string ⟨#[]⟩] 24)) := hb3.alloc hs3 _
    have h1b : Below w1.heap.size w1 (w3.alloc (.cells #[.int .i64 0, .int .i64 0, .string ⟨#[]⟩] 24)) := h1a.trans (hb3a.mono (by omega))
    have bb : (w3.alloc (.cells #[.int .i64 0, .int .i64 0, .string ⟨#[]⟩] 24)).heap[w3.heap.size]? = some (.cells #[.int .i64 0, .int .i64 0, .string ⟨#[]⟩] 24 (0, 0)) := World.alloc_heap_new _ _
    have ba3 := (hb3a.block w2.heap.size (by omega)).trans ba
    have hsb : (w3.alloc (.cells #[.int .i64 0, .int .i64 0, .string ⟨#[]⟩] 24)).heap.size = w3.heap.size + 1 := by simp
    obtain ⟨p0, p1, p2, -⟩ := cellsH3 ((h1b.block w.heap.size hs1).trans HBX.out)
    have cg := HLEN.out _ h1b
    clear hb3 hb3a ba
    go_wp2_with fail
    refine cg.mono ?_
    clear cg p0 p1 p2
    rintro e w4 ⟨rfl, hb4⟩
    have hs4 := hb4.size
    have h14 : Below w1.heap.size w1 w4 := h1b.trans (hb4.mono (by omega))
    have ba4 := (hb4.block w2.heap.size (by omega)).trans ba3
    have bb4 := (hb4.block w3.heap.size (by omega)).trans bb
    obtain ⟨p0, p1, p2, -⟩ := cellsH3 ((h14.block w.heap.size hs1).trans HBX.out)
    have cg := HTAG.out _ h14
    clear hb4 ba3 bb
    go_wp2_with fail
    refine cg.mono ?_
    clear cg p0 p1 p2
    rintro e w5 ⟨rfl, hb5⟩
    have hs5 := hb5.size
    have h15 : Below w1.heap.size w1 w5 := h14.trans (hb5.mono (by omega))
    have ba5 := (hb5.block w2.heap.size (by omega)).trans ba4
    have bb5 := (hb5.block w3.heap.size (by omega)).trans bb4
    obtain ⟨p0, p1, p2, -⟩ := cellsH3 ((h15.block w.heap.size hs1).trans HBX.out)
    obtain ⟨q0, q1, q2, -⟩ := cellsH3 ba5
    obtain ⟨r0, r1, r2, -⟩ := cellsH3 bb5
    have cg := HSET.out _ h15
    clear hb5 ba4 bb4 ba5 bb5 h14 h1a h1b
    go_wp2_with fail
    refine cg.mono ?_
    clear cg p0 p1 p2 q0 q1 q2 r0 r1 r2
    rintro e w6 ⟨rfl, hb6⟩
    have h16 : Below w1.heap.size w1 w6 := h15.trans (hb6.mono h15.size)
    have cg := HUSE.out _ h16
    clear hb6 h15
    go_wp2_with fail
    refine cg.mono ?_
    clear cg
    rintro e w7 ⟨rfl, hb7⟩
    have h17 : Below w1.heap.size w1 w7 := h16.trans (hb7.mono h16.size)
    have cg := HALL.out _ h17
    clear hb7 h16
    go_wp2_with fail
    refine cg.mono ?_
    clear cg
    rintro e w8 ⟨rfl, hb8⟩
    have h18 : Below w1.heap.size w1 w8 := h17.trans (hb8.mono h17.size)
    have cg := HCOP.out _ h18
    clear hb8 h17
    go_wp2_with fail
    refine cg.mono ?_
    clear cg
    rintro e w9 ⟨rfl, hb9⟩
    have h19 : Below w1.heap.size w1 w9 := h18.trans (hb9.mono h18.size)
    obtain ⟨p0, p1, p2, -⟩ := cellsH3 ((h19.block w.heap.size hs1).trans HBX.out)
    have cg := HSHO.out _ h19
    clear hb9 h18
    go_wp2_with fail
    refine cg.mono ?_
    clear cg p0 p1 p2
    rintro e w10 ⟨rfl, hb10⟩
    have h110 : Below w1.heap.size w1 w10 := h19.trans (hb10.mono h19.size)
    have cg := HLIV.out _ h110
    clear hb10 h19
    go_wp2_with fail
    refine cg.mono ?_
    clear cg
    rintro e w11 ⟨rfl, hb11⟩
    have HBF : Hid (Below w.heap.size w w11) := HB1.out.trans ((h110.trans (hb11.mono h110.size)).mono HB1.out.size)
    clear hb11 h110
    go_wp2
    go_ret
    exact ⟨rfl, HBF.out⟩
end Go.Proofs.YtljofkfnmlhicabDoor
