import Derived.Test.YtechkkphbajmoaaGreatDoorCEvery
import Derived.Test.YtechkkphbajmoaaGreatDoorCUnit
/- code: names that are all names, and different: the mathematics. -/
namespace Go.Proofs.YtechkkphbajmoaaGreatDoor
open Go.RowKit Go.Shelf

/-- The place of the first that is so; -1 of none. -/
def fidx {α : Type} (p : α → Bool) (l : List α) : Int := if l.any p then (l.findIdx p : Int) else -1
theorem fidx_no {α : Type} {p : α → Bool} {l : List α} (h : ∀ j (hj : j < l.length), p l[j] = false) : fidx p l = -1 := by
  unfold fidx
  rw [if_neg]
  intro ha
  obtain ⟨x, hx, hp⟩ := List.any_eq_true.1 ha
  obtain ⟨j, hj, rfl⟩ := List.getElem_of_mem hx
  rw [h j hj] at hp
  cases hp
theorem fidx_at {α : Type} {p : α → Bool} {l : List α} {i : Nat} (hi : i < l.length) (hp : p l[i] = true) (h : ∀ j (hj : j < l.length), j < i → p l[j] = false) : fidx p l = i := by
  unfold fidx
  rw [if_pos (List.any_eq_true.2 ⟨_, List.getElem_mem hi, hp⟩)]
  have : l.findIdx p = i := by
    rw [List.findIdx_eq hi]
    exact ⟨hp, fun j hj => h j _ hj⟩
  rw [this]
theorem fidx_any {α : Type} {p : α → Bool} {l : List α} : decide (0 ≤ fidx p l) = l.any p := by
  unfold fidx
  cases h : l.any p with
  | true => simp
  | false => simp

/-- All are names, and none stands twice. -/
def NamesOk (l : List (List UInt8)) : Prop := ∀ i (h : i < l.length), backB 1 0 l[i] ∧ l[i] ∉ l.take i
instance (l : List (List UInt8)) : Decidable (NamesOk l) := by unfold NamesOk; exact inferInstance
/-- So many, all names, and different. -/
def namesR (lo hi : Int) (l : List (List UInt8)) : Bool := decide (lo ≤ (l.length : Int) ∧ (l.length : Int) ≤ hi) && decide (NamesOk l)
theorem namesR_no {lo hi : Int} {l : List (List UInt8)} (h : decide (lo ≤ (l.length : Int) ∧ (l.length : Int) ≤ hi) = false) : namesR lo hi l = false := by unfold namesR; rw [h]; rfl
theorem namesR_bad {lo hi : Int} {l : List (List UInt8)} {i : Nat} (hi' : i < l.length) (h : ¬ (backB 1 0 l[i] ∧ l[i] ∉ l.take i)) : namesR lo hi l = false := by
  unfold namesR
  rw [decide_eq_false (p := NamesOk l) fun hn => h (hn i hi')]
  simp
theorem namesR_ok {lo hi : Int} {l : List (List UInt8)} (h1 : decide (lo ≤ (l.length : Int) ∧ (l.length : Int) ≤ hi) = true) (h : ∀ i (h : i < l.length), backB 1 0 l[i] ∧ l[i] ∉ l.take i) : namesR lo hi l = true := by
  unfold namesR
  rw [h1, decide_eq_true (p := NamesOk l) h]
  rfl
theorem any_name {α : Type} (f : α → List UInt8) (l : List α) (i : Nat) (s : List UInt8) : ((l.take i).any fun y => decide (f y = s)) = true ↔ s ∈ (l.map f).take i := by
  rw [List.any_eq_true, ← List.map_take, List.mem_map]
  exact ⟨fun ⟨x, h1, h2⟩ => ⟨x, h1, of_decide_eq_true h2⟩, fun ⟨x, h1, h2⟩ => ⟨x, h1, decide_eq_true h2⟩⟩
/-- The first n of a row. -/
theorem rowIn.cut {α : Type} {S : Nat → Prop} {w : World} {base : Option Addr} {n0 cap k : Nat} {E : World → Nat → Nat → α → Prop} {l : List α} (h : rowIn S w (.slice base n0 cap) k E l) {n : Nat} (hn : n ≤ l.length) : rowIn S w (.slice base n cap) k E (l.take n) := by
  obtain ⟨b1, c1, hv, h1, h2, h3⟩ := h
  cases hv
  have hlen : (l.take n).length = n := by rw [List.length_take]; omega
  refine ⟨base, cap, by rw [hlen], by rw [hlen]; omega, h2, ?_⟩
  rcases h3 with h3 | ⟨b, o, e, hS, hlt, hc⟩
  · left; rw [h3]; simp
  · by_cases h0 : l.take n = []
    · exact .inl h0
    · refine .inr ⟨b, o, e, hS, hlt, fun j hj => ?_⟩
      have hj2 : j < l.length := by rw [hlen] at hj; omega
      have := hc j hj2
      rw [List.getElem_take]
      exact this
end Go.Proofs.YtechkkphbajmoaaGreatDoor
/- code: names that are all names, and different: at string. -/
namespace Go.Proofs.YtechkkphbajmoaaGreatDoor
open Go.RowKit Go.Shelf

set_option maxRecDepth 100000 in
set_option maxHeartbeats 4000000 in
theorem cNameStr_any (x : List UInt8) (w : World) :
    Calls Tryz.prog 140 #[.string (strB x)] w fun e w' => e = .returned (.string (strB x)) ∧ Below w.heap.size w w' := by
  have HB : Hid (Below w.heap.size w w) := Below.refl _ _
  go_enter Tryz.func140, Tryz.ntmps140
  go_wp2
  go_ret
  exact ⟨rfl, HB.out⟩

set_option maxRecDepth 100000 in
set_option maxHeartbeats 4000000 in
theorem cSameStr_any (k g : Nat) (x y : List UInt8) (w : World) (hk : w.heap[k]? = some (.cells #[.func (.func 140) #[] #[]] 125 (0, 0))) (hg : w.heap[g]? = some (.cells #[.string (strB x)] 9 (0, 0))) :
    Calls Tryz.prog 158 #[.string (strB y), .pointer (some ⟨k, 0, none⟩), .pointer (some ⟨g, 0, none⟩)] w fun e w' => e = .returned (.bool (decide (y = x))) ∧ Below w.heap.size w w' := by
  obtain ⟨w1, hw1⟩ : ∃ w1 : World, w1 = w := ⟨_, rfl⟩
  have hb1 : Below w.heap.size w w1 := by rw [hw1]; exact Below.refl _ _
  have HW1 : Hid (w1 = w) := hw1
  have HB1 : Hid (Below w.heap.size w w1) := hb1
  have a0 : w1.cell? ⟨g, 0, none⟩ = some (.string (strB x)) := by simp only [World.cell?, (hb1.block g (heap_lt hg)).trans hg]; rfl
  have f0 : w1.cell? ⟨k, 0, none⟩ = some (.func (.func 140) #[] #[]) := by simp only [World.cell?, (hb1.block k (heap_lt hk)).trans hk]; rfl
  have x0 := cls_cell (n := w1.heap.size) a0 (by have := heap_lt hg; have := hb1.size; simp only; omega)
  have z0 := cls_cell (n := w1.heap.size) f0 (by have := heap_lt hk; have := hb1.size; simp only; omega)
  have HCy : Hid (∀ W, Below w1.heap.size w1 W → Calls Tryz.prog 140 #[.string (strB y)] W fun e w' => e = .returned (.string (strB y)) ∧ Below w1.heap.size w1 w') := fun W hW => (cNameStr_any y W).mono fun e w' ⟨he, hb⟩ => ⟨he, hW.trans (hb.mono hW.size)⟩
  have HCx : Hid (∀ W, Below w1.heap.size w1 W → Calls Tryz.prog 140 #[.string (strB x)] W fun e w' => e = .returned (.string (strB x)) ∧ Below w1.heap.size w1 w') := fun W hW => (cNameStr_any x W).mono fun e w' ⟨he, hb⟩ => ⟨he, hW.trans (hb.mono hW.size)⟩
  clear hk hg hw1 hb1 a0 f0
  obtain ⟨R, hR⟩ : ∃ R, R = decide (y = x) := ⟨_, rfl⟩
  have HR : Hid (R = decide (y = x)) := hR
  rw [← hR]
  have hbq : (y == x) = R := by rw [beqL]; exact hR.symm
  clear hR
  go_enter Tryz.func158, Tryz.ntmps158
  go_upto_region 1 with fail
  rw [← HW1.out]
  refine wp_region_cls (n := w1.heap.size) (w0 := w1) (Below.refl _ _) (by kernel_rfl) (by kernel_rfl) ?_
  iterate 2 (go_big_quiet_step (fail))
  go_big_quiet_step (exact cls_calls HCy.out _)
  iterate 2 (go_big_quiet_step (fail))
  go_big_quiet_step (exact cls_calls HCx.out _)
  iterate 2 (go_big_quiet_step (fail))
  refine wpQuiet_nil ?_
  rintro _ ⟨c, rfl⟩
  obtain ⟨w5, hb5⟩ := c
  dsimp only
  have HB5 : Hid (Below w.heap.size w w5) := HB1.out.trans (hb5.mono HB1.out.size)
  clear hb5
  go_wp2
  go_ret
  exact ⟨rfl, HB5.out⟩

end Go.Proofs.YtechkkphbajmoaaGreatDoor
/- code: names that are all names, and different: at string. -/
namespace Go.Proofs.YtechkkphbajmoaaGreatDoor
open Go.RowKit Go.Shelf

set_option maxRecDepth 100000 in
set_option maxHeartbeats 4000000 in
theorem cIndexStr_any (S : Nat → Prop) (l : List (List UInt8)) (v : Value) (k g : Nat) (p : (List UInt8) → Bool) (w : World) (hin : strsIn S w v l)
    (hk : ∀ x W, Below w.heap.size w W → Calls Tryz.prog 158 #[.string (strB x), .pointer (some ⟨k, 0, none⟩), .pointer (some ⟨g, 0, none⟩)] W fun e w' => e = .returned (.bool (p x)) ∧ Below w.heap.size w w') :
    Calls Tryz.prog 171 #[v, .func (.func 158) #[] #[.pointer (some ⟨k, 0, none⟩), .pointer (some ⟨g, 0, none⟩)]] w fun e w' => e = .returned (.int .i64 (fidx p l)) ∧ Below w.heap.size w w' := by
  obtain ⟨base, cap, rfl, hc1, hc2, hat⟩ := hin.at
  have HK : Hid (∀ x W, Below w.heap.size w W → Calls Tryz.prog 158 #[.string (strB x), .pointer (some ⟨k, 0, none⟩), .pointer (some ⟨g, 0, none⟩)] W fun e w' => e = .returned (.bool (p x)) ∧ Below w.heap.size w w') := hk
  have HAT : Hid (∀ i (hi : i < l.length), ∃ b o, base = some ⟨b, o, none⟩ ∧ S b ∧ b < w.heap.size ∧ strE w b (o + i * 1) l[i]) := hat
  have hln : l.length ≤ 9223372036854775807 := by have : maxLen ≤ 9223372036854775807 := by decide
                                                  omega
  clear hat hin hk
  go_enter Tryz.func171, Tryz.ntmps171
  go_wp2
  go_loopw [8] (fun vi wr => ∃ i : Nat, i ≤ l.length ∧ vi = .int .i64 i ∧ (∀ j (h : j < l.length), j < i → p l[j] = false) ∧ Below w.heap.size w wr) (fun vi _ => l.length - (intOf vi).toNat)
  case atStart => exact ⟨0, Nat.zero_le _, rfl, fun j h hj => by omega, Below.refl _ _⟩
  case round =>
    obtain ⟨i, hi, rfl, hall, hbr⟩ := hrel
    have HA : Hid (∀ j (h : j < l.length), j < i → p l[j] = false) := hall
    have HB : Hid (Below w.heap.size w wr) := hbr
    clear hall hbr
    by_cases hlt : i < l.length
    · have hi2 : (i : Int) < l.length := by omega
      obtain ⟨b, o, rfl, -, hbl, hc⟩ := HAT.out i hlt
      have e0 : w.cell? ⟨b, o + i, none⟩ = some (.string (strB l[i])) := by have := hc; rw [Nat.mul_one] at this; exact this
      obtain ⟨s, hs⟩ : ∃ s, s = l[i] := ⟨_, rfl⟩
      have HS : Hid (s = l[i]) := hs
      have hcc : ∀ q, wr.cell? ⟨b, q, none⟩ = w.cell? ⟨b, q, none⟩ := fun q => below_cell HB.out hbl
      rw [← hs] at e0
      rw [← hcc] at e0
      have cis := HK.out s wr HB.out
      obtain ⟨q, hq⟩ : ∃ q, q = p s := ⟨_, rfl⟩
      rw [← hq] at cis
      have HQ : Hid (q = p s) := hq
      clear hs hq hcc
      go_wp2_with fail
      refine cis.mono ?_
      clear cis
      rintro e w2 ⟨rfl, hb2⟩
      have HB1 : Hid (Below w.heap.size w w2) := hb2
      clear hb2
      cases q with
      | false =>
        go_wp2
        refine ⟨⟨i + 1, by omega, by go_num, fun j h hj => ?_, HB1.out⟩, by simp [intOf]; omega⟩
        by_cases hji : j < i
        · exact HA.out j h hji
        · obtain rfl : j = i := by omega
          rw [← HS.out]
          exact HQ.out.symm
      | true =>
        have HF : Hid (fidx p l = i) := fidx_at hlt (by rw [← HS.out]; exact HQ.out.symm) HA.out
        go_wp2
        go_ret
        rw [HF.out]
        exact ⟨rfl, HB1.out⟩
    · obtain rfl : i = l.length := by omega
      have hi2 : ¬ (l.length : Int) < l.length := by omega
      have HF : Hid (fidx p l = -1) := fidx_no fun j hj => HA.out j hj hj
      go_wp2
      go_ret
      rw [HF.out]
      exact ⟨rfl, HB.out⟩

set_option maxRecDepth 100000 in
set_option maxHeartbeats 4000000 in
theorem cHasStr_any (S : Nat → Prop) (l : List (List UInt8)) (v : Value) (k g : Nat) (p : (List UInt8) → Bool) (w : World) (hin : strsIn S w v l)
    (hk : ∀ x W, Below w.heap.size w W → Calls Tryz.prog 158 #[.string (strB x), .pointer (some ⟨k, 0, none⟩), .pointer (some ⟨g, 0, none⟩)] W fun e w' => e = .returned (.bool (p x)) ∧ Below w.heap.size w w') :
    Calls Tryz.prog 159 #[v, .func (.func 158) #[] #[.pointer (some ⟨k, 0, none⟩), .pointer (some ⟨g, 0, none⟩)]] w fun e w' => e = .returned (.bool (l.any p)) ∧ Below w.heap.size w w' := by
  have c := cIndexStr_any S l v k g p w hin hk
  have HR : Hid (decide (0 ≤ fidx p l) = l.any p) := fidx_any
  obtain ⟨r, hr⟩ : ∃ r, r = fidx p l := ⟨_, rfl⟩
  obtain ⟨R, hR⟩ : ∃ R, R = l.any p := ⟨_, rfl⟩
  rw [← hr] at c HR
  rw [← hR] at HR ⊢
  obtain ⟨base, cap, rfl, -⟩ := hin.at
  clear hr hR hin hk
  go_enter Tryz.func159, Tryz.ntmps159
  go_wp2_with fail
  refine c.mono ?_
  clear c
  rintro e w2 ⟨rfl, hb2⟩
  have HB1 : Hid (Below w.heap.size w w2) := hb2
  clear hb2
  go_wp2
  go_ret
  rw [← HR.out]
  exact ⟨rfl, HB1.out⟩

set_option maxRecDepth 100000 in
set_option maxHeartbeats 4000000 in
theorem cNamedStr_any (S : Nat → Prop) (l : List (List UInt8)) (v : Value) (lo hi : Int) (w : World) (hin : strsIn S w v l) (hl : ∀ x ∈ l, List.length x ≤ 1048576) (ht : TabsP w) :
    Calls Tryz.prog 139 #[v, .int .i64 lo, .int .i64 hi, .func (.func 140) #[] #[]] w fun e w' => e = .returned (.bool (namesR lo hi (l.map id))) ∧ Below w.heap.size w w' := by
  have HIN : Hid (strsIn S w v l) := hin
  obtain ⟨base, cap, rfl, hc1, hc2, hat⟩ := hin.at
  have HAT : Hid (∀ i (hi : i < l.length), ∃ b o, base = some ⟨b, o, none⟩ ∧ S b ∧ b < w.heap.size ∧ strE w b (o + i * 1) l[i]) := hat
  have hln : l.length ≤ 9223372036854775807 := by have : maxLen ≤ 9223372036854775807 := by decide
                                                  omega
  obtain ⟨w1, hw1, hb1, HZ1, h1⟩ := box1 w (.cells #[.func (.func 140) #[] #[]] 125)
  have HW1 : Hid (w1 = w.alloc (.cells #[.func (.func 140) #[] #[]] 125)) := hw1
  have HB1 : Hid (Below w.heap.size w w1) := hb1
  have H1 : Hid (w1.heap[w.heap.size]? = some (.cells #[.func (.func 140) #[] #[]] 125 (0, 0))) := h1
  have HT : Hid (TabsP w1) := ht.below hb1 (Nat.le_refl _)
  have HL : Hid (∀ x ∈ l, List.length x ≤ 1048576) := hl
  have c1 := cIsIn_any (l.length : Int) lo hi w1
  obtain ⟨q1, hq1⟩ : ∃ q, q = decide (lo ≤ (l.length : Int) ∧ (l.length : Int) ≤ hi) := ⟨_, rfl⟩
  rw [← hq1] at c1
  have HQ1 : Hid (q1 = decide (lo ≤ ((l.map id).length : Int) ∧ ((l.map id).length : Int) ≤ hi)) := by
    show _ = _
    rw [hq1, List.length_map]
  obtain ⟨R, hR⟩ : ∃ R, R = namesR lo hi (l.map id) := ⟨_, rfl⟩
  have HRD : Hid (R = namesR lo hi (l.map id)) := hR
  rw [← hR]
  clear hat hin hw1 hb1 h1 ht hl hq1 hR
  go_enter Tryz.func139, Tryz.ntmps139
  go_wp2_with fail
  rw [← HW1.out]
  refine c1.mono ?_
  clear c1
  rintro e w2 ⟨rfl, hb2⟩
  have HB2 : Hid (Below w1.heap.size w1 w2) := hb2
  clear hb2
  cases q1 with
  | false =>
    have HR : Hid (R = false) := by
      show _ = _
      rw [HRD.out]; exact namesR_no HQ1.out.symm
    go_wp2
    go_ret
    rw [HR.out]
    exact ⟨rfl, HB1.out.trans (HB2.out.mono HB1.out.size)⟩
  | true =>
  go_wp2
  go_loopw [20] (fun vi wr => ∃ i : Nat, i ≤ l.length ∧ vi = .int .i64 i ∧ (∀ j (h : j < l.length), j < i → backB 1 0 l[j] ∧ l[j] ∉ (l.map id).take j) ∧ Below w1.heap.size w1 wr) (fun vi _ => l.length - (intOf vi).toNat)
  case atStart => exact ⟨0, Nat.zero_le _, rfl, fun j h hj => by omega, HB2.out⟩
  case round =>
    obtain ⟨i, hi', rfl, hall, hbr⟩ := hrel
    have HA : Hid (∀ j (h : j < l.length), j < i → backB 1 0 l[j] ∧ l[j] ∉ (l.map id).take j) := hall
    have HB : Hid (Below w1.heap.size w1 wr) := hbr
    clear hall hbr
    by_cases hlt : i < l.length
    · have hi2 : (i : Int) < l.length := by omega
      obtain ⟨b, o, rfl, -, hbl, hc⟩ := HAT.out i hlt
      have e0 : w.cell? ⟨b, o + i, none⟩ = some (.string (strB l[i])) := by have := hc; rw [Nat.mul_one] at this; exact this
      obtain ⟨s, hs⟩ : ∃ s, s = l[i] := ⟨_, rfl⟩
      have HS : Hid (s = l[i]) := hs
      have hbw : Below w.heap.size w wr := HB1.out.trans (HB.out.mono HB1.out.size)
      have HBW : Hid (Below w.heap.size w wr) := hbw
      have hcc : ∀ q, wr.cell? ⟨b, q, none⟩ = w.cell? ⟨b, q, none⟩ := fun q => below_cell hbw hbl
      rw [← hs] at e0
      rw [← hcc] at e0
      obtain ⟨w3, hw3, hb3, HZ3, h3⟩ := box1 wr (.cells #[.string (strB s)] 9)
      have HW3 : Hid (w3 = wr.alloc (.cells #[.string (strB s)] 9)) := hw3
      have HB3 : Hid (Below wr.heap.size wr w3) := hb3
      have H3 : Hid (w3.heap[wr.heap.size]? = some (.cells #[.string (strB s)] 9 (0, 0))) := h3
      have hkw : w.heap.size < w1.heap.size := by have := HZ1.out; omega
      have HKR : Hid (wr.heap[w.heap.size]? = some (.cells #[.func (.func 140) #[] #[]] 125 (0, 0))) := (HB.out.block _ hkw).trans H1.out
      have f0 : wr.cell? ⟨w.heap.size, 0, none⟩ = some (.func (.func 140) #[] #[]) := by simp only [World.cell?, HKR.out]; rfl
      have hkr : w.heap.size < wr.heap.size := Nat.lt_of_lt_of_le hkw HB.out.size
      have cn := cNameStr_any s w3
      clear hs hcc hw3 hb3 h3 hbw hkw
      go_wp2_with fail
      rw [← HW3.out]
      refine cn.mono ?_
      clear cn
      rintro e w4 ⟨rfl, hb4⟩
      have HB4 : Hid (Below wr.heap.size wr w4) := HB3.out.trans (hb4.mono HB3.out.size)
      have H4 : Hid (w4.heap[wr.heap.size]? = some (.cells #[.string (strB s)] 9 (0, 0))) := (hb4.block _ (by have := HZ3.out; omega)).trans H3.out
      have hz4 : Hid (wr.heap.size < w4.heap.size) := by have := HZ3.out; have := hb4.size; show _ < _; omega
      have ci := cIsName_any s w4 (HL.out s (by rw [HS.out]; exact List.getElem_mem hlt)) (HT.out.below (HB.out.trans (HB4.out.mono HB.out.size)) (Nat.le_refl _))
      obtain ⟨q, hq⟩ : ∃ q, q = decide (backB 1 0 s) := ⟨_, rfl⟩
      rw [← hq] at ci
      have HQ : Hid (q = decide (backB 1 0 s)) := hq
      clear hb4 hq
      go_wp2_with fail
      refine ci.mono ?_
      clear ci
      rintro e w5 ⟨rfl, hb5⟩
      have HB5 : Hid (Below wr.heap.size wr w5) := HB4.out.trans (hb5.mono HB4.out.size)
      have H5 : Hid (w5.heap[wr.heap.size]? = some (.cells #[.string (strB s)] 9 (0, 0))) := (hb5.block _ hz4.out).trans H4.out
      have HK5 : Hid (w5.heap[w.heap.size]? = some (.cells #[.func (.func 140) #[] #[]] 125 (0, 0))) := (HB5.out.block _ hkr).trans HKR.out
      clear hb5
      cases q with
      | false =>
        have HR : Hid (R = false) := by
          show _ = _
          rw [HRD.out]
          refine namesR_bad (i := i) (by rw [List.length_map]; exact hlt) fun h => ?_
          have hb : backB 1 0 s := by
            have hb := h.1
            rw [List.getElem_map, ← HS.out] at hb
            exact hb
          exact absurd HQ.out (by rw [decide_eq_true hb]; simp)
        go_wp2
        go_ret
        rw [HR.out]
        exact ⟨rfl, HBW.out.trans (HB5.out.mono HBW.out.size)⟩
      | true =>
        have hicap : i ≤ cap := by omega
        have cc := cHasStr_any S (l.take i) (.slice (some ⟨b, o, none⟩) i cap) w.heap.size wr.heap.size (fun y => decide (y = s)) w5 ((rowIn.cut (rowIn.kept HIN.out (strE_keeps S) (HBW.out.trans (HB5.out.mono HBW.out.size)).size fun q _ hq => (HBW.out.trans (HB5.out.mono HBW.out.size)).block q hq) (Nat.le_of_lt hlt))) (fun y W hW => by
          exact (cSameStr_any w.heap.size wr.heap.size s y W ((hW.block _ (heap_lt HK5.out)).trans HK5.out) ((hW.block _ (heap_lt H5.out)).trans H5.out)).mono fun e w' ⟨he, hb⟩ => ⟨he, hW.trans (hb.mono hW.size)⟩)
        obtain ⟨q2, hq2⟩ : ∃ q, q = (l.take i).any (fun y => decide (y = s)) := ⟨_, rfl⟩
        rw [← hq2] at cc
        have HQ2 : Hid (q2 = true ↔ s ∈ (l.map id).take i) := by
          show _ ↔ _
          rw [hq2]
          exact any_name id l i s
        clear hq2
        go_wp2_with fail
        refine cc.mono ?_
        clear cc
        rintro e w6 ⟨rfl, hb6⟩
        have HB6 : Hid (Below wr.heap.size wr w6) := HB5.out.trans (hb6.mono HB5.out.size)
        clear hb6
        cases q2 with
        | true =>
          have HR : Hid (R = false) := by
            show _ = _
            rw [HRD.out]
            refine namesR_bad (i := i) (by rw [List.length_map]; exact hlt) fun h => ?_
            have hb := h.2
            rw [List.getElem_map, ← HS.out] at hb
            exact hb (HQ2.out.1 rfl)
          go_wp2
          go_ret
          rw [HR.out]
          exact ⟨rfl, HBW.out.trans (HB6.out.mono HBW.out.size)⟩
        | false =>
          go_wp2
          refine ⟨⟨i + 1, by omega, by go_num, fun j h hj => ?_, HB.out.trans (HB6.out.mono HB.out.size)⟩, by simp [intOf]; omega⟩
          by_cases hji : j < i
          · exact HA.out j h hji
          · obtain rfl : j = i := by omega
            rw [← HS.out]
            exact ⟨of_decide_eq_true HQ.out.symm, fun hm => absurd (HQ2.out.2 hm) (by simp)⟩
    · obtain rfl : i = l.length := by omega
      have hi2 : ¬ (l.length : Int) < l.length := by omega
      have HR : Hid (R = true) := by
        show _ = _
        rw [HRD.out]
        refine namesR_ok HQ1.out.symm fun i h => ?_
        have h2 : i < l.length := by rw [List.length_map] at h; exact h
        have := HA.out i h2 h2
        rw [List.getElem_map]
        exact this
      go_wp2
      go_ret
      rw [HR.out]
      exact ⟨rfl, HB1.out.trans (HB.out.mono HB1.out.size)⟩
end Go.Proofs.YtechkkphbajmoaaGreatDoor
/- code: every shape of a row. -/
namespace Go.Proofs.YtechkkphbajmoaaGreatDoor
open Go.RowKit Go.Shelf

abbrev shV (x : Sh) (vf : Value) : Value := .agg #[.string (strB x.name), vf]

set_option maxRecDepth 100000 in
set_option maxHeartbeats 4000000 in
theorem everyShape_any (S : Nat → Prop) (l : List Sh) (v : Value) (p : Sh → Bool) (w : World) (hin : shapesIn S w v l)
    (hk : ∀ i (hi : i < l.length) bf nf cf W, strsIn S w (.slice bf nf cf) l[i].fields → Below w.heap.size w W → Calls Tryz.prog 106 #[shV l[i] (.slice bf nf cf)] W fun e w' => e = .returned (.bool (p l[i])) ∧ Below w.heap.size w w') :
    Calls Tryz.prog 105 #[v, .func (.func 106) #[] #[]] w fun e w' => e = .returned (.bool (l.all p)) ∧ Below w.heap.size w w' := by
  obtain ⟨base, cap, rfl, hc1, hc2, hat⟩ := hin.at
  have HK : Hid (∀ i (hi : i < l.length) bf nf cf W, strsIn S w (.slice bf nf cf) l[i].fields → Below w.heap.size w W → Calls Tryz.prog 106 #[shV l[i] (.slice bf nf cf)] W fun e w' => e = .returned (.bool (p l[i])) ∧ Below w.heap.size w w') := hk
  have HAT : Hid (∀ i (hi : i < l.length), ∃ b o, base = some ⟨b, o, none⟩ ∧ S b ∧ b < w.heap.size ∧ (shE S) w b (o + i * 2) l[i]) := hat
  have hln : l.length ≤ 9223372036854775807 := by have : maxLen ≤ 9223372036854775807 := by decide
                                                  omega
  clear hat hin hk
  go_enter Tryz.func105, Tryz.ntmps105
  go_wp2
  go_loopw [9] (fun vi wr => ∃ i : Nat, i ≤ l.length ∧ vi = .int .i64 i ∧ (∀ j (h : j < l.length), j < i → p l[j] = true) ∧ Below w.heap.size w wr) (fun vi _ => l.length - (intOf vi).toNat)
  case atStart => exact ⟨0, Nat.zero_le _, rfl, fun j h hj => by omega, Below.refl _ _⟩
  case round =>
    obtain ⟨i, hi, rfl, hall, hbr⟩ := hrel
    have HA : Hid (∀ j (h : j < l.length), j < i → p l[j] = true) := hall
    have HB : Hid (Below w.heap.size w wr) := hbr
    clear hall hbr
    by_cases hlt : i < l.length
    · have hi2 : (i : Int) < l.length := by omega
      obtain ⟨b, o, rfl, -, hbl, hc⟩ := HAT.out i hlt
      obtain ⟨e0, vf, e1, hf⟩ := hc
      obtain ⟨bf, cf, rfl, -⟩ := hf.at
      obtain ⟨nf, hnf⟩ : ∃ n, n = l[i].fields.length := ⟨_, rfl⟩
      rw [← hnf] at e1 hf
      clear hnf
      obtain ⟨s, hs⟩ : ∃ s, s = l[i] := ⟨_, rfl⟩
      have HS : Hid (s = l[i]) := hs
      have hcc : ∀ q, wr.cell? ⟨b, q, none⟩ = w.cell? ⟨b, q, none⟩ := fun q => below_cell HB.out hbl
      rw [← hs] at e0
      rw [← hcc] at e0 e1
      obtain ⟨w1, hw1, hb1, HZ1, h1⟩ := box1 wr (.cells #[.string (strB s.name), .slice bf nf cf] 77)
      have HW1 : Hid (w1 = wr.alloc (.cells #[.string (strB s.name), .slice bf nf cf] 77)) := hw1
      have cis := HK.out i hlt bf nf cf w1 hf (HB.out.trans (hb1.mono HB.out.size))
      rw [← hs] at cis
      obtain ⟨q, hq⟩ : ∃ q, q = p s := ⟨_, rfl⟩
      rw [← hq] at cis
      have HQ : Hid (q = p s) := hq
      clear hs hq hcc hw1 hb1 HZ1 h1
      go_wp2_with fail
      rw [← HW1.out]
      refine cis.mono ?_
      clear cis
      rintro e w2 ⟨rfl, hb2⟩
      have HB1 : Hid (Below w.heap.size w w2) := hb2
      clear hb2
      cases q with
      | true =>
        go_wp2
        refine ⟨⟨i + 1, by omega, by go_num, fun j h hj => ?_, HB1.out⟩, by simp [intOf]; omega⟩
        by_cases hji : j < i
        · exact HA.out j h hji
        · obtain rfl : j = i := by omega
          rw [← HS.out]
          exact HQ.out.symm
      | false =>
        have HF : Hid (l.all p = false) := all_false hlt (by rw [← HS.out]; exact HQ.out.symm)
        go_wp2
        go_ret
        rw [HF.out]
        exact ⟨rfl, HB1.out⟩
    · obtain rfl : i = l.length := by omega
      have hi2 : ¬ (l.length : Int) < l.length := by omega
      have HF : Hid (l.all p = true) := all_true fun j hj => HA.out j hj hj
      go_wp2
      go_ret
      rw [HF.out]
      exact ⟨rfl, HB.out⟩

end Go.Proofs.YtechkkphbajmoaaGreatDoor
/- code: names that are all names, and different: at hindcast/api.Shape. -/
namespace Go.Proofs.YtechkkphbajmoaaGreatDoor
open Go.RowKit Go.Shelf

set_option maxRecDepth 100000 in
set_option maxHeartbeats 4000000 in
theorem cNameShape_any (x : Sh) (bf : Option Addr) (nf cf : Nat) (w : World) :
    Calls Tryz.prog 104 #[shV x (.slice bf nf cf)] w fun e w' => e = .returned (.string (strB x.name)) ∧ Below w.heap.size w w' := by
  have HB : Hid (Below w.heap.size w (w.alloc (.cells #[.string (strB x.name), .slice bf nf cf] 77))) := (Below.refl _ _).alloc (Nat.le_refl _) _
  go_enter Tryz.func104, Tryz.ntmps104
  go_wp2
  go_ret
  exact ⟨rfl, HB.out⟩

set_option maxRecDepth 100000 in
set_option maxHeartbeats 4000000 in
theorem cSameShape_any (k g : Nat) (x y : Sh) (bf : Option Addr) (nf cf : Nat) (bg : Option Addr) (ng cg : Nat) (w : World) (hk : w.heap[k]? = some (.cells #[.func (.func 104) #[] #[]] 148 (0, 0))) (hg : w.heap[g]? = some (.cells #[.string (strB x.name), .slice bf nf cf] 77 (0, 0))) :
    Calls Tryz.prog 136 #[shV y (.slice bg ng cg), .pointer (some ⟨k, 0, none⟩), .pointer (some ⟨g, 0, none⟩)] w fun e w' => e = .returned (.bool (decide (y.name = x.name))) ∧ Below w.heap.size w w' := by
  obtain ⟨w1, hw1, hb1, HZ1, h1⟩ := box1 w (.cells #[.string (strB y.name), .slice bg ng cg] 77)
  have HW1 : Hid (w1 = w.alloc (.cells #[.string (strB y.name), .slice bg ng cg] 77)) := hw1
  have HB1 : Hid (Below w.heap.size w w1) := hb1
  obtain ⟨a0, a1⟩ := bcells2 ((hb1.block g (heap_lt hg)).trans hg)
  obtain ⟨b0, b1⟩ := bcells2 h1
  have f0 : w1.cell? ⟨k, 0, none⟩ = some (.func (.func 104) #[] #[]) := by simp only [World.cell?, (hb1.block k (heap_lt hk)).trans hk]; rfl
  have x0 := cls_cell (n := w1.heap.size) a0 (by have := heap_lt hg; have := hb1.size; simp only; omega)
  have x1 := cls_cell (n := w1.heap.size) a1 (by have := heap_lt hg; have := hb1.size; simp only; omega)
  have y0 := cls_cell (n := w1.heap.size) b0 (by have := HZ1.out; simp only; omega)
  have y1 := cls_cell (n := w1.heap.size) b1 (by have := HZ1.out; simp only; omega)
  have z0 := cls_cell (n := w1.heap.size) f0 (by have := heap_lt hk; have := hb1.size; simp only; omega)
  have HCy : Hid (∀ W, Below w1.heap.size w1 W → Calls Tryz.prog 104 #[.agg #[.string (strB y.name), (.slice bg ng cg)]] W fun e w' => e = .returned (.string (strB y.name)) ∧ Below w1.heap.size w1 w') := fun W hW => (cNameShape_any y bg ng cg W).mono fun e w' ⟨he, hb⟩ => ⟨he, hW.trans (hb.mono hW.size)⟩
  have HCx : Hid (∀ W, Below w1.heap.size w1 W → Calls Tryz.prog 104 #[.agg #[.string (strB x.name), (.slice bf nf cf)]] W fun e w' => e = .returned (.string (strB x.name)) ∧ Below w1.heap.size w1 w') := fun W hW => (cNameShape_any x bf nf cf W).mono fun e w' ⟨he, hb⟩ => ⟨he, hW.trans (hb.mono hW.size)⟩
  clear hk hg hw1 hb1 a0 a1 b0 b1 f0 h1 HZ1
  obtain ⟨R, hR⟩ : ∃ R, R = decide (y.name = x.name) := ⟨_, rfl⟩
  have HR : Hid (R = decide (y.name = x.name)) := hR
  rw [← hR]
  have hbq : (y.name == x.name) = R := by rw [beqL]; exact hR.symm
  clear hR
  go_enter Tryz.func136, Tryz.ntmps136
  go_upto_region 1 with fail
  rw [← HW1.out]
  refine wp_region_cls (n := w1.heap.size) (w0 := w1) (Below.refl _ _) (by kernel_rfl) (by kernel_rfl) ?_
  iterate 2 (go_big_quiet_step (fail))
  go_big_quiet_step (exact cls_calls HCy.out _)
  iterate 2 (go_big_quiet_step (fail))
  go_big_quiet_step (exact cls_calls HCx.out _)
  iterate 2 (go_big_quiet_step (fail))
  refine wpQuiet_nil ?_
  rintro _ ⟨c, rfl⟩
  obtain ⟨w5, hb5⟩ := c
  dsimp only
  have HB5 : Hid (Below w.heap.size w w5) := HB1.out.trans (hb5.mono HB1.out.size)
  clear hb5
  go_wp2
  go_ret
  exact ⟨rfl, HB5.out⟩

end Go.Proofs.YtechkkphbajmoaaGreatDoor
/- code: names that are all names, and different: at hindcast/api.Shape. -/
namespace Go.Proofs.YtechkkphbajmoaaGreatDoor
open Go.RowKit Go.Shelf

set_option maxRecDepth 100000 in
set_option maxHeartbeats 4000000 in
theorem cIndexShape_any (S : Nat → Prop) (l : List Sh) (v : Value) (k g : Nat) (p : Sh → Bool) (w : World) (hin : shapesIn S w v l)
    (hk : ∀ x bf nf cf W, Below w.heap.size w W → Calls Tryz.prog 136 #[shV x (.slice bf nf cf), .pointer (some ⟨k, 0, none⟩), .pointer (some ⟨g, 0, none⟩)] W fun e w' => e = .returned (.bool (p x)) ∧ Below w.heap.size w w') :
    Calls Tryz.prog 157 #[v, .func (.func 136) #[] #[.pointer (some ⟨k, 0, none⟩), .pointer (some ⟨g, 0, none⟩)]] w fun e w' => e = .returned (.int .i64 (fidx p l)) ∧ Below w.heap.size w w' := by
  obtain ⟨base, cap, rfl, hc1, hc2, hat⟩ := hin.at
  have HK : Hid (∀ x bf nf cf W, Below w.heap.size w W → Calls Tryz.prog 136 #[shV x (.slice bf nf cf), .pointer (some ⟨k, 0, none⟩), .pointer (some ⟨g, 0, none⟩)] W fun e w' => e = .returned (.bool (p x)) ∧ Below w.heap.size w w') := hk
  have HAT : Hid (∀ i (hi : i < l.length), ∃ b o, base = some ⟨b, o, none⟩ ∧ S b ∧ b < w.heap.size ∧ (shE S) w b (o + i * 2) l[i]) := hat
  have hln : l.length ≤ 9223372036854775807 := by have : maxLen ≤ 9223372036854775807 := by decide
                                                  omega
  clear hat hin hk
  go_enter Tryz.func157, Tryz.ntmps157
  go_wp2
  go_loopw [8] (fun vi wr => ∃ i : Nat, i ≤ l.length ∧ vi = .int .i64 i ∧ (∀ j (h : j < l.length), j < i → p l[j] = false) ∧ Below w.heap.size w wr) (fun vi _ => l.length - (intOf vi).toNat)
  case atStart => exact ⟨0, Nat.zero_le _, rfl, fun j h hj => by omega, Below.refl _ _⟩
  case round =>
    obtain ⟨i, hi, rfl, hall, hbr⟩ := hrel
    have HA : Hid (∀ j (h : j < l.length), j < i → p l[j] = false) := hall
    have HB : Hid (Below w.heap.size w wr) := hbr
    clear hall hbr
    by_cases hlt : i < l.length
    · have hi2 : (i : Int) < l.length := by omega
      obtain ⟨b, o, rfl, -, hbl, hc⟩ := HAT.out i hlt
      obtain ⟨e0, vf, e1, hf⟩ := hc
      obtain ⟨bf, cf, rfl, -⟩ := hf.at
      obtain ⟨nf, hnf⟩ : ∃ n, n = l[i].fields.length := ⟨_, rfl⟩
      rw [← hnf] at e1
      clear hnf hf
      obtain ⟨s, hs⟩ : ∃ s, s = l[i] := ⟨_, rfl⟩
      have HS : Hid (s = l[i]) := hs
      have hcc : ∀ q, wr.cell? ⟨b, q, none⟩ = w.cell? ⟨b, q, none⟩ := fun q => below_cell HB.out hbl
      rw [← hs] at e0
      rw [← hcc] at e0 e1
      have cis := HK.out s bf nf cf wr HB.out
      obtain ⟨q, hq⟩ : ∃ q, q = p s := ⟨_, rfl⟩
      rw [← hq] at cis
      have HQ : Hid (q = p s) := hq
      clear hs hq hcc
      go_wp2_with fail
      refine cis.mono ?_
      clear cis
      rintro e w2 ⟨rfl, hb2⟩
      have HB1 : Hid (Below w.heap.size w w2) := hb2
      clear hb2
      cases q with
      | false =>
        go_wp2
        refine ⟨⟨i + 1, by omega, by go_num, fun j h hj => ?_, HB1.out⟩, by simp [intOf]; omega⟩
        by_cases hji : j < i
        · exact HA.out j h hji
        · obtain rfl : j = i := by omega
          rw [← HS.out]
          exact HQ.out.symm
      | true =>
        have HF : Hid (fidx p l = i) := fidx_at hlt (by rw [← HS.out]; exact HQ.out.symm) HA.out
        go_wp2
        go_ret
        rw [HF.out]
        exact ⟨rfl, HB1.out⟩
    · obtain rfl : i = l.length := by omega
      have hi2 : ¬ (l.length : Int) < l.length := by omega
      have HF : Hid (fidx p l = -1) := fidx_no fun j hj => HA.out j hj hj
      go_wp2
      go_ret
      rw [HF.out]
      exact ⟨rfl, HB.out⟩

set_option maxRecDepth 100000 in
set_option maxHeartbeats 4000000 in
theorem cHasShape_any (S : Nat → Prop) (l : List Sh) (v : Value) (k g : Nat) (p : Sh → Bool) (w : World) (hin : shapesIn S w v l)
    (hk : ∀ x bf nf cf W, Below w.heap.size w W → Calls Tryz.prog 136 #[shV x (.slice bf nf cf), .pointer (some ⟨k, 0, none⟩), .pointer (some ⟨g, 0, none⟩)] W fun e w' => e = .returned (.bool (p x)) ∧ Below w.heap.size w w') :
    Calls Tryz.prog 138 #[v, .func (.func 136) #[] #[.pointer (some ⟨k, 0, none⟩), .pointer (some ⟨g, 0, none⟩)]] w fun e w' => e = .returned (.bool (l.any p)) ∧ Below w.heap.size w w' := by
  have c := cIndexShape_any S l v k g p w hin hk
  have HR : Hid (decide (0 ≤ fidx p l) = l.any p) := fidx_any
  obtain ⟨r, hr⟩ : ∃ r, r = fidx p l := ⟨_, rfl⟩
  obtain ⟨R, hR⟩ : ∃ R, R = l.any p := ⟨_, rfl⟩
  rw [← hr] at c HR
  rw [← hR] at HR ⊢
  obtain ⟨base, cap, rfl, -⟩ := hin.at
  clear hr hR hin hk
  go_enter Tryz.func138, Tryz.ntmps138
  go_wp2_with fail
  refine c.mono ?_
  clear c
  rintro e w2 ⟨rfl, hb2⟩
  have HB1 : Hid (Below w.heap.size w w2) := hb2
  clear hb2
  go_wp2
  go_ret
  rw [← HR.out]
  exact ⟨rfl, HB1.out⟩

set_option maxRecDepth 100000 in
set_option maxHeartbeats 4000000 in
theorem cNamedShape_any (S : Nat → Prop) (l : List Sh) (v : Value) (lo hi : Int) (w : World) (hin : shapesIn S w v l) (hl : ∀ x ∈ l, List.length x.name ≤ 1048576) (ht : TabsP w) :
    Calls Tryz.prog 103 #[v, .int .i64 lo, .int .i64 hi, .func (.func 104) #[] #[]] w fun e w' => e = .returned (.bool (namesR lo hi (l.map Sh.name))) ∧ Below w.heap.size w w' := by
  have HIN : Hid (shapesIn S w v l) := hin
  obtain ⟨base, cap, rfl, hc1, hc2, hat⟩ := hin.at
  have HAT : Hid (∀ i (hi : i < l.length), ∃ b o, base = some ⟨b, o, none⟩ ∧ S b ∧ b < w.heap.size ∧ (shE S) w b (o + i * 2) l[i]) := hat
  have hln : l.length ≤ 9223372036854775807 := by have : maxLen ≤ 9223372036854775807 := by decide
                                                  omega
  obtain ⟨w1, hw1, hb1, HZ1, h1⟩ := box1 w (.cells #[.func (.func 104) #[] #[]] 148)
  have HW1 : Hid (w1 = w.alloc (.cells #[.func (.func 104) #[] #[]] 148)) := hw1
  have HB1 : Hid (Below w.heap.size w w1) := hb1
  have H1 : Hid (w1.heap[w.heap.size]? = some (.cells #[.func (.func 104) #[] #[]] 148 (0, 0))) := h1
  have HT : Hid (TabsP w1) := ht.below hb1 (Nat.le_refl _)
  have HL : Hid (∀ x ∈ l, List.length x.name ≤ 1048576) := hl
  have c1 := cIsIn_any (l.length : Int) lo hi w1
  obtain ⟨q1, hq1⟩ : ∃ q, q = decide (lo ≤ (l.length : Int) ∧ (l.length : Int) ≤ hi) := ⟨_, rfl⟩
  rw [← hq1] at c1
  have HQ1 : Hid (q1 = decide (lo ≤ ((l.map Sh.name).length : Int) ∧ ((l.map Sh.name).length : Int) ≤ hi)) := by
    show _ = _
    rw [hq1, List.length_map]
  obtain ⟨R, hR⟩ : ∃ R, R = namesR lo hi (l.map Sh.name) := ⟨_, rfl⟩
  have HRD : Hid (R = namesR lo hi (l.map Sh.name)) := hR
  rw [← hR]
  clear hat hin hw1 hb1 h1 ht hl hq1 hR
  go_enter Tryz.func103, Tryz.ntmps103
  go_wp2_with fail
  rw [← HW1.out]
  refine c1.mono ?_
  clear c1
  rintro e w2 ⟨rfl, hb2⟩
  have HB2 : Hid (Below w1.heap.size w1 w2) := hb2
  clear hb2
  cases q1 with
  | false =>
    have HR : Hid (R = false) := by
      show _ = _
      rw [HRD.out]; exact namesR_no HQ1.out.symm
    go_wp2
    go_ret
    rw [HR.out]
    exact ⟨rfl, HB1.out.trans (HB2.out.mono HB1.out.size)⟩
  | true =>
  go_wp2
  go_loopw [20] (fun vi wr => ∃ i : Nat, i ≤ l.length ∧ vi = .int .i64 i ∧ (∀ j (h : j < l.length), j < i → backB 1 0 l[j].name ∧ l[j].name ∉ (l.map Sh.name).take j) ∧ Below w1.heap.size w1 wr) (fun vi _ => l.length - (intOf vi).toNat)
  case atStart => exact ⟨0, Nat.zero_le _, rfl, fun j h hj => by omega, HB2.out⟩
  case round =>
    obtain ⟨i, hi', rfl, hall, hbr⟩ := hrel
    have HA : Hid (∀ j (h : j < l.length), j < i → backB 1 0 l[j].name ∧ l[j].name ∉ (l.map Sh.name).take j) := hall
    have HB : Hid (Below w1.heap.size w1 wr) := hbr
    clear hall hbr
    by_cases hlt : i < l.length
    · have hi2 : (i : Int) < l.length := by omega
      obtain ⟨b, o, rfl, -, hbl, hc⟩ := HAT.out i hlt
      obtain ⟨e0, vf, e1, hf⟩ := hc
      obtain ⟨bf, cf, rfl, -⟩ := hf.at
      obtain ⟨nf, hnf⟩ : ∃ n, n = l[i].fields.length := ⟨_, rfl⟩
      rw [← hnf] at e1
      clear hnf hf
      obtain ⟨s, hs⟩ : ∃ s, s = l[i] := ⟨_, rfl⟩
      have HS : Hid (s = l[i]) := hs
      have hbw : Below w.heap.size w wr := HB1.out.trans (HB.out.mono HB1.out.size)
      have HBW : Hid (Below w.heap.size w wr) := hbw
      have hcc : ∀ q, wr.cell? ⟨b, q, none⟩ = w.cell? ⟨b, q, none⟩ := fun q => below_cell hbw hbl
      rw [← hs] at e0
      rw [← hcc] at e0 e1
      obtain ⟨w3, hw3, hb3, HZ3, h3⟩ := box1 wr (.cells #[.string (strB s.name), .slice bf nf cf] 77)
      have HW3 : Hid (w3 = wr.alloc (.cells #[.string (strB s.name), .slice bf nf cf] 77)) := hw3
      have HB3 : Hid (Below wr.heap.size wr w3) := hb3
      have H3 : Hid (w3.heap[wr.heap.size]? = some (.cells #[.string (strB s.name), .slice bf nf cf] 77 (0, 0))) := h3
      have hkw : w.heap.size < w1.heap.size := by have := HZ1.out; omega
      have HKR : Hid (wr.heap[w.heap.size]? = some (.cells #[.func (.func 104) #[] #[]] 148 (0, 0))) := (HB.out.block _ hkw).trans H1.out
      have f0 : wr.cell? ⟨w.heap.size, 0, none⟩ = some (.func (.func 104) #[] #[]) := by simp only [World.cell?, HKR.out]; rfl
      have hkr : w.heap.size < wr.heap.size := Nat.lt_of_lt_of_le hkw HB.out.size
      have cn := cNameShape_any s bf nf cf w3
      clear hs hcc hw3 hb3 h3 hbw hkw
      go_wp2_with fail
      rw [← HW3.out]
      refine cn.mono ?_
      clear cn
      rintro e w4 ⟨rfl, hb4⟩
      have HB4 : Hid (Below wr.heap.size wr w4) := HB3.out.trans (hb4.mono HB3.out.size)
      have H4 : Hid (w4.heap[wr.heap.size]? = some (.cells #[.string (strB s.name), .slice bf nf cf] 77 (0, 0))) := (hb4.block _ (by have := HZ3.out; omega)).trans H3.out
      have hz4 : Hid (wr.heap.size < w4.heap.size) := by have := HZ3.out; have := hb4.size; show _ < _; omega
      have ci := cIsName_any s.name w4 (HL.out s (by rw [HS.out]; exact List.getElem_mem hlt)) (HT.out.below (HB.out.trans (HB4.out.mono HB.out.size)) (Nat.le_refl _))
      obtain ⟨q, hq⟩ : ∃ q, q = decide (backB 1 0 s.name) := ⟨_, rfl⟩
      rw [← hq] at ci
      have HQ : Hid (q = decide (backB 1 0 s.name)) := hq
      clear hb4 hq
      go_wp2_with fail
      refine ci.mono ?_
      clear ci
      rintro e w5 ⟨rfl, hb5⟩
      have HB5 : Hid (Below wr.heap.size wr w5) := HB4.out.trans (hb5.mono HB4.out.size)
      have H5 : Hid (w5.heap[wr.heap.size]? = some (.cells #[.string (strB s.name), .slice bf nf cf] 77 (0, 0))) := (hb5.block _ hz4.out).trans H4.out
      have HK5 : Hid (w5.heap[w.heap.size]? = some (.cells #[.func (.func 104) #[] #[]] 148 (0, 0))) := (HB5.out.block _ hkr).trans HKR.out
      clear hb5
      cases q with
      | false =>
        have HR : Hid (R = false) := by
          show _ = _
          rw [HRD.out]
          refine namesR_bad (i := i) (by rw [List.length_map]; exact hlt) fun h => ?_
          have hb : backB 1 0 s.name := by
            have hb := h.1
            rw [List.getElem_map, ← HS.out] at hb
            exact hb
          exact absurd HQ.out (by rw [decide_eq_true hb]; simp)
        go_wp2
        go_ret
        rw [HR.out]
        exact ⟨rfl, HBW.out.trans (HB5.out.mono HBW.out.size)⟩
      | true =>
        have hicap : i ≤ cap := by omega
        have cc := cHasShape_any S (l.take i) (.slice (some ⟨b, o, none⟩) i cap) w.heap.size wr.heap.size (fun y => decide (y.name = s.name)) w5 ((rowIn.cut (rowIn.kept HIN.out (shE_keeps S) (HBW.out.trans (HB5.out.mono HBW.out.size)).size fun q _ hq => (HBW.out.trans (HB5.out.mono HBW.out.size)).block q hq) (Nat.le_of_lt hlt))) (fun y bg ng cg W hW => by
          exact (cSameShape_any w.heap.size wr.heap.size s y bf nf cf bg ng cg W ((hW.block _ (heap_lt HK5.out)).trans HK5.out) ((hW.block _ (heap_lt H5.out)).trans H5.out)).mono fun e w' ⟨he, hb⟩ => ⟨he, hW.trans (hb.mono hW.size)⟩)
        obtain ⟨q2, hq2⟩ : ∃ q, q = (l.take i).any (fun y => decide (y.name = s.name)) := ⟨_, rfl⟩
        rw [← hq2] at cc
        have HQ2 : Hid (q2 = true ↔ s.name ∈ (l.map Sh.name).take i) := by
          show _ ↔ _
          rw [hq2]
          exact any_name Sh.name l i s.name
        clear hq2
        go_wp2_with fail
        refine cc.mono ?_
        clear cc
        rintro e w6 ⟨rfl, hb6⟩
        have HB6 : Hid (Below wr.heap.size wr w6) := HB5.out.trans (hb6.mono HB5.out.size)
        clear hb6
        cases q2 with
        | true =>
          have HR : Hid (R = false) := by
            show _ = _
            rw [HRD.out]
            refine namesR_bad (i := i) (by rw [List.length_map]; exact hlt) fun h => ?_
            have hb := h.2
            rw [List.getElem_map, ← HS.out] at hb
            exact hb (HQ2.out.1 rfl)
          go_wp2
          go_ret
          rw [HR.out]
          exact ⟨rfl, HBW.out.trans (HB6.out.mono HBW.out.size)⟩
        | false =>
          go_wp2
          refine ⟨⟨i + 1, by omega, by go_num, fun j h hj => ?_, HB.out.trans (HB6.out.mono HB.out.size)⟩, by simp [intOf]; omega⟩
          by_cases hji : j < i
          · exact HA.out j h hji
          · obtain rfl : j = i := by omega
            rw [← HS.out]
            exact ⟨of_decide_eq_true HQ.out.symm, fun hm => absurd (HQ2.out.2 hm) (by simp)⟩
    · obtain rfl : i = l.length := by omega
      have hi2 : ¬ (l.length : Int) < l.length := by omega
      have HR : Hid (R = true) := by
        show _ = _
        rw [HRD.out]
        refine namesR_ok HQ1.out.symm fun i h => ?_
        have h2 : i < l.length := by rw [List.length_map] at h; exact h
        have := HA.out i h2 h2
        rw [List.getElem_map]
        exact this
      go_wp2
      go_ret
      rw [HR.out]
      exact ⟨rfl, HB1.out.trans (HB.out.mono HB1.out.size)⟩
end Go.Proofs.YtechkkphbajmoaaGreatDoor
/- code: names that are all names, and different: at hindcast/api.Unit. -/
namespace Go.Proofs.YtechkkphbajmoaaGreatDoor
open Go.RowKit Go.Shelf

set_option maxRecDepth 100000 in
set_option maxHeartbeats 4000000 in
theorem cNameUnit_any (x : Un) (bi : Option Addr) (ni ci : Nat) (bv : Option Addr) (nv cv : Nat) (w : World) :
    Calls Tryz.prog 108 #[unV x (.slice bi ni ci) (.slice bv nv cv)] w fun e w' => e = .returned (.string (strB x.name)) ∧ Below w.heap.size w w' := by
  have HB : Hid (Below w.heap.size w (w.alloc (.cells #[.string (strB x.name), .int .i64 x.params, .int .i64 x.slots, .int .i64 x.stack, .bool x.result, .slice bi ni ci, .slice bv nv cv] 58))) := (Below.refl _ _).alloc (Nat.le_refl _) _
  go_enter Tryz.func108, Tryz.ntmps108
  go_wp2
  go_ret
  exact ⟨rfl, HB.out⟩

set_option maxRecDepth 100000 in
set_option maxHeartbeats 4000000 in
theorem cSameUnit_any (k g : Nat) (x y : Un) (bi : Option Addr) (ni ci : Nat) (bv : Option Addr) (nv cv : Nat) (bj : Option Addr) (nj cj : Nat) (bz : Option Addr) (nz cz : Nat) (w : World) (hk : w.heap[k]? = some (.cells #[.func (.func 108) #[] #[]] 152 (0, 0))) (hg : w.heap[g]? = some (.cells #[.string (strB x.name), .int .i64 x.params, .int .i64 x.slots, .int .i64 x.stack, .bool x.result, .slice bi ni ci, .slice bv nv cv] 58 (0, 0))) :
    Calls Tryz.prog 141 #[unV y (.slice bj nj cj) (.slice bz nz cz), .pointer (some ⟨k, 0, none⟩), .pointer (some ⟨g, 0, none⟩)] w fun e w' => e = .returned (.bool (decide (y.name = x.name))) ∧ Below w.heap.size w w' := by
  obtain ⟨w1, hw1, hb1, HZ1, h1⟩ := box1 w (.cells #[.string (strB y.name), .int .i64 y.params, .int .i64 y.slots, .int .i64 y.stack, .bool y.result, .slice bj nj cj, .slice bz nz cz] 58)
  have HW1 : Hid (w1 = w.alloc (.cells #[.string (strB y.name), .int .i64 y.params, .int .i64 y.slots, .int .i64 y.stack, .bool y.result, .slice bj nj cj, .slice bz nz cz] 58)) := hw1
  have HB1 : Hid (Below w.heap.size w w1) := hb1
  obtain ⟨a0, a1, a2, a3, a4, a5, a6⟩ := cells7 ((hb1.block g (heap_lt hg)).trans hg)
  obtain ⟨b0, b1, b2, b3, b4, b5, b6⟩ := cells7 h1
  have f0 : w1.cell? ⟨k, 0, none⟩ = some (.func (.func 108) #[] #[]) := by simp only [World.cell?, (hb1.block k (heap_lt hk)).trans hk]; rfl
  have x0 := cls_cell (n := w1.heap.size) a0 (by have := heap_lt hg; have := hb1.size; simp only; omega)
  have x1 := cls_cell (n := w1.heap.size) a1 (by have := heap_lt hg; have := hb1.size; simp only; omega)
  have x2 := cls_cell (n := w1.heap.size) a2 (by have := heap_lt hg; have := hb1.size; simp only; omega)
  have x3 := cls_cell (n := w1.heap.size) a3 (by have := heap_lt hg; have := hb1.size; simp only; omega)
  have x4 := cls_cell (n := w1.heap.size) a4 (by have := heap_lt hg; have := hb1.size; simp only; omega)
  have x5 := cls_cell (n := w1.heap.size) a5 (by have := heap_lt hg; have := hb1.size; simp only; omega)
  have x6 := cls_cell (n := w1.heap.size) a6 (by have := heap_lt hg; have := hb1.size; simp only; omega)
  have y0 := cls_cell (n := w1.heap.size) b0 (by have := HZ1.out; simp only; omega)
  have y1 := cls_cell (n := w1.heap.size) b1 (by have := HZ1.out; simp only; omega)
  have y2 := cls_cell (n := w1.heap.size) b2 (by have := HZ1.out; simp only; omega)
  have y3 := cls_cell (n := w1.heap.size) b3 (by have := HZ1.out; simp only; omega)
  have y4 := cls_cell (n := w1.heap.size) b4 (by have := HZ1.out; simp only; omega)
  have y5 := cls_cell (n := w1.heap.size) b5 (by have := HZ1.out; simp only; omega)
  have y6 := cls_cell (n := w1.heap.size) b6 (by have := HZ1.out; simp only; omega)
  have z0 := cls_cell (n := w1.heap.size) f0 (by have := heap_lt hk; have := hb1.size; simp only; omega)
  have HCy : Hid (∀ W, Below w1.heap.size w1 W → Calls Tryz.prog 108 #[.agg #[.string (strB y.name), .int .i64 y.params, .int .i64 y.slots, .int .i64 y.stack, .bool y.result, (.slice bj nj cj), (.slice bz nz cz)]] W fun e w' => e = .returned (.string (strB y.name)) ∧ Below w1.heap.size w1 w') := fun W hW => (cNameUnit_any y bj nj cj bz nz cz W).mono fun e w' ⟨he, hb⟩ => ⟨he, hW.trans (hb.mono hW.size)⟩
  have HCx : Hid (∀ W, Below w1.heap.size w1 W → Calls Tryz.prog 108 #[.agg #[.string (strB x.name), .int .i64 x.params, .int .i64 x.slots, .int .i64 x.stack, .bool x.result, (.slice bi ni ci), (.slice bv nv cv)]] W fun e w' => e = .returned (.string (strB x.name)) ∧ Below w1.heap.size w1 w') := fun W hW => (cNameUnit_any x bi ni ci bv nv cv W).mono fun e w' ⟨he, hb⟩ => ⟨he, hW.trans (hb.mono hW.size)⟩
  clear hk hg hw1 hb1 a0 a1 a2 a3 a4 a5 a6 b0 b1 b2 b3 b4 b5 b6 f0 h1 HZ1
  obtain ⟨R, hR⟩ : ∃ R, R = decide (y.name = x.name) := ⟨_, rfl⟩
  have HR : Hid (R = decide (y.name = x.name)) := hR
  rw [← hR]
  have hbq : (y.name == x.name) = R := by rw [beqL]; exact hR.symm
  clear hR
  go_enter Tryz.func141, Tryz.ntmps141
  go_upto_region 1 with fail
  rw [← HW1.out]
  refine wp_region_cls (n := w1.heap.size) (w0 := w1) (Below.refl _ _) (by kernel_rfl) (by kernel_rfl) ?_
  iterate 2 (go_big_quiet_step (fail))
  go_big_quiet_step (exact cls_calls HCy.out _)
  iterate 2 (go_big_quiet_step (fail))
  go_big_quiet_step (exact cls_calls HCx.out _)
  iterate 2 (go_big_quiet_step (fail))
  refine wpQuiet_nil ?_
  rintro _ ⟨c, rfl⟩
  obtain ⟨w5, hb5⟩ := c
  dsimp only
  have HB5 : Hid (Below w.heap.size w w5) := HB1.out.trans (hb5.mono HB1.out.size)
  clear hb5
  go_wp2
  go_ret
  exact ⟨rfl, HB5.out⟩

end Go.Proofs.YtechkkphbajmoaaGreatDoor
/- code: names that are all names, and different: at hindcast/api.Unit. -/
namespace Go.Proofs.YtechkkphbajmoaaGreatDoor
open Go.RowKit Go.Shelf

set_option maxRecDepth 100000 in
set_option maxHeartbeats 4000000 in
theorem cIndexUnit_any (S : Nat → Prop) (l : List Un) (v : Value) (k g : Nat) (p : Un → Bool) (w : World) (hin : unitsIn S w v l)
    (hk : ∀ x bi ni ci bv nv cv W, Below w.heap.size w W → Calls Tryz.prog 141 #[unV x (.slice bi ni ci) (.slice bv nv cv), .pointer (some ⟨k, 0, none⟩), .pointer (some ⟨g, 0, none⟩)] W fun e w' => e = .returned (.bool (p x)) ∧ Below w.heap.size w w') :
    Calls Tryz.prog 160 #[v, .func (.func 141) #[] #[.pointer (some ⟨k, 0, none⟩), .pointer (some ⟨g, 0, none⟩)]] w fun e w' => e = .returned (.int .i64 (fidx p l)) ∧ Below w.heap.size w w' := by
  obtain ⟨base, cap, rfl, hc1, hc2, hat⟩ := hin.at
  have HK : Hid (∀ x bi ni ci bv nv cv W, Below w.heap.size w W → Calls Tryz.prog 141 #[unV x (.slice bi ni ci) (.slice bv nv cv), .pointer (some ⟨k, 0, none⟩), .pointer (some ⟨g, 0, none⟩)] W fun e w' => e = .returned (.bool (p x)) ∧ Below w.heap.size w w') := hk
  have HAT : Hid (∀ i (hi : i < l.length), ∃ b o, base = some ⟨b, o, none⟩ ∧ S b ∧ b < w.heap.size ∧ (unE S) w b (o + i * 7) l[i]) := hat
  have hln : l.length ≤ 9223372036854775807 := by have : maxLen ≤ 9223372036854775807 := by decide
                                                  omega
  clear hat hin hk
  go_enter Tryz.func160, Tryz.ntmps160
  go_wp2
  go_loopw [8] (fun vi wr => ∃ i : Nat, i ≤ l.length ∧ vi = .int .i64 i ∧ (∀ j (h : j < l.length), j < i → p l[j] = false) ∧ Below w.heap.size w wr) (fun vi _ => l.length - (intOf vi).toNat)
  case atStart => exact ⟨0, Nat.zero_le _, rfl, fun j h hj => by omega, Below.refl _ _⟩
  case round =>
    obtain ⟨i, hi, rfl, hall, hbr⟩ := hrel
    have HA : Hid (∀ j (h : j < l.length), j < i → p l[j] = false) := hall
    have HB : Hid (Below w.heap.size w wr) := hbr
    clear hall hbr
    by_cases hlt : i < l.length
    · have hi2 : (i : Int) < l.length := by omega
      obtain ⟨b, o, rfl, -, hbl, hc⟩ := HAT.out i hlt
      obtain ⟨e0, e1, e2, e3, e4, ⟨vi, e5, hvi⟩, vv, e6, hvv⟩ := hc
      obtain ⟨bi, ci, rfl, -⟩ := hvi.at
      obtain ⟨bv, cv, rfl, -⟩ := hvv.at
      obtain ⟨ni, hni⟩ : ∃ n, n = l[i].ins.length := ⟨_, rfl⟩
      obtain ⟨nv, hnv⟩ : ∃ n, n = l[i].vars.length := ⟨_, rfl⟩
      rw [← hni] at e5
      rw [← hnv] at e6
      clear hni hnv hvi hvv
      obtain ⟨s, hs⟩ : ∃ s, s = l[i] := ⟨_, rfl⟩
      have HS : Hid (s = l[i]) := hs
      have hcc : ∀ q, wr.cell? ⟨b, q, none⟩ = w.cell? ⟨b, q, none⟩ := fun q => below_cell HB.out hbl
      rw [← hs] at e0 e1 e2 e3 e4
      rw [← hcc] at e0 e1 e2 e3 e4 e5 e6
      have cis := HK.out s bi ni ci bv nv cv wr HB.out
      obtain ⟨q, hq⟩ : ∃ q, q = p s := ⟨_, rfl⟩
      rw [← hq] at cis
      have HQ : Hid (q = p s) := hq
      clear hs hq hcc
      go_wp2_with fail
      refine cis.mono ?_
      clear cis
      rintro e w2 ⟨rfl, hb2⟩
      have HB1 : Hid (Below w.heap.size w w2) := hb2
      clear hb2
      cases q with
      | false =>
        go_wp2
        refine ⟨⟨i + 1, by omega, by go_num, fun j h hj => ?_, HB1.out⟩, by simp [intOf]; omega⟩
        by_cases hji : j < i
        · exact HA.out j h hji
        · obtain rfl : j = i := by omega
          rw [← HS.out]
          exact HQ.out.symm
      | true =>
        have HF : Hid (fidx p l = i) := fidx_at hlt (by rw [← HS.out]; exact HQ.out.symm) HA.out
        go_wp2
        go_ret
        rw [HF.out]
        exact ⟨rfl, HB1.out⟩
    · obtain rfl : i = l.length := by omega
      have hi2 : ¬ (l.length : Int) < l.length := by omega
      have HF : Hid (fidx p l = -1) := fidx_no fun j hj => HA.out j hj hj
      go_wp2
      go_ret
      rw [HF.out]
      exact ⟨rfl, HB.out⟩

set_option maxRecDepth 100000 in
set_option maxHeartbeats 4000000 in
theorem cHasUnit_any (S : Nat → Prop) (l : List Un) (v : Value) (k g : Nat) (p : Un → Bool) (w : World) (hin : unitsIn S w v l)
    (hk : ∀ x bi ni ci bv nv cv W, Below w.heap.size w W → Calls Tryz.prog 141 #[unV x (.slice bi ni ci) (.slice bv nv cv), .pointer (some ⟨k, 0, none⟩), .pointer (some ⟨g, 0, none⟩)] W fun e w' => e = .returned (.bool (p x)) ∧ Below w.heap.size w w') :
    Calls Tryz.prog 142 #[v, .func (.func 141) #[] #[.pointer (some ⟨k, 0, none⟩), .pointer (some ⟨g, 0, none⟩)]] w fun e w' => e = .returned (.bool (l.any p)) ∧ Below w.heap.size w w' := by
  have c := cIndexUnit_any S l v k g p w hin hk
  have HR : Hid (decide (0 ≤ fidx p l) = l.any p) := fidx_any
  obtain ⟨r, hr⟩ : ∃ r, r = fidx p l := ⟨_, rfl⟩
  obtain ⟨R, hR⟩ : ∃ R, R = l.any p := ⟨_, rfl⟩
  rw [← hr] at c HR
  rw [← hR] at HR ⊢
  obtain ⟨base, cap, rfl, -⟩ := hin.at
  clear hr hR hin hk
  go_enter Tryz.func142, Tryz.ntmps142
  go_wp2_with fail
  refine c.mono ?_
  clear c
  rintro e w2 ⟨rfl, hb2⟩
  have HB1 : Hid (Below w.heap.size w w2) := hb2
  clear hb2
  go_wp2
  go_ret
  rw [← HR.out]
  exact ⟨rfl, HB1.out⟩

set_option maxRecDepth 100000 in
set_option maxHeartbeats 4000000 in
theorem cNamedUnit_any (S : Nat → Prop) (l : List Un) (v : Value) (lo hi : Int) (w : World) (hin : unitsIn S w v l) (hl : ∀ x ∈ l, List.length x.name ≤ 1048576) (ht : TabsP w) :
    Calls Tryz.prog 107 #[v, .int .i64 lo, .int .i64 hi, .func (.func 108) #[] #[]] w fun e w' => e = .returned (.bool (namesR lo hi (l.map Un.name))) ∧ Below w.heap.size w w' := by
  have HIN : Hid (unitsIn S w v l) := hin
  obtain ⟨base, cap, rfl, hc1, hc2, hat⟩ := hin.at
  have HAT : Hid (∀ i (hi : i < l.length), ∃ b o, base = some ⟨b, o, none⟩ ∧ S b ∧ b < w.heap.size ∧ (unE S) w b (o + i * 7) l[i]) := hat
  have hln : l.length ≤ 9223372036854775807 := by have : maxLen ≤ 9223372036854775807 := by decide
                                                  omega
  obtain ⟨w1, hw1, hb1, HZ1, h1⟩ := box1 w (.cells #[.func (.func 108) #[] #[]] 152)
  have HW1 : Hid (w1 = w.alloc (.cells #[.func (.func 108) #[] #[]] 152)) := hw1
  have HB1 : Hid (Below w.heap.size w w1) := hb1
  have H1 : Hid (w1.heap[w.heap.size]? = some (.cells #[.func (.func 108) #[] #[]] 152 (0, 0))) := h1
  have HT : Hid (TabsP w1) := ht.below hb1 (Nat.le_refl _)
  have HL : Hid (∀ x ∈ l, List.length x.name ≤ 1048576) := hl
  have c1 := cIsIn_any (l.length : Int) lo hi w1
  obtain ⟨q1, hq1⟩ : ∃ q, q = decide (lo ≤ (l.length : Int) ∧ (l.length : Int) ≤ hi) := ⟨_, rfl⟩
  rw [← hq1] at c1
  have HQ1 : Hid (q1 = decide (lo ≤ ((l.map Un.name).length : Int) ∧ ((l.map Un.name).length : Int) ≤ hi)) := by
    show _ = _
    rw [hq1, List.length_map]
  obtain ⟨R, hR⟩ : ∃ R, R = namesR lo hi (l.map Un.name) := ⟨_, rfl⟩
  have HRD : Hid (R = namesR lo hi (l.map Un.name)) := hR
  rw [← hR]
  clear hat hin hw1 hb1 h1 ht hl hq1 hR
  go_enter Tryz.func107, Tryz.ntmps107
  go_wp2_with fail
  rw [← HW1.out]
  refine c1.mono ?_
  clear c1
  rintro e w2 ⟨rfl, hb2⟩
  have HB2 : Hid (Below w1.heap.size w1 w2) := hb2
  clear hb2
  cases q1 with
  | false =>
    have HR : Hid (R = false) := by
      show _ = _
      rw [HRD.out]; exact namesR_no HQ1.out.symm
    go_wp2
    go_ret
    rw [HR.out]
    exact ⟨rfl, HB1.out.trans (HB2.out.mono HB1.out.size)⟩
  | true =>
  go_wp2
  go_loopw [20] (fun vi wr => ∃ i : Nat, i ≤ l.length ∧ vi = .int .i64 i ∧ (∀ j (h : j < l.length), j < i → backB 1 0 l[j].name ∧ l[j].name ∉ (l.map Un.name).take j) ∧ Below w1.heap.size w1 wr) (fun vi _ => l.length - (intOf vi).toNat)
  case atStart => exact ⟨0, Nat.zero_le _, rfl, fun j h hj => by omega, HB2.out⟩
  case round =>
    obtain ⟨i, hi', rfl, hall, hbr⟩ := hrel
    have HA : Hid (∀ j (h : j < l.length), j < i → backB 1 0 l[j].name ∧ l[j].name ∉ (l.map Un.name).take j) := hall
    have HB : Hid (Below w1.heap.size w1 wr) := hbr
    clear hall hbr
    by_cases hlt : i < l.length
    · have hi2 : (i : Int) < l.length := by omega
      obtain ⟨b, o, rfl, -, hbl, hc⟩ := HAT.out i hlt
      obtain ⟨e0, e1, e2, e3, e4, ⟨vi, e5, hvi⟩, vv, e6, hvv⟩ := hc
      obtain ⟨bi, ci, rfl, -⟩ := hvi.at
      obtain ⟨bv, cv, rfl, -⟩ := hvv.at
      obtain ⟨ni, hni⟩ : ∃ n, n = l[i].ins.length := ⟨_, rfl⟩
      obtain ⟨nv, hnv⟩ : ∃ n, n = l[i].vars.length := ⟨_, rfl⟩
      rw [← hni] at e5
      rw [← hnv] at e6
      clear hni hnv hvi hvv
      obtain ⟨s, hs⟩ : ∃ s, s = l[i] := ⟨_, rfl⟩
      have HS : Hid (s = l[i]) := hs
      have hbw : Below w.heap.size w wr := HB1.out.trans (HB.out.mono HB1.out.size)
      have HBW : Hid (Below w.heap.size w wr) := hbw
      have hcc : ∀ q, wr.cell? ⟨b, q, none⟩ = w.cell? ⟨b, q, none⟩ := fun q => below_cell hbw hbl
      rw [← hs] at e0 e1 e2 e3 e4
      rw [← hcc] at e0 e1 e2 e3 e4 e5 e6
      obtain ⟨w3, hw3, hb3, HZ3, h3⟩ := box1 wr (.cells #[.string (strB s.name), .int .i64 s.params, .int .i64 s.slots, .int .i64 s.stack, .bool s.result, .slice bi ni ci, .slice bv nv cv] 58)
      have HW3 : Hid (w3 = wr.alloc (.cells #[.string (strB s.name), .int .i64 s.params, .int .i64 s.slots, .int .i64 s.stack, .bool s.result, .slice bi ni ci, .slice bv nv cv] 58)) := hw3
      have HB3 : Hid (Below wr.heap.size wr w3) := hb3
      have H3 : Hid (w3.heap[wr.heap.size]? = some (.cells #[.string (strB s.name), .int .i64 s.params, .int .i64 s.slots, .int .i64 s.stack, .bool s.result, .slice bi ni ci, .slice bv nv cv] 58 (0, 0))) := h3
      have hkw : w.heap.size < w1.heap.size := by have := HZ1.out; omega
      have HKR : Hid (wr.heap[w.heap.size]? = some (.cells #[.func (.func 108) #[] #[]] 152 (0, 0))) := (HB.out.block _ hkw).trans H1.out
      have f0 : wr.cell? ⟨w.heap.size, 0, none⟩ = some (.func (.func 108) #[] #[]) := by simp only [World.cell?, HKR.out]; rfl
      have hkr : w.heap.size < wr.heap.size := Nat.lt_of_lt_of_le hkw HB.out.size
      have cn := cNameUnit_any s bi ni ci bv nv cv w3
      clear hs hcc hw3 hb3 h3 hbw hkw
      go_wp2_with fail
      rw [← HW3.out]
      refine cn.mono ?_
      clear cn
      rintro e w4 ⟨rfl, hb4⟩
      have HB4 : Hid (Below wr.heap.size wr w4) := HB3.out.trans (hb4.mono HB3.out.size)
      have H4 : Hid (w4.heap[wr.heap.size]? = some (.cells #[.string (strB s.name), .int .i64 s.params, .int .i64 s.slots, .int .i64 s.stack, .bool s.result, .slice bi ni ci, .slice bv nv cv] 58 (0, 0))) := (hb4.block _ (by have := HZ3.out; omega)).trans H3.out
      have hz4 : Hid (wr.heap.size < w4.heap.size) := by have := HZ3.out; have := hb4.size; show _ < _; omega
      have ci := cIsName_any s.name w4 (HL.out s (by rw [HS.out]; exact List.getElem_mem hlt)) (HT.out.below (HB.out.trans (HB4.out.mono HB.out.size)) (Nat.le_refl _))
      obtain ⟨q, hq⟩ : ∃ q, q = decide (backB 1 0 s.name) := ⟨_, rfl⟩
      rw [← hq] at ci
      have HQ : Hid (q = decide (backB 1 0 s.name)) := hq
      clear hb4 hq
      go_wp2_with fail
      refine ci.mono ?_
      clear ci
      rintro e w5 ⟨rfl, hb5⟩
      have HB5 : Hid (Below wr.heap.size wr w5) := HB4.out.trans (hb5.mono HB4.out.size)
      have H5 : Hid (w5.heap[wr.heap.size]? = some (.cells #[.string (strB s.name), .int .i64 s.params, .int .i64 s.slots, .int .i64 s.stack, .bool s.result, .slice bi ni ci, .slice bv nv cv] 58 (0, 0))) := (hb5.block _ hz4.out).trans H4.out
      have HK5 : Hid (w5.heap[w.heap.size]? = some (.cells #[.func (.func 108) #[] #[]] 152 (0, 0))) := (HB5.out.block _ hkr).trans HKR.out
      clear hb5
      cases q with
      | false =>
        have HR : Hid (R = false) := by
          show _ = _
          rw [HRD.out]
          refine namesR_bad (i := i) (by rw [List.length_map]; exact hlt) fun h => ?_
          have hb : backB 1 0 s.name := by
            have hb := h.1
            rw [List.getElem_map, ← HS.out] at hb
            exact hb
          exact absurd HQ.out (by rw [decide_eq_true hb]; simp)
        go_wp2
        go_ret
        rw [HR.out]
        exact ⟨rfl, HBW.out.trans (HB5.out.mono HBW.out.size)⟩
      | true =>
        have hicap : i ≤ cap := by omega
        have cc := cHasUnit_any S (l.take i) (.slice (some ⟨b, o, none⟩) i cap) w.heap.size wr.heap.size (fun y => decide (y.name = s.name)) w5 ((rowIn.cut (rowIn.kept HIN.out (unE_keeps S) (HBW.out.trans (HB5.out.mono HBW.out.size)).size fun q _ hq => (HBW.out.trans (HB5.out.mono HBW.out.size)).block q hq) (Nat.le_of_lt hlt))) (fun y bj nj cj bz nz cz W hW => by
          exact (cSameUnit_any w.heap.size wr.heap.size s y bi ni ci bv nv cv bj nj cj bz nz cz W ((hW.block _ (heap_lt HK5.out)).trans HK5.out) ((hW.block _ (heap_lt H5.out)).trans H5.out)).mono fun e w' ⟨he, hb⟩ => ⟨he, hW.trans (hb.mono hW.size)⟩)
        obtain ⟨q2, hq2⟩ : ∃ q, q = (l.take i).any (fun y => decide (y.name = s.name)) := ⟨_, rfl⟩
        rw [← hq2] at cc
        have HQ2 : Hid (q2 = true ↔ s.name ∈ (l.map Un.name).take i) := by
          show _ ↔ _
          rw [hq2]
          exact any_name Un.name l i s.name
        clear hq2
        go_wp2_with fail
        refine cc.mono ?_
        clear cc
        rintro e w6 ⟨rfl, hb6⟩
        have HB6 : Hid (Below wr.heap.size wr w6) := HB5.out.trans (hb6.mono HB5.out.size)
        clear hb6
        cases q2 with
        | true =>
          have HR : Hid (R = false) := by
            show _ = _
            rw [HRD.out]
            refine namesR_bad (i := i) (by rw [List.length_map]; exact hlt) fun h => ?_
            have hb := h.2
            rw [List.getElem_map, ← HS.out] at hb
            exact hb (HQ2.out.1 rfl)
          go_wp2
          go_ret
          rw [HR.out]
          exact ⟨rfl, HBW.out.trans (HB6.out.mono HBW.out.size)⟩
        | false =>
          go_wp2
          refine ⟨⟨i + 1, by omega, by go_num, fun j h hj => ?_, HB.out.trans (HB6.out.mono HB.out.size)⟩, by simp [intOf]; omega⟩
          by_cases hji : j < i
          · exact HA.out j h hji
          · obtain rfl : j = i := by omega
            rw [← HS.out]
            exact ⟨of_decide_eq_true HQ.out.symm, fun hm => absurd (HQ2.out.2 hm) (by simp)⟩
    · obtain rfl : i = l.length := by omega
      have hi2 : ¬ (l.length : Int) < l.length := by omega
      have HR : Hid (R = true) := by
        show _ = _
        rw [HRD.out]
        refine namesR_ok HQ1.out.symm fun i h => ?_
        have h2 : i < l.length := by rw [List.length_map] at h; exact h
        have := HA.out i h2 h2
        rw [List.getElem_map]
        exact this
      go_wp2
      go_ret
      rw [HR.out]
      exact ⟨rfl, HB1.out.trans (HB.out.mono HB1.out.size)⟩
end Go.Proofs.YtechkkphbajmoaaGreatDoor
/- code: every variable of a row. -/
namespace Go.Proofs.YtechkkphbajmoaaGreatDoor
open Go.RowKit Go.Shelf

set_option maxRecDepth 100000 in
set_option maxHeartbeats 4000000 in
theorem everyVar_any (S : Nat → Prop) (l : List Vr) (v : Value) (g : Nat) (p : Vr → Bool) (w : World) (hin : varsIn S w v l)
    (hk : ∀ x W, x ∈ l → Below w.heap.size w W → Calls Tryz.prog 111 #[vrV x, .pointer (some ⟨g, 0, none⟩)] W fun e w' => e = .returned (.bool (p x)) ∧ Below w.heap.size w w') :
    Calls Tryz.prog 110 #[v, .func (.func 111) #[] #[.pointer (some ⟨g, 0, none⟩)]] w fun e w' => e = .returned (.bool (l.all p)) ∧ Below w.heap.size w w' := by
  obtain ⟨base, cap, rfl, hc1, hc2, hat⟩ := hin.at
  have HK : Hid (∀ x W, x ∈ l → Below w.heap.size w W → Calls Tryz.prog 111 #[vrV x, .pointer (some ⟨g, 0, none⟩)] W fun e w' => e = .returned (.bool (p x)) ∧ Below w.heap.size w w') := hk
  have HAT : Hid (∀ i (hi : i < l.length), ∃ b o, base = some ⟨b, o, none⟩ ∧ S b ∧ b < w.heap.size ∧ varE w b (o + i * 4) l[i]) := hat
  have hln : l.length ≤ 9223372036854775807 := by have : maxLen ≤ 9223372036854775807 := by decide
                                                  omega
  clear hat hin hk
  go_enter Tryz.func110, Tryz.ntmps110
  go_wp2
  go_loopw [9] (fun vi wr => ∃ i : Nat, i ≤ l.length ∧ vi = .int .i64 i ∧ (∀ j (h : j < l.length), j < i → p l[j] = true) ∧ Below w.heap.size w wr) (fun vi _ => l.length - (intOf vi).toNat)
  case atStart => exact ⟨0, Nat.zero_le _, rfl, fun j h hj => by omega, Below.refl _ _⟩
  case round =>
    obtain ⟨i, hi, rfl, hall, hbr⟩ := hrel
    have HA : Hid (∀ j (h : j < l.length), j < i → p l[j] = true) := hall
    have HB : Hid (Below w.heap.size w wr) := hbr
    clear hall hbr
    by_cases hlt : i < l.length
    · have hi2 : (i : Int) < l.length := by omega
      obtain ⟨b, o, rfl, -, hbl, hc⟩ := HAT.out i hlt
      obtain ⟨s, hs⟩ : ∃ s, s = l[i] := ⟨_, rfl⟩
      have HS : Hid (s = l[i]) := hs
      rw [← hs] at hc
      have hcc : ∀ q, wr.cell? ⟨b, q, none⟩ = w.cell? ⟨b, q, none⟩ := fun q => below_cell HB.out hbl
      obtain ⟨e0, e1, e2, e3⟩ := hc
      rw [← hcc] at e0 e1 e2 e3
      obtain ⟨w1, hw1, hb1, HZ1, h1⟩ := box1 wr (.cells #[.string (strB s.name), .int .i64 s.slot, .int .i64 s.lo, .int .i64 s.hi] 121)
      have HW1 : Hid (w1 = wr.alloc (.cells #[.string (strB s.name), .int .i64 s.slot, .int .i64 s.lo, .int .i64 s.hi] 121)) := hw1
      have cis := HK.out s w1 (by rw [hs]; exact List.getElem_mem hlt) (HB.out.trans (hb1.mono HB.out.size))
      obtain ⟨q, hq⟩ : ∃ q, q = p s := ⟨_, rfl⟩
      rw [← hq] at cis
      have HQ : Hid (q = p s) := hq
      clear hs hq hcc hw1 hb1 HZ1 h1
      go_wp2_with fail
      rw [← HW1.out]
      refine cis.mono ?_
      clear cis e0 e1 e2 e3
      rintro e w2 ⟨rfl, hb2⟩
      have HB1 : Hid (Below w.heap.size w w2) := hb2
      clear hb2
      cases q with
      | true =>
        go_wp2
        refine ⟨⟨i + 1, by omega, by go_num, fun j h hj => ?_, HB1.out⟩, by simp [intOf]; omega⟩
        by_cases hji : j < i
        · exact HA.out j h hji
        · obtain rfl : j = i := by omega
          rw [← HS.out]
          exact HQ.out.symm
      | false =>
        have HF : Hid (l.all p = false) := all_false hlt (by rw [← HS.out]; exact HQ.out.symm)
        go_wp2
        go_ret
        rw [HF.out]
        exact ⟨rfl, HB1.out⟩
    · obtain rfl : i = l.length := by omega
      have hi2 : ¬ (l.length : Int) < l.length := by omega
      have HF : Hid (l.all p = true) := all_true fun j hj => HA.out j hj hj
      go_wp2
      go_ret
      rw [HF.out]
      exact ⟨rfl, HB.out⟩
end Go.Proofs.YtechkkphbajmoaaGreatDoor
/- code: every instruction of a row. -/
namespace Go.Proofs.YtechkkphbajmoaaGreatDoor
open Go.RowKit Go.Shelf

set_option maxRecDepth 100000 in
set_option maxHeartbeats 4000000 in
theorem everyIns_any (S : Nat → Prop) (l : List In7) (v : Value) (k g : Nat) (p : In7 → Bool) (w : World) (hin : insIn S w v l)
    (hk : ∀ x W, x ∈ l → Below w.heap.size w W → Calls Tryz.prog 114 #[inV x, .pointer (some ⟨k, 0, none⟩), .pointer (some ⟨g, 0, none⟩)] W fun e w' => e = .returned (.bool (p x)) ∧ Below w.heap.size w w') :
    Calls Tryz.prog 113 #[v, .func (.func 114) #[] #[.pointer (some ⟨k, 0, none⟩), .pointer (some ⟨g, 0, none⟩)]] w fun e w' => e = .returned (.bool (l.all p)) ∧ Below w.heap.size w w' := by
  obtain ⟨base, cap, rfl, hc1, hc2, hat⟩ := hin.at
  have HK : Hid (∀ x W, x ∈ l → Below w.heap.size w W → Calls Tryz.prog 114 #[inV x, .pointer (some ⟨k, 0, none⟩), .pointer (some ⟨g, 0, none⟩)] W fun e w' => e = .returned (.bool (p x)) ∧ Below w.heap.size w w') := hk
  have HAT : Hid (∀ i (hi : i < l.length), ∃ b o, base = some ⟨b, o, none⟩ ∧ S b ∧ b < w.heap.size ∧ insE w b (o + i * 2) l[i]) := hat
  have hln : l.length ≤ 9223372036854775807 := by have : maxLen ≤ 9223372036854775807 := by decide
                                                  omega
  clear hat hin hk
  go_enter Tryz.func113, Tryz.ntmps113
  go_wp2
  go_loopw [9] (fun vi wr => ∃ i : Nat, i ≤ l.length ∧ vi = .int .i64 i ∧ (∀ j (h : j < l.length), j < i → p l[j] = true) ∧ Below w.heap.size w wr) (fun vi _ => l.length - (intOf vi).toNat)
  case atStart => exact ⟨0, Nat.zero_le _, rfl, fun j h hj => by omega, Below.refl _ _⟩
  case round =>
    obtain ⟨i, hi, rfl, hall, hbr⟩ := hrel
    have HA : Hid (∀ j (h : j < l.length), j < i → p l[j] = true) := hall
    have HB : Hid (Below w.heap.size w wr) := hbr
    clear hall hbr
    by_cases hlt : i < l.length
    · have hi2 : (i : Int) < l.length := by omega
      obtain ⟨b, o, rfl, -, hbl, hc⟩ := HAT.out i hlt
      obtain ⟨s, hs⟩ : ∃ s, s = l[i] := ⟨_, rfl⟩
      have HS : Hid (s = l[i]) := hs
      have hcc : ∀ q, wr.cell? ⟨b, q, none⟩ = w.cell? ⟨b, q, none⟩ := fun q => below_cell HB.out hbl
      rw [← hs] at hc
      obtain ⟨e0, e1⟩ := hc
      rw [← hcc] at e0 e1
      obtain ⟨w1, hw1, hb1, HZ1, h1⟩ := box1 wr (.cells #[.int .i64 s.op, .int .i64 s.a] 62)
      have HW1 : Hid (w1 = wr.alloc (.cells #[.int .i64 s.op, .int .i64 s.a] 62)) := hw1
      have cis := HK.out l[i] w1 (List.getElem_mem hlt) (HB.out.trans (hb1.mono HB.out.size))
      rw [← hs] at cis
      obtain ⟨q, hq⟩ : ∃ q, q = p s := ⟨_, rfl⟩
      rw [← hq] at cis
      have HQ : Hid (q = p s) := hq
      clear hs hq hcc hw1 hb1 HZ1 h1
      go_wp2_with fail
      rw [← HW1.out]
      refine cis.mono ?_
      clear cis
      rintro e w2 ⟨rfl, hb2⟩
      have HB1 : Hid (Below w.heap.size w w2) := hb2
      clear hb2
      cases q with
      | true =>
        go_wp2
        refine ⟨⟨i + 1, by omega, by go_num, fun j h hj => ?_, HB1.out⟩, by simp [intOf]; omega⟩
        by_cases hji : j < i
        · exact HA.out j h hji
        · obtain rfl : j = i := by omega
          rw [← HS.out]
          exact HQ.out.symm
      | false =>
        have HF : Hid (l.all p = false) := all_false hlt (by rw [← HS.out]; exact HQ.out.symm)
        go_wp2
        go_ret
        rw [HF.out]
        exact ⟨rfl, HB1.out⟩
    · obtain rfl : i = l.length := by omega
      have hi2 : ¬ (l.length : Int) < l.length := by omega
      have HF : Hid (l.all p = true) := all_true fun j hj => HA.out j hj hj
      go_wp2
      go_ret
      rw [HF.out]
      exact ⟨rfl, HB.out⟩

end Go.Proofs.YtechkkphbajmoaaGreatDoor
/- code: is a unit right, but for its heights. -/
namespace Go.Proofs.YtechkkphbajmoaaGreatDoor
open Go.RowKit Go.Shelf

/-- A unit is right, but for its heights. -/
def unitR (ns nh nu : Nat) (u : Un) : Bool := decide (0 ≤ u.params ∧ u.params ≤ 8) && (decide (u.params ≤ u.slots ∧ u.slots ≤ 32) && (decide (0 ≤ u.stack ∧ u.stack ≤ 256) && (decide (1 ≤ (u.ins.length : Int) ∧ (u.ins.length : Int) ≤ 4096) && (u.vars.all (varR u.slots u.ins.length) && u.ins.all (insR ns nh nu u.ins.length u.slots u.result)))))

set_option maxRecDepth 100000 in
set_option maxHeartbeats 4000000 in
theorem cRightUnit_any (S : Nat → Prop) (bs bh bu bi bv : Option Addr) (ns cs nh ch nu cu ni ci nv cv : Nat) (m : Int) (u : Un) (h1 : ns ≤ 1048576) (h2 : nh ≤ 1048576) (h3 : nu ≤ 1048576) (w : World) (hii : insIn S w (.slice bi ni ci) u.ins) (hvv : varsIn S w (.slice bv nv cv) u.vars)
    (hl : ∀ v ∈ u.vars, v.name.length ≤ 1048576) (ht : TabsP w) (hot : OpT w) :
    Calls Tryz.prog 63 #[cdV (.slice bs ns cs) (.slice bh nh ch) (.slice bu nu cu) m, unV u (.slice bi ni ci) (.slice bv nv cv)] w fun e w' => e = .returned (.bool (unitR ns nh nu u)) ∧ Below w.heap.size w w' := by
  obtain ⟨name, params, slots, stack, result, ins, vars⟩ := u
  simp only at hii hvv hl ⊢
  obtain ⟨hni, -⟩ : ni = ins.length ∧ True := ⟨by obtain ⟨b, c, e, -⟩ := hii.at; cases e; rfl, trivial⟩
  obtain ⟨w2, hw2, hb2, HZ2, h0, hu⟩ := box2 w (.cells #[.slice bs ns cs, .slice bh nh ch, .slice bu nu cu, .int .i64 m] 26) (.cells #[.string (strB name), .int .i64 params, .int .i64 slots, .int .i64 stack, .bool result, .slice bi ni ci, .slice bv nv cv] 58)
  have HW2 : Hid (w2 = (w.alloc (.cells #[.slice bs ns cs, .slice bh nh ch, .slice bu nu cu, .int .i64 m] 26)).alloc (.cells #[.string (strB name), .int .i64 params, .int .i64 slots, .int .i64 stack, .bool result, .slice bi ni ci, .slice bv nv cv] 58)) := hw2
  have HB2 : Hid (Below w.heap.size w w2) := hb2
  have HF : Hid (∀ W, Below w2.heap.size w2 W → (W.cell? ⟨w.heap.size + 1, 1, none⟩ = some (.int .i64 params) ∧ W.cell? ⟨w.heap.size + 1, 2, none⟩ = some (.int .i64 slots) ∧ W.cell? ⟨w.heap.size + 1, 3, none⟩ = some (.int .i64 stack) ∧ W.cell? ⟨w.heap.size + 1, 5, none⟩ = some (.slice bi ni ci) ∧ W.cell? ⟨w.heap.size + 1, 6, none⟩ = some (.slice bv nv cv))) := fun W hW => by
    have hz := HZ2.out
    obtain ⟨-, a1, a2, a3, -, a5, a6⟩ := cells7 ((hW.block (w.heap.size + 1) (by omega)).trans hu)
    exact ⟨a1, a2, a3, a5, a6⟩
  have HV : Hid (∀ W, Below w2.heap.size w2 W → 0 ≤ slots ∧ slots ≤ 32 → Calls Tryz.prog 110 #[.slice bv nv cv, .func (.func 111) #[] #[.pointer (some ⟨w.heap.size + 1, 0, none⟩)]] W fun e w' => e = .returned (.bool (vars.all (varR slots ins.length))) ∧ Below W.heap.size W w') := fun W hW hs => by
    have hz := HZ2.out
    have hWw : Below w.heap.size w W := hb2.trans (hW.mono hb2.size)
    refine everyVar_any S vars (.slice bv nv cv) (w.heap.size + 1) (varR slots ins.length) W (rowIn.kept hvv (varE_keeps S) hWw.size fun q _ hq => hWw.block q hq) fun x W' hx hW' => ?_
    have hWw' : Below w.heap.size w W' := hWw.trans (hW'.mono hWw.size)
    have := cUnit1_any (w.heap.size + 1) ⟨name, params, slots, stack, result, ins, vars⟩ bi bv ni ci nv cv x hs (hl x hx) W' (ht.below hWw' (Nat.le_refl _)) ((hW'.block _ (by have := hW.size; omega)).trans ((hW.block _ (by omega)).trans hu))
    rw [hni] at this
    rw [hni] at hu
    exact this.mono fun e w' ⟨he, hb⟩ => ⟨he, hW'.trans (hb.mono hW'.size)⟩
  have HI : Hid (∀ W, Below w2.heap.size w2 W → 0 ≤ slots ∧ slots ≤ 32 → ins.length ≤ 1048576 → Calls Tryz.prog 113 #[.slice bi ni ci, .func (.func 114) #[] #[.pointer (some ⟨w.heap.size, 0, none⟩), .pointer (some ⟨w.heap.size + 1, 0, none⟩)]] W fun e w' => e = .returned (.bool (ins.all (insR ns nh nu ins.length slots result))) ∧ Below W.heap.size W w') := fun W hW hs hil => by
    have hz := HZ2.out
    have hWw : Below w.heap.size w W := hb2.trans (hW.mono hb2.size)
    refine everyIns_any S ins (.slice bi ni ci) w.heap.size (w.heap.size + 1) (insR ns nh nu ins.length slots result) W (rowIn.kept hii (insE_keeps S) hWw.size fun q _ hq => hWw.block q hq) fun x W' hx hW' => ?_
    have hWw' : Below w.heap.size w W' := hWw.trans (hW'.mono hWw.size)
    have := cUnit2_any w.heap.size (w.heap.size + 1) bs bh bu bi bv ns cs nh ch nu cu ni ci nv cv m ⟨name, params, slots, stack, result, ins, vars⟩ x h1 h2 h3 (by rw [hni]; exact hil) hs W' (hot.below hWw' (Nat.le_refl _)) ((hW'.block _ (by have := hW.size; omega)).trans ((hW.block _ (by omega)).trans h0)) ((hW'.block _ (by have := hW.size; omega)).trans ((hW.block _ (by omega)).trans hu))
    rw [hni] at this
    exact this.mono fun e w' ⟨he, hb⟩ => ⟨he, hW'.trans (hb.mono hW'.size)⟩
  obtain ⟨q1, hq1⟩ : ∃ q, q = decide (0 ≤ params ∧ params ≤ 8) := ⟨_, rfl⟩
  obtain ⟨q2, hq2⟩ : ∃ q, q = decide (params ≤ slots ∧ slots ≤ 32) := ⟨_, rfl⟩
  obtain ⟨q3, hq3⟩ : ∃ q, q = decide (0 ≤ stack ∧ stack ≤ 256) := ⟨_, rfl⟩
  obtain ⟨q4, hq4⟩ : ∃ q, q = decide (1 ≤ (ni : Int) ∧ (ni : Int) ≤ 4096) := ⟨_, rfl⟩
  obtain ⟨q5, hq5⟩ : ∃ q, q = vars.all (varR slots ins.length) := ⟨_, rfl⟩
  obtain ⟨q6, hq6⟩ : ∃ q, q = ins.all (insR ns nh nu ins.length slots result) := ⟨_, rfl⟩
  have HR : Hid (unitR ns nh nu ⟨name, params, slots, stack, result, ins, vars⟩ = (q1 && (q2 && (q3 && (q4 && (q5 && q6)))))) := by
    show _ = _
    rw [hq1, hq2, hq3, hq4, hq5, hq6, hni]; rfl
  obtain ⟨R, hR⟩ : ∃ R, R = unitR ns nh nu ⟨name, params, slots, stack, result, ins, vars⟩ := ⟨_, rfl⟩
  rw [← hR] at HR ⊢
  have C1 : Hid (∀ W, Calls Tryz.prog 23 #[.int .i64 params, .int .i64 0, .int .i64 8] W fun e w' => e = .returned (.bool q1) ∧ Below W.heap.size W w') := fun W => by rw [hq1]; exact cIsIn_any params 0 8 W
  have C2 : Hid (∀ W, Calls Tryz.prog 23 #[.int .i64 slots, .int .i64 params, .int .i64 32] W fun e w' => e = .returned (.bool q2) ∧ Below W.heap.size W w') := fun W => by rw [hq2]; exact cIsIn_any slots params 32 W
  have C3 : Hid (∀ W, Calls Tryz.prog 23 #[.int .i64 stack, .int .i64 0, .int .i64 256] W fun e w' => e = .returned (.bool q3) ∧ Below W.heap.size W w') := fun W => by rw [hq3]; exact cIsIn_any stack 0 256 W
  have C4 : Hid (∀ W, Calls Tryz.prog 23 #[.int .i64 ni, .int .i64 1, .int .i64 4096] W fun e w' => e = .returned (.bool q4) ∧ Below W.heap.size W w') := fun W => by rw [hq4]; exact cIsIn_any ni 1 4096 W
  rw [← hq5] at HV
  rw [← hq6] at HI
  have HS : Hid (q1 = true → q2 = true → 0 ≤ slots ∧ slots ≤ 32) := fun e1 e2 => by
    rw [hq1] at e1; rw [hq2] at e2
    have a := of_decide_eq_true e1
    have b := of_decide_eq_true e2
    omega
  have HN : Hid (q4 = true → ins.length ≤ 1048576) := fun e4 => by
    rw [hq4] at e4
    have a := of_decide_eq_true e4
    omega
  have c1 := C1.out w2
  clear hw2 hb2 h0 hu hq1 hq2 hq3 hq4 hq5 hq6 hR ht hot hl HZ2 hii hvv hni h1 h2 h3
  go_enter Tryz.func63, Tryz.ntmps63
  go_wp2_with fail
  rw [← HW2.out]
  refine c1.mono ?_
  clear c1
  rintro e v1 ⟨rfl, hb3⟩
  have HV1 : Hid (Below w2.heap.size w2 v1) := hb3
  clear hb3
  cases q1 with
  | false =>
    go_wp2
    go_ret
    rw [HR.out]
    exact ⟨rfl, HB2.out.trans (HV1.out.mono HB2.out.size)⟩
  | true =>
    obtain ⟨a1, a2, a3, a5, a6⟩ := HF.out v1 HV1.out
    have c := C2.out v1
    go_wp2_with fail
    refine c.mono ?_
    clear c a1 a2 a3 a5 a6
    rintro e v2 ⟨rfl, hb2⟩
    have HV2 : Hid (Below w2.heap.size w2 v2) := HV1.out.trans (hb2.mono HV1.out.size)
    clear hb2
    cases q2 with
    | false =>
      go_wp2
      go_ret
      rw [HR.out]
      exact ⟨rfl, HB2.out.trans (HV2.out.mono HB2.out.size)⟩
    | true =>
      obtain ⟨a1, a2, a3, a5, a6⟩ := HF.out v2 HV2.out
      have c := C3.out v2
      go_wp2_with fail
      refine c.mono ?_
      clear c a1 a2 a3 a5 a6
      rintro e v3 ⟨rfl, hb3⟩
      have HV3 : Hid (Below w2.heap.size w2 v3) := HV2.out.trans (hb3.mono HV2.out.size)
      clear hb3
      cases q3 with
      | false =>
        go_wp2
        go_ret
        rw [HR.out]
        exact ⟨rfl, HB2.out.trans (HV3.out.mono HB2.out.size)⟩
      | true =>
        obtain ⟨a1, a2, a3, a5, a6⟩ := HF.out v3 HV3.out
        have c := C4.out v3
        go_wp2_with fail
        refine c.mono ?_
        clear c a1 a2 a3 a5 a6
        rintro e v4 ⟨rfl, hb4⟩
        have HV4 : Hid (Below w2.heap.size w2 v4) := HV3.out.trans (hb4.mono HV3.out.size)
        clear hb4
        cases q4 with
        | false =>
          go_wp2
          go_ret
          rw [HR.out]
          exact ⟨rfl, HB2.out.trans (HV4.out.mono HB2.out.size)⟩
        | true =>
          obtain ⟨a1, a2, a3, a5, a6⟩ := HF.out v4 HV4.out
          have c := HV.out v4 HV4.out (HS.out (by simp) (by simp))
          go_wp2_with fail
          refine c.mono ?_
          clear c a1 a2 a3 a5 a6
          rintro e v5 ⟨rfl, hb5⟩
          have HV5 : Hid (Below w2.heap.size w2 v5) := HV4.out.trans (hb5.mono HV4.out.size)
          clear hb5
          cases q5 with
          | false =>
            go_wp2
            go_ret
            rw [HR.out]
            exact ⟨rfl, HB2.out.trans (HV5.out.mono HB2.out.size)⟩
          | true =>
            obtain ⟨a1, a2, a3, a5, a6⟩ := HF.out v5 HV5.out
            have c := HI.out v5 HV5.out (HS.out (by simp) (by simp)) (HN.out (by simp))
            go_wp2_with fail
            refine c.mono ?_
            clear c a1 a2 a3 a5 a6
            rintro e v6 ⟨rfl, hb6⟩
            have HV6 : Hid (Below w2.heap.size w2 v6) := HV5.out.trans (hb6.mono HV5.out.size)
            clear hb6
            go_wp2
            go_ret
            rw [HR.out]
            exact ⟨rfl, HB2.out.trans (HV6.out.mono HB2.out.size)⟩
end Go.Proofs.YtechkkphbajmoaaGreatDoor
/- code: is a code right, but for what is in its units. -/
namespace Go.Proofs.YtechkkphbajmoaaGreatDoor
open Go.RowKit Go.Shelf

def shR (x : Sh) : Bool := namesR 1 8 x.fields
def mainR (c : Cd) : Bool := decide (0 ≤ c.main ∧ c.main ≤ (c.units.length : Int) - 1) && (match c.units[c.main.toNat]? with
  | some u => decide (u.params = 0) && !u.result
  | none => false)
def outR (c : Cd) : Bool := decide ((c.strs.length : Int) ≤ 1024) && (c.strs.all (fun s => decide (backB 3 0 s)) && (namesR 0 16 (c.shapes.map Sh.name) && (c.shapes.all shR && (namesR 1 32 (c.units.map Un.name) && mainR c))))
/-- No text is beyond all measure. -/
structure SmallC (c : Cd) : Prop where
  strs : ∀ s ∈ c.strs, s.length ≤ 1048576
  nstrs : c.strs.length ≤ 1048576
  nshapes : c.shapes.length ≤ 1048576
  nunits : c.units.length ≤ 1048576
  shape : ∀ x ∈ c.shapes, x.name.length ≤ 1048576
  field : ∀ x ∈ c.shapes, ∀ f ∈ x.fields, f.length ≤ 1048576
  unit : ∀ u ∈ c.units, u.name.length ≤ 1048576
  var : ∀ u ∈ c.units, ∀ v ∈ u.vars, v.name.length ≤ 1048576

set_option maxRecDepth 100000 in
set_option maxHeartbeats 4000000 in
theorem cRightShape_any (S : Nat → Prop) (x : Sh) (bf : Option Addr) (nf cf : Nat) (w : World) (hin : strsIn S w (.slice bf nf cf) x.fields) (hl : ∀ f ∈ x.fields, f.length ≤ 1048576) (ht : TabsP w) :
    Calls Tryz.prog 106 #[shV x (.slice bf nf cf)] w fun e w' => e = .returned (.bool (shR x)) ∧ Below w.heap.size w w' := by
  obtain ⟨w1, hw1, hb1, HZ1, h1⟩ := box1 w (.cells #[.string (strB x.name), .slice bf nf cf] 77)
  have HW1 : Hid (w1 = w.alloc (.cells #[.string (strB x.name), .slice bf nf cf] 77)) := hw1
  have HB1 : Hid (Below w.heap.size w w1) := hb1
  have c := cNamedStr_any S x.fields (.slice bf nf cf) 1 8 w1 (rowIn.kept hin (strE_keeps S) hb1.size fun q _ hq => hb1.block q hq) hl (ht.below hb1 (Nat.le_refl _))
  rw [List.map_id] at c
  obtain ⟨R, hR⟩ : ∃ R, R = shR x := ⟨_, rfl⟩
  rw [show namesR 1 8 x.fields = shR x from rfl, ← hR] at c
  rw [← hR]
  clear hw1 hb1 h1 hR ht hl hin HZ1
  go_enter Tryz.func106, Tryz.ntmps106
  go_wp2_with fail
  rw [← HW1.out]
  refine c.mono ?_
  clear c
  rintro e w2 ⟨rfl, hb2⟩
  have HB2 : Hid (Below w.heap.size w w2) := HB1.out.trans (hb2.mono HB1.out.size)
  clear hb2
  go_wp2
  go_ret
  exact ⟨rfl, HB2.out⟩

set_option maxRecDepth 100000 in
set_option maxHeartbeats 4000000 in
theorem cRightMain_any (S : Nat → Prop) (c : Cd) (bs bh bu : Option Addr) (ns cs nh ch nu cu : Nat) (w : World) (hin : unitsIn S w (.slice bu nu cu) c.units) (hl : c.units.length ≤ 1048576) :
    Calls Tryz.prog 109 #[cdV (.slice bs ns cs) (.slice bh nh ch) (.slice bu nu cu) c.main] w fun e w' => e = .returned (.bool (mainR c)) ∧ Below w.heap.size w w' := by
  obtain ⟨strs, shapes, units, m⟩ := c
  simp only at hin hl ⊢
  obtain ⟨hnu, hcap⟩ : nu = units.length ∧ units.length ≤ cu := by obtain ⟨b, c, e, h, -⟩ := hin.at; cases e; exact ⟨rfl, h⟩
  obtain ⟨w2, hw2, hb2, HZ2, h0⟩ := box1 w (.cells #[.slice bs ns cs, .slice bh nh ch, .slice bu nu cu, .int .i64 m] 26)
  have HW2 : Hid (w2 = w.alloc (.cells #[.slice bs ns cs, .slice bh nh ch, .slice bu nu cu, .int .i64 m] 26)) := hw2
  have HB2 : Hid (Below w.heap.size w w2) := hb2
  have HF : Hid (∀ W, Below w2.heap.size w2 W → W.cell? ⟨w.heap.size, 2, none⟩ = some (.slice bu nu cu) ∧ W.cell? ⟨w.heap.size, 3, none⟩ = some (.int .i64 m)) := fun W hW => by
    have hz := HZ2.out
    obtain ⟨-, -, a2, a3⟩ := bcells4 ((hW.block w.heap.size (by omega)).trans h0)
    exact ⟨a2, a3⟩
  have HAT : Hid (∀ i (hi : i < units.length), ∃ b o, bu = some ⟨b, o, none⟩ ∧ S b ∧ b < w.heap.size ∧ unE S w b (o + i * 7) units[i]) := by
    obtain ⟨b, c, e, _, _, h⟩ := hin.at
    cases e
    exact h
  have hn0 : (nu : Int) ≤ 1048576 := by omega
  have hn1 : (0 : Int) ≤ nu := by omega
  have c1 := cIsIn_any m 0 ((nu : Int) - 1) w2
  have HRD : Hid (mainR ⟨strs, shapes, units, m⟩ = (decide (0 ≤ m ∧ m ≤ (nu : Int) - 1) && (match units[m.toNat]? with
    | some u => decide (u.params = 0) && !u.result
    | none => false))) := by
    show _ = _
    rw [hnu]; rfl
  obtain ⟨R, hR⟩ : ∃ R, R = mainR ⟨strs, shapes, units, m⟩ := ⟨_, rfl⟩
  rw [← hR] at HRD ⊢
  clear hw2 hb2 h0 hR hin hl HZ2
  by_cases hm : 0 ≤ m ∧ m ≤ (nu : Int) - 1
  · rw [decide_eq_true hm] at c1 HRD
    obtain ⟨i, rfl⟩ : ∃ i : Nat, m = i := ⟨m.toNat, by omega⟩
    have hi : i < units.length := by omega
    rw [Int.toNat_natCast, List.getElem?_eq_getElem hi] at HRD
    obtain ⟨b, o, rfl, -, hbl, hc⟩ := HAT.out i hi
    obtain ⟨e0, e1, e2, e3, e4, ⟨vi, e5, hvi⟩, vv, e6, hvv⟩ := hc
    obtain ⟨bi, ci, rfl, -⟩ := hvi.at
    obtain ⟨bv, cv, rfl, -⟩ := hvv.at
    obtain ⟨ni, hni⟩ : ∃ n, n = units[i].ins.length := ⟨_, rfl⟩
    obtain ⟨nv, hnv⟩ : ∃ n, n = units[i].vars.length := ⟨_, rfl⟩
    rw [← hni] at e5
    rw [← hnv] at e6
    obtain ⟨u, hu⟩ : ∃ u, u = units[i] := ⟨_, rfl⟩
    rw [← hu] at e0 e1 e2 e3 e4 HRD
    obtain ⟨name, params, slots, stack, result, ins, vars⟩ := u
    simp only at e0 e1 e2 e3 e4 HRD
    have hcap2 : i < nu := by omega
    have hcap3 : (i : Int) < nu := by omega
    clear hni hnv hvi hvv hu hm HAT hi hcap hnu
    go_enter Tryz.func109, Tryz.ntmps109
    go_wp2_with fail
    rw [← HW2.out]
    refine c1.mono ?_
    clear c1
    rintro e w3 ⟨rfl, hb3⟩
    obtain ⟨a2, a3⟩ := HF.out w3 hb3
    have HB3 : Hid (Below w.heap.size w w3) := HB2.out.trans (hb3.mono HB2.out.size)
    have hcc : ∀ q, w3.cell? ⟨b, q, none⟩ = w.cell? ⟨b, q, none⟩ := fun q => below_cell HB3.out hbl
    rw [← hcc] at e0 e1 e2 e3 e4 e5 e6
    have HB4 : Hid (Below w.heap.size w (w3.alloc (.cells #[.string (strB name), .int .i64 params, .int .i64 slots, .int .i64 stack, .bool result, .slice bi ni ci, .slice bv nv cv] 58))) := HB3.out.alloc HB3.out.size _
    clear hb3 hcc
    by_cases hp : params = 0
    · subst hp
      cases result with
      | true =>
        go_wp2
        go_ret
        rw [HRD.out]
        exact ⟨rfl, HB4.out⟩
      | false =>
        go_wp2
        go_ret
        rw [HRD.out]
        exact ⟨rfl, HB4.out⟩
    · have hpb : (params == 0) = false := by rw [beq_eq_false_iff_ne]; exact hp
      have HR2 : Hid (R = false) := by
        show _ = _
        rw [HRD.out, decide_eq_false hp]; rfl
      clear hp
      go_wp2
      go_ret
      rw [HR2.out]
      exact ⟨rfl, HB4.out⟩
  · rw [decide_eq_false hm] at c1 HRD
    clear hm HAT hnu
    go_enter Tryz.func109, Tryz.ntmps109
    go_wp2_with fail
    rw [← HW2.out]
    refine c1.mono ?_
    clear c1
    rintro e w3 ⟨rfl, hb3⟩
    have HB3 : Hid (Below w.heap.size w w3) := HB2.out.trans (hb3.mono HB2.out.size)
    clear hb3
    go_wp2
    go_ret
    rw [HRD.out]
    exact ⟨rfl, HB3.out⟩
end Go.Proofs.YtechkkphbajmoaaGreatDoor
/- code: is a code right, but for what is in its units: the whole. -/
namespace Go.Proofs.YtechkkphbajmoaaGreatDoor
open Go.RowKit Go.Shelf

set_option maxRecDepth 100000 in
set_option maxHeartbeats 4000000 in
theorem cOutside_any (S : Nat → Prop) (c : Cd) (bs bh bu : Option Addr) (ns cs nh ch nu cu : Nat) (w : World) (hin : CodeIn S w c (.slice bs ns cs) (.slice bh nh ch) (.slice bu nu cu)) (hsm : SmallC c) (ht : TabsP w) :
    Calls Tryz.prog 60 #[cdV (.slice bs ns cs) (.slice bh nh ch) (.slice bu nu cu) c.main] w fun e w' => e = .returned (.bool (outR c)) ∧ Below w.heap.size w w' := by
  obtain ⟨m, hm⟩ : ∃ m, m = c.main := ⟨_, rfl⟩
  rw [← hm]
  obtain ⟨w2, hw2, hb2, HZ2, h0⟩ := box1 w (.cells #[.slice bs ns cs, .slice bh nh ch, .slice bu nu cu, .int .i64 m] 26)
  have HW2 : Hid (w2 = w.alloc (.cells #[.slice bs ns cs, .slice bh nh ch, .slice bu nu cu, .int .i64 m] 26)) := hw2
  have HB2 : Hid (Below w.heap.size w w2) := hb2
  have HF : Hid (∀ W, Below w2.heap.size w2 W → W.cell? ⟨w.heap.size, 0, none⟩ = some (.slice bs ns cs) ∧ W.cell? ⟨w.heap.size, 1, none⟩ = some (.slice bh nh ch) ∧ W.cell? ⟨w.heap.size, 2, none⟩ = some (.slice bu nu cu) ∧ W.cell? ⟨w.heap.size, 3, none⟩ = some (.int .i64 m)) := fun W hW => by
    have hz := HZ2.out
    exact bcells4 ((hW.block w.heap.size (by omega)).trans h0)
  have hns : ns = c.strs.length := by obtain ⟨b, c, e, -⟩ := hin.strs.at; cases e; rfl
  have HIN : Hid (∀ W, Below w2.heap.size w2 W → CodeIn S W c (.slice bs ns cs) (.slice bh nh ch) (.slice bu nu cu) ∧ TabsP W) := fun W hW => by
    have hWw : Below w.heap.size w W := hb2.trans (hW.mono hb2.size)
    exact ⟨hin.below hWw, ht.below hWw (Nat.le_refl _)⟩
  obtain ⟨q1, hq1⟩ : ∃ q, q = decide ((ns : Int) ≤ 1024) := ⟨_, rfl⟩
  obtain ⟨q2, hq2⟩ : ∃ q, q = c.strs.all (fun s => decide (backB 3 0 s)) := ⟨_, rfl⟩
  obtain ⟨q3, hq3⟩ : ∃ q, q = namesR 0 16 (c.shapes.map Sh.name) := ⟨_, rfl⟩
  obtain ⟨q4, hq4⟩ : ∃ q, q = c.shapes.all shR := ⟨_, rfl⟩
  obtain ⟨q5, hq5⟩ : ∃ q, q = namesR 1 32 (c.units.map Un.name) := ⟨_, rfl⟩
  obtain ⟨q6, hq6⟩ : ∃ q, q = mainR c := ⟨_, rfl⟩
  have HR : Hid (outR c = (q1 && (q2 && (q3 && (q4 && (q5 && q6)))))) := by
    show _ = _
    rw [hq1, hq2, hq3, hq4, hq5, hq6, hns]; rfl
  obtain ⟨R, hR⟩ : ∃ R, R = outR c := ⟨_, rfl⟩
  rw [← hR] at HR ⊢
  have C2 : Hid (∀ W, Below w2.heap.size w2 W → Calls Tryz.prog 101 #[.slice bs ns cs, .func (.func 102) #[] #[]] W fun e w' => e = .returned (.bool q2) ∧ Below W.heap.size W w') := fun W hW => by
    rw [hq2]; exact everyText_any S c.strs _ W (HIN.out W hW).1.strs hsm.strs (HIN.out W hW).2
  have C3 : Hid (∀ W, Below w2.heap.size w2 W → Calls Tryz.prog 103 #[.slice bh nh ch, .int .i64 0, .int .i64 16, .func (.func 104) #[] #[]] W fun e w' => e = .returned (.bool q3) ∧ Below W.heap.size W w') := fun W hW => by
    rw [hq3]; exact cNamedShape_any S c.shapes _ 0 16 W (HIN.out W hW).1.shapes hsm.shape (HIN.out W hW).2
  have C4 : Hid (∀ W, Below w2.heap.size w2 W → Calls Tryz.prog 105 #[.slice bh nh ch, .func (.func 106) #[] #[]] W fun e w' => e = .returned (.bool q4) ∧ Below W.heap.size W w') := fun W hW => by
    rw [hq4]
    refine everyShape_any S c.shapes _ shR W (HIN.out W hW).1.shapes fun i hi bf nf cf W' hf hW' => ?_
    exact (cRightShape_any S c.shapes[i] bf nf cf W' (rowIn.kept hf (strE_keeps S) hW'.size fun q _ hq => hW'.block q hq) (hsm.field _ (List.getElem_mem hi)) ((HIN.out W hW).2.below hW' (Nat.le_refl _))).mono fun e w' ⟨he, hb⟩ => ⟨he, hW'.trans (hb.mono hW'.size)⟩
  have C5 : Hid (∀ W, Below w2.heap.size w2 W → Calls Tryz.prog 107 #[.slice bu nu cu, .int .i64 1, .int .i64 32, .func (.func 108) #[] #[]] W fun e w' => e = .returned (.bool q5) ∧ Below W.heap.size W w') := fun W hW => by
    rw [hq5]; exact cNamedUnit_any S c.units _ 1 32 W (HIN.out W hW).1.units hsm.unit (HIN.out W hW).2
  have C6 : Hid (∀ W, Below w2.heap.size w2 W → Calls Tryz.prog 109 #[.agg #[.slice bs ns cs, .slice bh nh ch, .slice bu nu cu, .int .i64 m]] W fun e w' => e = .returned (.bool q6) ∧ Below W.heap.size W w') := fun W hW => by
    rw [hq6, hm]; exact cRightMain_any S c bs bh bu ns cs nh ch nu cu W (HIN.out W hW).1.units hsm.nunits
  have hle : (ns : Int) ≤ 1024 ∨ ¬ (ns : Int) ≤ 1024 := by omega
  have HV1 : Hid (Below w2.heap.size w2 w2) := Below.refl _ _
  clear hw2 hb2 h0 hR hin hsm ht hns HZ2 hm HIN
  rcases hle with hle | hle
  · obtain rfl : q1 = true := hq1.trans (decide_eq_true hle)
    have c := C2.out w2 HV1.out
    clear hq1 hq2 hq3 hq4 hq5 hq6
    go_enter Tryz.func60, Tryz.ntmps60
    go_wp2_with fail
    rw [← HW2.out]
    refine c.mono ?_
    clear c
    rintro e v2 ⟨rfl, hb2⟩
    have HV2 : Hid (Below w2.heap.size w2 v2) := hb2
    clear hb2
    cases q2 with
    | false =>
      go_wp2
      go_ret
      rw [HR.out]
      exact ⟨rfl, HB2.out.trans (HV2.out.mono HB2.out.size)⟩
    | true =>
      obtain ⟨a0, a1, a2, a3⟩ := HF.out v2 HV2.out
      have c := C3.out v2 HV2.out
      go_wp2_with fail
      refine c.mono ?_
      clear c a0 a1 a2 a3
      rintro e v3 ⟨rfl, hb3⟩
      have HV3 : Hid (Below w2.heap.size w2 v3) := HV2.out.trans (hb3.mono HV2.out.size)
      clear hb3
      cases q3 with
      | false =>
        go_wp2
        go_ret
        rw [HR.out]
        exact ⟨rfl, HB2.out.trans (HV3.out.mono HB2.out.size)⟩
      | true =>
        obtain ⟨a0, a1, a2, a3⟩ := HF.out v3 HV3.out
        have c := C4.out v3 HV3.out
        go_wp2_with fail
        refine c.mono ?_
        clear c a0 a1 a2 a3
        rintro e v4 ⟨rfl, hb4⟩
        have HV4 : Hid (Below w2.heap.size w2 v4) := HV3.out.trans (hb4.mono HV3.out.size)
        clear hb4
        cases q4 with
        | false =>
          go_wp2
          go_ret
          rw [HR.out]
          exact ⟨rfl, HB2.out.trans (HV4.out.mono HB2.out.size)⟩
        | true =>
          obtain ⟨a0, a1, a2, a3⟩ := HF.out v4 HV4.out
          have c := C5.out v4 HV4.out
          go_wp2_with fail
          refine c.mono ?_
          clear c a0 a1 a2 a3
          rintro e v5 ⟨rfl, hb5⟩
          have HV5 : Hid (Below w2.heap.size w2 v5) := HV4.out.trans (hb5.mono HV4.out.size)
          clear hb5
          cases q5 with
          | false =>
            go_wp2
            go_ret
            rw [HR.out]
            exact ⟨rfl, HB2.out.trans (HV5.out.mono HB2.out.size)⟩
          | true =>
            obtain ⟨a0, a1, a2, a3⟩ := HF.out v5 HV5.out
            have c := C6.out v5 HV5.out
            go_wp2_with fail
            refine c.mono ?_
            clear c a0 a1 a2 a3
            rintro e v6 ⟨rfl, hb6⟩
            have HV6 : Hid (Below w2.heap.size w2 v6) := HV5.out.trans (hb6.mono HV5.out.size)
            clear hb6
            go_wp2
            go_ret
            rw [HR.out]
            exact ⟨rfl, HB2.out.trans (HV6.out.mono HB2.out.size)⟩
  · obtain rfl : q1 = false := hq1.trans (decide_eq_false hle)
    clear hq1 hq2 hq3 hq4 hq5 hq6
    go_enter Tryz.func60, Tryz.ntmps60
    go_wp2
    go_ret
    rw [HR.out, ← HW2.out]
    exact ⟨rfl, HB2.out⟩
end Go.Proofs.YtechkkphbajmoaaGreatDoor
