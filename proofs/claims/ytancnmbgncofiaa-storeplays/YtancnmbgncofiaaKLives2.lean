/- store: the examples are told. -/
import Derived.Test.YtancnmbgncofiaaKLives
namespace Go.Proofs.Ytancnmbgncofiaa
open Go.RowKit

theorem krowAt {w : World} {B : Nat} {base : Option Addr} {n c : Nat} {bs : List UInt8} (h : w.ownsRow B 5 1 (.slice base n c) bs.length (Lib.byteCells bs)) : n = bs.length ∧ rowAt w base bs := by
  rcases h.2 with ⟨hh, h0⟩ | ⟨g, cap, cur, hh, _, hg, _⟩
  · cases hh
    exact ⟨h0.symm, .inl (List.eq_nil_of_length_eq_zero h0)⟩
  · cases hh
    refine ⟨rfl, .inr ⟨g, 0, rfl, fun j hj => ?_⟩⟩
    have := h.cells (g := g) rfl j (.int .u8 ((bs[j]).toNat : Int)) (by unfold Lib.byteCells; rw [List.getElem?_map, List.getElem?_eq_getElem hj]; rfl)
    rw [add_zero'] at this
    simpa using this
theorem bytesAt_new1p (w : World) (p : Nat) (hp : p < 256) : bytesAt (w.alloc (Obj.cells #[Value.int .u8 (p : Int)] 5)) (Value.slice (some ⟨w.heap.size, 0, none⟩) 1 1) [p.toUInt8] := by
  have := bytesAt_new1 w p.toUInt8
  rwa [show ((p.toUInt8).toNat : Int) = (p : Int) by simp; omega] at this

/-- The stores of the example between two rounds. -/
structure LvIn (N : Nat) (w : World) (hs hx ga : Nat) (i : Nat) (vk : Value) (wr : World) : Prop where
  s : StX N wr 3 (exL i) hs vk
  x : StX N wr 1 [] hx (.slice none 0 0)
  a : wr.heap[ga]? = some (.cells #[.int .i64 0, .int .i64 10, .int .i64 20, .int .i64 30] 3 (0, 0))
  b : Below N w wr

theorem LvIn.put {N : Nat} {w : World} {hs hx ga i : Nat} {vk : Value} {wr w1 w2 : World} (H : LvIn N w hs hx ga i vk wr) (hne : hx ≠ hs) (hb : Below wr.heap.size wr w1) (hp : PutX N w1 3 (exL (i + 1)) hs vk w2) : ∃ vk', LvIn N w hs hx ga (i + 1) vk' w2 := by
  obtain ⟨vk', h1, h2, h3⟩ := hp
  have Hs := H.s.below hb
  have ha1 : w1.heap[ga]? = some (.cells #[.int .i64 0, .int .i64 10, .int .i64 20, .int .i64 30] 3 (0, 0)) := (hb.block ga (Array.getElem?_eq_some_iff.1 H.a).1).trans H.a
  refine ⟨vk', h1, Hs.other (H.x.below hb) h2 hne (fun q e => by simp [Value.ownBlock] at e), ?_, ?_⟩
  · rw [h2.block ga (Array.getElem?_eq_some_iff.1 ha1).1 (Hs.type ha1 (by decide) (by decide))]
    exact ha1
  · exact H.b.trans ((hb.mono H.s.low).trans (Hs.stays h2))

/-- The stores of the example, and the answers that are kept. -/
structure LE (N : Nat) (w : World) (hs hx : Nat) (ls lx : List PB) (vks vkx : Value) (R : List (TypeId × Value × Nat × List Value)) (W : World) : Prop where
  s : StX N W 3 ls hs vks
  x : StX N W 1 lx hx vkx
  ne : hx ≠ hs
  nq : ∀ q, vkx.ownBlock = some q → vks.ownBlock ≠ some q
  b : Below N w W
  r : ∀ r ∈ R, W.ownsRow 0 r.1 1 r.2.1 r.2.2.1 r.2.2.2 ∧ r.1 ≠ 47 ∧ r.1 ≠ 52
theorem LE.below {N : Nat} {w : World} {hs hx : Nat} {ls lx : List PB} {vks vkx : Value} {R : List (TypeId × Value × Nat × List Value)} {W W' : World} (H : LE N w hs hx ls lx vks vkx R W) (hb : Below W.heap.size W W') : LE N w hs hx ls lx vks vkx R W' :=
  ⟨H.s.below hb, H.x.below hb, H.ne, H.nq, H.b.trans (hb.mono H.s.low), fun r hr => ⟨kbelowRow (H.r r hr).1 hb, (H.r r hr).2⟩⟩
theorem LE.add {N : Nat} {w : World} {hs hx : Nat} {ls lx : List PB} {vks vkx : Value} {R : List (TypeId × Value × Nat × List Value)} {W : World} (H : LE N w hs hx ls lx vks vkx R W) {B ty n : Nat} {v : Value} {xs : List Value} (ho : W.ownsRow B ty 1 v n xs) (h1 : ty ≠ 47) (h2 : ty ≠ 52) : LE N w hs hx ls lx vks vkx ((ty, v, n, xs) :: R) W :=
  ⟨H.s, H.x, H.ne, H.nq, H.b, fun r hr => by
    rcases List.mem_cons.1 hr with rfl | hr
    · exact ⟨kown_base ho (Nat.zero_le _), h1, h2⟩
    · exact H.r r hr⟩
theorem LE.sput {N : Nat} {w : World} {hs hx : Nat} {ls ls' lx : List PB} {vks vkx : Value} {R : List (TypeId × Value × Nat × List Value)} {W W' : World} (H : LE N w hs hx ls lx vks vkx R W) (hp : PutX N W 3 ls' hs vks W') : ∃ vks', LE N w hs hx ls' lx vks' vkx R W' := by
  obtain ⟨v', h1, h2, h3⟩ := hp
  refine ⟨v', h1, H.s.other H.x h2 H.ne H.nq, H.ne, fun q e e' => ?_, H.b.trans (H.s.stays h2), fun r hr => ⟨H.s.keepRow h2 (H.r r hr).1 (H.r r hr).2.1 (H.r r hr).2.2, (H.r r hr).2⟩⟩
  rcases h3 q e' with h9 | h9
  · exact H.nq q e h9
  · have := H.x.rowlt q e; omega
theorem LE.xput {N : Nat} {w : World} {hs hx : Nat} {ls lx lx' : List PB} {vks vkx : Value} {R : List (TypeId × Value × Nat × List Value)} {W W' : World} (H : LE N w hs hx ls lx vks vkx R W) (hp : PutX N W 1 lx' hx vkx W') : ∃ vkx', LE N w hs hx ls lx' vks vkx' R W' := by
  obtain ⟨v', h1, h2, h3⟩ := hp
  refine ⟨v', H.x.other H.s h2 (fun e => H.ne e.symm) (fun q e e' => H.nq q e' e), h1, H.ne, fun q e e' => ?_, H.b.trans (H.x.stays h2), fun r hr => ⟨H.x.keepRow h2 (H.r r hr).1 (H.r r hr).2.1 (H.r r hr).2.2, (H.r r hr).2⟩⟩
  rcases h3 q e with h9 | h9
  · exact H.nq q h9 e'
  · have := H.s.rowlt q e'; omega
theorem klit (W : World) (l : List Int) (n : Nat) (hn : n = l.length) (hl : n ≤ 1000) : (W.alloc (.cells (intC l).toArray 3)).ownsRow 0 3 1 (.slice (some ⟨W.heap.size, 0, none⟩) n n) l.length (intC l) := by
  subst hn
  have := World.ownsRow_lit (base := 0) (e := 3) (size := 1) W (intC l).toArray l.length (Nat.zero_le _) (by unfold maxLen; omega) (by unfold intC; simp)
  simpa using this

set_option maxHeartbeats 8000000 in
set_option maxRecDepth 100000 in
theorem lives11_any (w : World) : Calls Try.prog 6 #[] w fun e w' => e = .returned (.bool true) ∧ Below w.heap.size w w' := by
  obtain ⟨N, hN⟩ : ∃ N, N = w.heap.size := ⟨_, rfl⟩
  have HN : Hid (N = w.heap.size) := hN
  rw [← hN]
  clear hN
  go_enter Try.func6, Try.ntmps6
  go_wp2_with fail
  refine (kNewX 3 w).mono ?_
  rintro e w1 ⟨hs, rfl, hsx, hb1⟩
  rw [← HN.out] at hsx hb1
  have HS1 : Hid (StX N w1 3 [] hs (.slice none 0 0)) := hsx
  have HB1 : Hid (Below N w w1) := hb1
  clear hsx hb1
  go_wp2_with fail
  refine (kNewX 1 w1).mono ?_
  rintro e w2 ⟨hx, rfl, hxx, hb2⟩
  have HNE : Hid (hx ≠ hs) := (show hx ≠ hs by have := hxx.lo; have := HS1.out.lt; omega)
  have HX2 : Hid (StX N w2 1 [] hx (.slice none 0 0)) := ⟨hxx.st, Nat.le_trans HS1.out.low hxx.lo, fun q e => by simp [Value.ownBlock] at e, hxx.few⟩
  have HS2 : Hid (StX N w2 3 [] hs (.slice none 0 0)) := HS1.out.below hb2
  have HB2 : Hid (Below N w w2) := HB1.out.trans (hb2.mono HS1.out.low)
  clear hxx hb2 HS1 HB1
  obtain ⟨w3, hw3⟩ : ∃ w3, w3 = w2.alloc (.cells #[.int .i64 0, .int .i64 10, .int .i64 20, .int .i64 30] 3) := ⟨_, rfl⟩
  have hb3 : Below w2.heap.size w2 w3 := by rw [hw3]; exact (Below.refl _ w2).alloc (Nat.le_refl _) _
  obtain ⟨ga, hga⟩ : ∃ ga, ga = w2.heap.size := ⟨_, rfl⟩
  have HL3 : Hid (LvIn N w hs hx ga 0 (.slice none 0 0) w3) := ⟨HS2.out.below hb3, HX2.out.below hb3, by rw [hga, hw3]; exact heap_alloc_new _ _, HB2.out.trans (hb3.mono HS2.out.low)⟩
  have hw3' := hw3.symm
  have hga' := hga.symm
  clear hb3 hw3 hga
  go_wp2
  go_loopw [21] (fun vi wr => ∃ i : Nat, vi = .int .i64 (i : Int) ∧ i ≤ 4 ∧ ∃ vk, LvIn N w hs hx ga i vk wr) (fun vi _ => 4 - (intOf vi).toNat)
  case atStart => exact ⟨0, rfl, by omega, _, HL3.out⟩
  case round =>
    clear hw3' hga' HL3 HS2 HX2 HB2
    obtain ⟨i, rfl, hi4, vk, hlv⟩ := hrel
    have HLV : Hid (LvIn N w hs hx ga i vk wr) := hlv
    by_cases hlt : i < 4
    · obtain ⟨p, hp⟩ : ∃ p : Nat, p = 10 * i := ⟨_, rfl⟩
      have hc : wr.cell? ⟨ga, i, none⟩ = some (.int .i64 (p : Int)) := by
        rw [cell_of_row _ _ i _ _ (0, 0) hlv.a, hp]
        match i, hlt with
        | 0, _ => rfl
        | 1, _ => rfl
        | 2, _ => rfl
        | 3, _ => rfl
      have hp30 : p ≤ 30 := by omega
      have HPUT : Hid (∀ W vb, Below wr.heap.size wr W → bytesAt W vb [p.toUInt8] → Calls Try.prog 8 #[.pointer (some ⟨hs, 0, none⟩), .int .i64 (p : Int), vb] W fun e w' => e = .returned (.int .i64 0) ∧ PutX N W 3 (exL (i + 1)) hs vk w') := fun W vb hW hby => by
        have := kPutX N 3 (exL i) hs vk (p : Int) vb [p.toUInt8] W (hlv.s.below hW) (by omega) (by omega) hby (by simp)
        rw [show putF 3 (exL i) ((p : Int), [p.toUInt8]) = exL (i + 1) by rw [hp]; exact exL_put i hlt] at this
        exact this
      clear hp hlv
      go_wp2_with fail
      refine (HPUT.out _ _ ((Below.refl _ wr).alloc (Nat.le_refl _) _) (bytesAt_new1p wr p (by omega))).mono ?_
      rintro e w4 ⟨rfl, hpx⟩
      have HL4 : Hid (∃ vk', LvIn N w hs hx ga (i + 1) vk' w4) := HLV.out.put HNE.out ((Below.refl _ wr).alloc (Nat.le_refl _) _) hpx
      clear HPUT hpx hc
      go_wp2
      go_roundw
      case rel => exact ⟨i + 1, by go_num, by omega, HL4.out⟩
      case measure => simp [intOf]; omega
    · obtain rfl : i = 4 := by omega
      have HE0 : Hid (LE N w hs hx (exL 4) [] vk (.slice none 0 0) [] wr) := ⟨hlv.s, hlv.x, HNE.out, fun q e => by simp [Value.ownBlock] at e, hlv.b, fun r hr => by cases hr⟩
      clear hlv HLV hlt hi4
      go_wp2_with fail
      refine (kAllX N 3 (exL 4) hs vk wr HE0.out.s).mono ?_
      rintro e wa ⟨va, rfl, hoa, hba⟩
      have HE1 : Hid (LE N w hs hx (exL 4) [] vk (.slice none 0 0) [(3, va, 3, intC [0, 20, 30])] wa) := (HE0.out.below hba).add hoa (by decide) (by decide)
      obtain ⟨ba, ca, hva, -, -⟩ := kown_val hoa
      have hva : va = .slice ba 3 ca := hva
      clear hoa hba HE0
      subst hva
      go_wp2_with fail
      refine (kPutX N 3 (exL 4) hs vk 25 (.slice none 0 0) [] wa HE1.out.s (by omega) (by omega) (bytesAt_nil _) (by simp)).mono ?_
      rw [exL_25]
      rintro e wb ⟨rfl, hpx⟩
      have hpx' := HE1.out.sput hpx
      clear hpx
      obtain ⟨vks, hle⟩ := hpx'
      have HE2 : Hid (LE N w hs hx [(0, [0]), (20, [20]), (25, [])] [] vks (.slice none 0 0) [(3, .slice ba 3 ca, 3, intC [0, 20, 30])] wb) := hle
      clear hle HE1
      go_wp2_with fail
      refine (kFloorX N 3 [(0, [0]), (20, [20]), (25, [])] hs vks 24 wb HE2.out.s).mono ?_
      rintro e wc ⟨hbc, hfl⟩
      rw [exF_24] at hfl
      obtain ⟨vf, rfl, hof⟩ := hfl
      have HE3 : Hid (LE N w hs hx [(0, [0]), (20, [20]), (25, [])] [] vks (.slice none 0 0) [(5, vf, 1, Lib.byteCells [20]), (3, .slice ba 3 ca, 3, intC [0, 20, 30])] wc) := (HE2.out.below hbc).add hof (by decide) (by decide)
      obtain ⟨bf, cf, hvf, -, -⟩ := kown_val hof
      have hvf : vf = .slice bf 1 cf := hvf
      clear hof hbc HE2
      subst hvf
      go_wp2_with fail
      refine (kPutX N 1 [] hx (.slice none 0 0) 5 (.slice none 0 0) [] wc HE3.out.x (by omega) (by omega) (bytesAt_nil _) (by simp)).mono ?_
      rw [exX_5]
      rintro e wd ⟨rfl, hpx⟩
      have hpx' := HE3.out.xput hpx
      clear hpx
      obtain ⟨vx1, hle⟩ := hpx'
      have HE4 : Hid _ := hle
      clear hle HE3
      go_wp2_with fail
      refine (kPutX N 1 [(5, [])] hx vx1 7 (.slice none 0 0) [] wd HE4.out.x (by omega) (by omega) (bytesAt_nil _) (by simp)).mono ?_
      rw [exX_7]
      rintro e we ⟨rfl, hpx⟩
      have hpx' := HE4.out.xput hpx
      clear hpx
      obtain ⟨vx2, hle⟩ := hpx'
      have HE5 : Hid _ := hle
      clear hle HE4
      go_wp2_with fail
      refine (kAllX N 1 [(5, [])] hx vx2 we HE5.out.x).mono ?_
      rintro e wf ⟨vc, rfl, hoc, hbf⟩
      have HE6 : Hid _ := (HE5.out.below hbf).add hoc (by decide) (by decide)
      obtain ⟨bc, cc, hvc, -, -⟩ := kown_val hoc
      have hvc : vc = .slice bc 1 cc := hvc
      clear hoc hbf HE5
      subst hvc
      go_wp2_with fail
      refine (kPutX N 1 [(5, [])] hx vx2 3 (.slice none 0 0) [] wf HE6.out.x (by omega) (by omega) (bytesAt_nil _) (by simp)).mono ?_
      rw [exX_3]
      rintro e wg ⟨rfl, hpx⟩
      have hpx' := HE6.out.xput hpx
      clear hpx
      obtain ⟨vx3, hle⟩ := hpx'
      have HE7 : Hid (LE N w hs hx [(0, [0]), (20, [20]), (25, [])] [(3, [])] vks vx3 [(3, .slice bc 1 cc, 1, intC [5]), (5, .slice bf 1 cf, 1, Lib.byteCells [20]), (3, .slice ba 3 ca, 3, intC [0, 20, 30])] wg) := hle
      clear hle HE6
      go_wp2_with fail
      refine (kSame_any [0, 20, 30] [0, 20, 30] (.slice ba 3 ca) (.slice (some ⟨wg.heap.size, 0, none⟩) 3 3) (wg.alloc (.cells #[.int .i64 0, .int .i64 20, .int .i64 30] 3)) (kbelowRow (HE7.out.r (3, .slice ba 3 ca, 3, intC [0, 20, 30]) (by simp)).1 ((Below.refl _ wg).alloc (Nat.le_refl _) _)) (klit wg [0, 20, 30] 3 rfl (by omega)) (by decide)).mono ?_
      rintro e wh ⟨rfl, hbs⟩
      rw [show decide (([0, 20, 30] : List Int) = [0, 20, 30]) = true by simp]
      have HE8 := (HE7.out.below ((Below.refl _ wg).alloc (Nat.le_refl _) _)).below hbs
      have HE8 : Hid _ := HE8
      clear hbs HE7
      go_wp2_with fail
      refine (kAllX N 3 [(0, [0]), (20, [20]), (25, [])] hs vks wh HE8.out.s).mono ?_
      rintro e wi ⟨v2, rfl, ho2, hb2⟩
      have HE9 := (HE8.out.below hb2).add ho2 (by decide) (by decide)
      have HE9 : Hid _ := HE9
      obtain ⟨b2, c2, hv2, -, -⟩ := kown_val ho2
      have hv2 : v2 = .slice b2 3 c2 := hv2
      clear ho2 hb2 HE8
      subst hv2
      go_wp2_with fail
      refine (kSame_any [0, 20, 25] [0, 20, 25] (.slice b2 3 c2) (.slice (some ⟨wi.heap.size, 0, none⟩) 3 3) (wi.alloc (.cells #[.int .i64 0, .int .i64 20, .int .i64 25] 3)) (kbelowRow (HE9.out.r (3, .slice b2 3 c2, 3, intC [0, 20, 25]) (by simp)).1 ((Below.refl _ wi).alloc (Nat.le_refl _) _)) (klit wi [0, 20, 25] 3 rfl (by omega)) (by decide)).mono ?_
      rintro e wj ⟨rfl, hbs⟩
      rw [show decide (([0, 20, 25] : List Int) = [0, 20, 25]) = true by simp]
      have HE10 := (HE9.out.below ((Below.refl _ wi).alloc (Nat.le_refl _) _)).below hbs
      have HE10 : Hid _ := HE10
      clear hbs HE9
      have hrow := (HE10.out.r (5, .slice bf 1 cf, 1, Lib.byteCells [20]) (by simp)).1
      have hconv : (convert 36 9 (.slice bf 1 cf)).run Try.prog wj = .ok (.string ⟨#[20]⟩) wj := conv_row wj bf [20] cf (krowAt (bs := [20]) hrow).2
      clear hrow
      go_wp2_with fail
      refine (kSame_any [5] [5] (.slice bc 1 cc) (.slice (some ⟨wj.heap.size, 0, none⟩) 1 1) (wj.alloc (.cells #[.int .i64 5] 3)) (kbelowRow (HE10.out.r (3, .slice bc 1 cc, 1, intC [5]) (by simp)).1 ((Below.refl _ wj).alloc (Nat.le_refl _) _)) (klit wj [5] 1 rfl (by omega)) (by decide)).mono ?_
      rintro e wk ⟨rfl, hbs⟩
      rw [show decide (([5] : List Int) = [5]) = true by simp]
      have HE11 := (HE10.out.below ((Below.refl _ wj).alloc (Nat.le_refl _) _)).below hbs
      have HE11 : Hid _ := HE11
      clear hbs HE10
      go_wp2_with fail
      refine (kAllX N 1 [(3, [])] hx vx3 wk HE11.out.x).mono ?_
      rintro e wl ⟨v4, rfl, ho2, hb2⟩
      have HE12 := (HE11.out.below hb2).add ho2 (by decide) (by decide)
      have HE12 : Hid _ := HE12
      obtain ⟨b4, c4, hv2, -, -⟩ := kown_val ho2
      have hv2 : v4 = .slice b4 1 c4 := hv2
      clear ho2 hb2 HE11
      subst hv2
      go_wp2_with fail
      refine (kSame_any [3] [3] (.slice b4 1 c4) (.slice (some ⟨wl.heap.size, 0, none⟩) 1 1) (wl.alloc (.cells #[.int .i64 3] 3)) (kbelowRow (HE12.out.r (3, .slice b4 1 c4, 1, intC [3]) (by simp)).1 ((Below.refl _ wl).alloc (Nat.le_refl _) _)) (klit wl [3] 1 rfl (by omega)) (by decide)).mono ?_
      rintro e wm ⟨rfl, hbs⟩
      rw [show decide (([3] : List Int) = [3]) = true by simp]
      have HE13 := (HE12.out.below ((Below.refl _ wl).alloc (Nat.le_refl _) _)).below hbs
      have HE13 : Hid _ := HE13
      clear hbs HE12
      go_wp2
      go_ret
      exact ⟨rfl, HE13.out.b⟩
end Go.Proofs.Ytancnmbgncofiaa
