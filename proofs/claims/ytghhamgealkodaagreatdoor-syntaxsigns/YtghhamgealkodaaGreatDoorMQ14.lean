import Derived.Test.YtghhamgealkodaaGreatDoorMQ13
import Derived.Test.YtghhamgealkodaaGreatDoorMQ12
import Derived.Deep.RegionWith
import Derived.Deep.DeepCutAuto
import Derived.Deep.CutRange
import Derived.Test.YtghhamgealkodaaGreatDoorMQ11
/- syntax: indexes and fields behind an expression. -/
namespace Go.Proofs.YtghhamgealkodaaGreatDoor
open Go.RowKit Go.Shelf

/-- Behind an index its bracket is wanted. -/
def pClose (f : Nat) (e : Ex) (ts : List Tk) : Option (PR Ex) := thenP (needP [93] ts) fun _ ts => pBehind f e ts

set_option maxRecDepth 100000 in
set_option maxHeartbeats 8000000 in
theorem rdParts (r g o cap F : Nat) (ts : List Tk) (w : World) (res : PR Ex) (h : RdAt r g o cap ts w) (hE : EndsT ts) (hp : thenP (pSingle F ts) (fun e ts => pBehind F e ts) = some res)
    (hsg : ∀ w1 o1 cap1 ts1 r1, pSingle F ts1 = some r1 → EndsT ts1 → RdAt r g o1 cap1 ts1 w1 → Kept r w w1 → Calls Tryz.prog 177 #[.pointer (some ⟨r, 0, none⟩)] w1 (PostE r g w1 r1))
    (hex : ∀ w1 o1 cap1 ts1 r1, pBetween F 1 ts1 = some r1 → EndsT ts1 → RdAt r g o1 cap1 ts1 w1 → Kept r w w1 → Calls Tryz.prog 37 #[.pointer (some ⟨r, 0, none⟩)] w1 (PostE r g w1 r1)) :
    Calls Tryz.prog 148 #[.pointer (some ⟨r, 0, none⟩)] w (PostE r g w res) := by
  obtain ⟨t0, ts0, rfl⟩ := hE.cons
  have hr := h.lt.1
  have hgw := h.lt.2
  cases hb : pSingle F (t0 :: ts0) with
  | none => rw [hb] at hp; cases hp
  | some r1 =>
    obtain ⟨w0, hw0⟩ : ∃ w0, w0 = w.alloc exZ := ⟨_, rfl⟩
    have c1 := hsg w0 o cap (t0 :: ts0) r1 hb hE (by rw [hw0]; exact h.alloc _) (by rw [hw0]; exact (Kept.refl r w).alloc _)
    rw [hb] at hp
    simp only [thenP] at hp
    have HW0 : Hid (w0 = w.alloc exZ) := hw0
    have HEX1 : Hid (∀ w1 o1 cap1 ts1 r1, pBetween F 1 ts1 = some r1 → EndsT ts1 → RdAt r g o1 cap1 ts1 w1 → Kept r w w1 → Calls Tryz.prog 37 #[.pointer (some ⟨r, 0, none⟩)] w1 (PostE r g w1 r1)) := hex
    clear hw0 hex hsg
    go_enter Tryz.func148, Tryz.ntmps148
    go_wp2_with fail
    rw [← HW0.out]
    refine c1.mono ?_
    clear c1
    rintro e w1 ⟨hk1, hpost⟩
    have hkk : Kept r w w1 := by have := HW0.out; subst this; exact ((Kept.refl r w).alloc _).trans hk1
    rcases r1 with a | ⟨x, us⟩
    · obtain rfl := hpost
      simp only [Option.some.injEq] at hp
      subst hp
      exact ⟨rfl, hkk, rfl⟩
    · obtain ⟨v, o1, cap1, rfl, hx, hrd⟩ := hpost
      obtain ⟨a, b, c, d0, d1, d2, l, rfl⟩ := hx.agg
      have hE1 := (parse_ends F).2.2.2.2.1 _ _ _ hb hE
      have hJ := MoreJ.start (p := fun f e ts => pBehind f e ts) (res := res) HW0.out hr hk1 hx hrd hp hE1 hrd.few
      have HJ : Hid (MoreJ r g w1.heap.size F w res (fun f e ts => pBehind f e ts) (w1.alloc (.cells #[.int .i64 a, .string b, .int .i64 c, .slice d0 d1 d2, .int .i64 l] 40))) := hJ
      have hNw : w.heap.size < w1.heap.size := by have := hk1.size; have h2 := HW0.out; subst h2; simp at this; omega
      obtain ⟨N, hNe⟩ : ∃ N, N = w1.heap.size := ⟨_, rfl⟩
      rw [← hNe] at HJ hNw
      clear hJ hx hrd hk1 hE1 hp hb hE h hkk HW0
      go_wp2_with fail
      rw [← hNe]
      generalize hW0 : w1.alloc (.cells #[.int .i64 a, .string b, .int .i64 c, .slice d0 d1 d2, .int .i64 l] 40) = W0 at *
      clear hW0 hNe
      go_loopw [7] (fun _ wr => MoreJ r g N F w res (fun f e ts => pBehind f e ts) wr) (fun _ wr => leftR r wr)
      case atStart => exact HJ.out
      case round =>
        obtain ⟨e, ts2, o2, cap2, f2, a2, b2, c2, p2, q2, s2, l2, hf2, hT, hE2, hN2, hblk, hx2, hrd2, hk2, hz2⟩ := hrel
        obtain ⟨t2, ts3, rfl⟩ := hE2.cons
        obtain rfl : l2 = (e.line : Int) := hx2.line_eq
        clear HJ
        have cs := rdSkip r g o2 cap2 t2 ts3 [91] wr hrd2 (fun hi => (hE2.tail (isTk_kind hi)).ne)
        have hleft := hrd2.left
        have HEX : Hid (∀ W, Kept r wr W → RdAt r g o2 cap2 (t2 :: ts3) W → W.heap[N]? = some (.cells #[.int .i64 a2, .string b2, .int .i64 c2, .slice p2 q2 s2, .int .i64 (e.line : Int)] 40 (0, 0)) ∧ W.heap[w.heap.size]? = some exZ ∧
          PostE r g w (.ok (e, t2 :: ts3)) (.returned (.agg #[.int .i64 a2, .string b2, .int .i64 c2, .slice p2 q2 s2, .int .i64 (e.line : Int)])) (set5 W w.heap.size (.int .i64 a2) (.string b2) (.int .i64 c2) (.slice p2 q2 s2) (.int .i64 (e.line : Int)))) :=
          fun W hK hrd => MoreJ.leave hr hgw hNw hk2 hblk hz2 hx2 hK hrd
        have HBLK : Hid (∀ W, Kept r wr W → W.heap[N]? = some (.cells #[.int .i64 a2, .string b2, .int .i64 c2, .slice p2 q2 s2, .int .i64 (e.line : Int)] 40 (0, 0)) ∧ W.heap[w.heap.size]? = some exZ) :=
          fun W hK => ⟨(hK.block _ (Array.getElem?_eq_some_iff.1 hblk).1 (by omega)).trans hblk, (hK.block _ (Array.getElem?_eq_some_iff.1 hz2).1 (by omega)).trans hz2⟩
        have HX2 : Hid (ExIn (fun k => w.heap.size < k ∧ k ≠ N) wr e (.agg #[.int .i64 a2, .string b2, .int .i64 c2, .slice p2 q2 s2, .int .i64 (e.line : Int)])) := hx2
        have HK2 : Hid (Kept r w wr) := hk2
        have HE2 : Hid (EndsT (t2 :: ts3)) := hE2
        cases f2 with
        | zero => simp [pBehind] at hT
        | succ f3 =>
          have hf3 : f3 ≤ F := by omega
          simp only [pBehind, hdT_cons, List.tail_cons] at hT
          clear hx2 hk2 hrd2 hE2 hblk hz2
          by_cases hi : isTk t2 [91] = true
          · rw [hi] at cs
            rw [if_pos hi] at hT
            have hE3 := HE2.out.tail (isTk_kind hi)
            go_wp2_with fail
            refine cs.mono ?_
            clear cs
            rintro e' wE ⟨rfl, hkE, hrE⟩
            simp only [if_true] at hrE
            obtain ⟨pN, pz⟩ := HBLK.out wE hkE
            have HKE : Hid (Kept r wr wE) := hkE
            have HKW : Hid (Kept r w wE) := HK2.out.trans hkE
            have hNlt : N < wE.heap.size := (Array.getElem?_eq_some_iff.1 pN).1
            cases hb3 : pBetween f3 1 ts3 with
            | none => rw [hb3] at hT; cases hT
            | some r3 =>
              rw [hb3] at hT
              simp only [thenP] at hT
              have hb4 : pBetween F 1 ts3 = some r3 := by
                have := pBetween_up (k := F - f3) hb3
                rwa [show f3 + (F - f3) = F by omega] at this
              have cb : ∀ W : World, W.heap = wE.heap → W.os = wE.os → W.tape = wE.tape → W.output = wE.output → Calls Tryz.prog 37 #[.pointer (some ⟨r, 0, none⟩)] W fun e w' => Kept r wE w' ∧ PostE r g W r3 e w' := fun W e1 e2 e3 e4 =>
                (HEX1.out W _ _ ts3 r3 hb4 hE3 (hrE.keep (by rw [e1]) (by rw [e1])) ⟨e2.trans HKW.out.os, e3.trans HKW.out.tape, e4.trans HKW.out.output, by rw [e1]; exact HKW.out.size, fun k hk hr => by rw [e1]; exact HKW.out.block k hk hr⟩).mono fun e w' h =>
                  ⟨⟨h.1.os.trans e2, h.1.tape.trans e3, h.1.output.trans e4, by rw [← e1]; exact h.1.size, fun k hk hr => by rw [← e1]; exact h.1.block k (by rw [e1]; exact hk) hr⟩, h⟩
              obtain ⟨n0, n1, n2, n3, n4, nf⟩ := cells5 pN
              have HPN : Hid (wE.heap[N]? = some (.cells #[.int .i64 a2, .string b2, .int .i64 c2, .slice p2 q2 s2, .int .i64 (e.line : Int)] 40 (0, 0))) := pN
              have HPZ : Hid (wE.heap[w.heap.size]? = some exZ) := pz
              clear pN pz hrE hkE HEX1 HBLK HEX
              rcases r3 with a3 | ⟨x3, us3⟩
              · simp only [Option.some.injEq] at hT
                subst hT
                have cu' : ∀ W : World, W.heap = wE.heap → W.os = wE.os → W.tape = wE.tape → W.output = wE.output → Calls Tryz.prog 37 #[.pointer (some ⟨r, 0, none⟩)] W fun e w' => e = gaveUp a3 ∧ Kept r w w' := fun W e1 e2 e3 e4 => (cb W e1 e2 e3 e4).mono fun e w' h => ⟨h.2.2, HKW.out.trans h.1⟩
                clear cb
                go_wp2_with fail
                go_region_dies
                all_goals (go_wp2_with fail; refine (cu' _ (by rfl) (by rfl) (by rfl) (by rfl)).mono ?_; rintro e w4 ⟨rfl, hk4⟩; exact ⟨rfl, hk4, rfl⟩)
              · have hE5 := (parse_ends F).1 _ _ _ _ hb4 hE3
                have hl5 := pBetween_len hb4
                have hl7 : us3.length < leftR r wr := by rw [hleft]; simp only [List.length_cons]; omega
                have HT : Hid (pClose f3 (.mk 8 [] 0 [e, x3] e.line) us3 = some res) := hT
                have cu' : ∀ W : World, W.heap = wE.heap → W.os = wE.os → W.tape = wE.tape → W.output = wE.output → Calls Tryz.prog 37 #[.pointer (some ⟨r, 0, none⟩)] W fun e' w' => ∃ (a3 : Int) (b3 : ByteArray) (c3 : Int) (u0 : Option Addr) (u1 u2 : Nat) (l3 : Int), e' = .returned (.agg #[.int .i64 a3, .string b3, .int .i64 c3, .slice u0 u1 u2, .int .i64 l3]) ∧
                    w'.heap[N]? = some (.cells #[.int .i64 a2, .string b2, .int .i64 c2, .slice p2 q2 s2, .int .i64 (e.line : Int)] 40 (0, 0)) ∧ Hid (Kept r wE w' ∧ ExAt wE.heap.size w' x3 (.agg #[.int .i64 a3, .string b3, .int .i64 c3, .slice u0 u1 u2, .int .i64 l3]) ∧ ∃ o cap, RdAt r g o cap us3 w') := fun W e1 e2 e3 e4 => (cb W e1 e2 e3 e4).mono fun e' w' h => by
                  obtain ⟨hk4, -, v, o4, cap4, rfl, hx, hrd⟩ := h
                  obtain ⟨a3, b3, c3, u0, u1, u2, l3, rfl⟩ := hx.agg
                  exact ⟨a3, b3, c3, u0, u1, u2, l3, rfl, (hk4.block N hNlt (by omega)).trans HPN.out, hk4, (by rw [← e1]; exact hx : ExAt wE.heap.size w' x3 _), o4, cap4, hrd⟩
                clear cb hT
                go_wp2_with fail
                go_cut [] from 6 to 28 (fun wx => MoreJ r g N F w res pClose wx ∧ leftR r wx < leftR r wr)
                case first =>
                  go_region_with (go_at_call 37; refine (cu' _ (by rfl) (by rfl) (by rfl) (by rfl)).mono ?_; rintro e' w7 ⟨a3, b3, c3, u0, u1, u2, l3, rfl, p7, H7⟩; have hN7 : N < w7.heap.size := (Array.getElem?_eq_some_iff.1 p7).1; have p7' := (fun ob => (Below.heap_alloc w7 ob N hN7).trans p7); obtain ⟨m0, m1, m2, m3, m4, mf⟩ := cells5 p7; have m0' := cell_al m0; have m1' := cell_al m1; have m2' := cell_al m2; have m3' := cell_al m3; have m4' := cell_al m4; have mf' := (fun ob j => (cells5 (p7' ob)).2.2.2.2.2 j))
                  all_goals
                    obtain ⟨hk7, hx7, o7, cap7, hrd7⟩ := H7.out
                    obtain ⟨W, hW⟩ : ∃ W, W = (set5 w7 N (.int .i64 8) (.string ⟨#[]⟩) (.int .i64 0) (.slice (some ⟨w7.heap.size, 0, none⟩) 2 2) (.int .i64 (e.line : Int))).alloc (.cells #[.int .i64 a2, .string b2, .int .i64 c2, .slice p2 q2 s2, .int .i64 (e.line : Int), .int .i64 a3, .string b3, .int .i64 c3, .slice u0 u1 u2, .int .i64 l3] 40) := ⟨_, rfl⟩
                    obtain ⟨hJ, hlt7⟩ := MoreJ.two (p := pClose) 8 [] hr hgw hNw hNlt HX2.out HK2.out HKE.out hk7 p7 HPZ.out hx7 hrd7 hf3 HT.out hE5 hrd7.few (.int .i64 8) rfl W hW
                    have HJW : Hid (MoreJ r g N F w res pClose W ∧ leftR r W < leftR r wr) := show _ ∧ _ < _ from ⟨hJ, by rw [hlt7]; exact hl7⟩
                    change Exit.then _ _ _ _ ((set5 w7 N (.int .i64 8) (.string ⟨#[]⟩) (.int .i64 0) (.slice (some ⟨w7.heap.size, 0, none⟩) 2 2) (.int .i64 (e.line : Int))).alloc (.cells #[.int .i64 a2, .string b2, .int .i64 c2, .slice p2 q2 s2, .int .i64 (e.line : Int), .int .i64 a3, .string b3, .int .i64 c3, .slice u0 u1 u2, .int .i64 l3] 40))
                    rw [← hW]
                    clear hW hJ hlt7 hrd7 hx7 hk7 p7 p7' m0 m1 m2 m3 m4 mf m0' m1' m2' m3' m4' mf' n0 n1 n2 n3 n4 nf cu' H7 HPN HPZ HT HKE HKW HX2 HK2 HE2 hl5 hl7 hE5 hE3
                    go_wp2_with fail
                    go_meet
                    exact HJW.out
                case rest =>
                  obtain ⟨⟨e5, ts5, o5, cap5, f5, a5, b5, c5, p5, q5, s5, l5, hf5, hT5, hE6, hN5, hblk5, hx5, hrd5, hk5, hz5⟩, hlt⟩ := hcut
                  obtain ⟨t5, ts6, rfl⟩ := hE6.cons
                  have cn := rdNeed r g o5 cap5 t5 ts6 [93] wc hrd5 (fun hi => (hE6.tail (isTk_kind hi)).ne)
                  have hleft5 := hrd5.left
                  unfold pClose needP at hT5
                  simp only [hdT_cons, List.tail_cons] at hT5
                  by_cases hm : isTk t5 [93] = true
                  · simp only [if_pos hm] at cn
                    rw [if_pos hm] at hT5
                    have HMV : Hid (∀ W, Kept r wc W → RdAt r g (o5 + 5) (cap5 - 1) ts6 W → MoreJ r g N F w res (fun f e ts => pBehind f e ts) W ∧ leftR r W < leftR r wr) := fun W hK hR =>
                      ⟨MoreJ.moved (p := fun f e ts => pBehind f e ts) hr hNw hblk5 hx5 hk5 hz5 hK hR hf5 hT5 (hE6.tail (isTk_kind hm)), by rw [hR.left]; simp only [List.length_cons] at hleft5; omega⟩
                    clear hT5 hblk5 hx5 hrd5 hk5 hz5 cu' HT HX2 HK2 HE2 HKE HKW HPN HPZ n0 n1 n2 n3 n4 nf
                    go_wp2_with fail
                    refine cn.mono ?_
                    clear cn
                    rintro e9 w9 ⟨hk9, rfl, hr9⟩
                    have HM9 : Hid (MoreJ r g N F w res (fun f e ts => pBehind f e ts) w9 ∧ leftR r w9 < leftR r wr) := HMV.out w9 hk9 hr9
                    clear HMV hk9 hr9
                    go_wp2
                    exact HM9.out
                  · simp only [if_neg hm] at cn
                    rw [if_neg hm] at hT5
                    simp only [thenP, Option.some.injEq] at hT5
                    subst hT5
                    have HK5 : Hid (Kept r w wc) := hk5
                    clear hblk5 hx5 hrd5 hk5 hz5 cu' HT HX2 HK2 HE2 HKE HKW HPN HPZ n0 n1 n2 n3 n4 nf
                    go_wp2_with fail
                    refine cn.mono ?_
                    clear cn
                    rintro e9 w9 ⟨hk9, rfl⟩
                    exact ⟨rfl, HK5.out.trans hk9, rfl⟩
          · have hi' : isTk t2 [91] = false := by simpa using hi
            rw [hi'] at cs
            rw [if_neg hi] at hT
            go_wp2_with fail
            refine cs.mono ?_
            clear cs
            rintro e' wB ⟨rfl, hkB, hrB⟩
            have hrB' : RdAt r g o2 cap2 (t2 :: ts3) wB := by simpa using hrB
            have cd := rdSkip r g o2 cap2 t2 ts3 [46] wB hrB' (fun hi => (HE2.out.tail (isTk_kind hi)).ne)
            have HKB : Hid (Kept r wr wB) := hkB
            clear hkB hrB hrB'
            by_cases hd : isTk t2 [46] = true
            · rw [hd] at cd
              rw [if_pos hd] at hT
              have hE3 := HE2.out.tail (isTk_kind hd)
              obtain ⟨t3, ts4, rfl⟩ := hE3.cons
              go_wp2_with fail
              refine cd.mono ?_
              clear cd
              rintro e' wE ⟨rfl, hkE, hrE⟩
              have hkE' : Kept r wr wE := HKB.out.trans hkE
              have hrE' : RdAt r g (o2 + 5) (cap2 - 1) (t3 :: ts4) wE := by simpa using hrE
              obtain ⟨pN, pz⟩ := HBLK.out wE hkE'
              have HKE : Hid (Kept r wr wE) := hkE'
              have HKW : Hid (Kept r w wE) := HK2.out.trans hkE'
              have hNlt : N < wE.heap.size := (Array.getElem?_eq_some_iff.1 pN).1
              have HRE : Hid (RdAt r g (o2 + 5) (cap2 - 1) (t3 :: ts4) wE) := hrE'
              obtain ⟨n0, n1, n2, n3, n4, nf⟩ := cells5 pN
              have n0' := cell_al n0
              have n1' := cell_al n1
              have n2' := cell_al n2
              have n3' := cell_al n3
              have n4' := cell_al n4
              have HPN : Hid (wE.heap[N]? = some (.cells #[.int .i64 a2, .string b2, .int .i64 c2, .slice p2 q2 s2, .int .i64 (e.line : Int)] 40 (0, 0))) := pN
              have HPZ : Hid (wE.heap[w.heap.size]? = some exZ) := pz
              have cb : ∀ W : World, Kept r wE W → RdAt r g (o2 + 5) (cap2 - 1) (t3 :: ts4) W → Calls Tryz.prog 107 #[.pointer (some ⟨r, 0, none⟩)] W fun e w' => Kept r W w' ∧ if t3.k = 1 then e = .returned (.string (strB t3.s)) ∧ RdAt r g (o2 + 5 + 5) (cap2 - 1 - 1) ts4 w' else e = gaveUp t3.at0 := fun W hK hR =>
                rdName r g _ _ t3 ts4 W hR (fun hk => (hE3.tail (by omega)).ne)
              simp only [nameP, hdT_cons, List.tail_cons] at hT
              clear pN pz hrE hrE' hkE hkE' HKB HBLK HEX HEX1
              by_cases h3 : t3.k = 1
              · rw [if_pos h3] at hT
                have hE4 := hE3.tail (by omega : t3.k ≠ 0)
                have hl7 : ts4.length < leftR r wr := by rw [hleft]; simp only [List.length_cons]; omega
                have HT : Hid (pBehind f3 (.mk 9 t3.s 0 [e] e.line) ts4 = some res) := hT
                have cu' : ∀ W : World, Kept r wE W → RdAt r g (o2 + 5) (cap2 - 1) (t3 :: ts4) W → Calls Tryz.prog 107 #[.pointer (some ⟨r, 0, none⟩)] W fun e' w' => e' = .returned (.string (strB t3.s)) ∧ w'.heap[N]? = some (.cells #[.int .i64 a2, .string b2, .int .i64 c2, .slice p2 q2 s2, .int .i64 (e.line : Int)] 40 (0, 0)) ∧ W.heap.size ≤ w'.heap.size ∧ Hid (Kept r W w' ∧ RdAt r g (o2 + 5 + 5) (cap2 - 1 - 1) ts4 w') := fun W hK hR => (cb W hK hR).mono fun e' w' h => by
                  obtain ⟨hk4, hpost⟩ := h
                  rw [if_pos h3] at hpost
                  obtain ⟨rfl, hrd⟩ := hpost
                  exact ⟨rfl, (hk4.block N (Nat.lt_of_lt_of_le hNlt hK.size) (by omega)).trans ((hK.block N hNlt (by omega)).trans HPN.out), hk4.size, hk4, hrd⟩
                clear cb hT
                go_wp2_with fail
                go_region_with (go_at_call 107; refine (cu' _ (by first | exact Kept.drew r wE | exact ((Kept.refl r wE).alloc _).trans (Kept.drew _ _)) (by first | exact HRE.out.keep rfl rfl | exact (HRE.out.alloc _).keep rfl rfl)).mono ?_; rintro e' w7 ⟨rfl, p7, hs7, H7⟩; have hN7 : N < w7.heap.size := (Array.getElem?_eq_some_iff.1 p7).1; have p7' := (fun ob => (Below.heap_alloc w7 ob N hN7).trans p7); obtain ⟨m0, m1, m2, m3, m4, mf⟩ := cells5 p7; have m0' := cell_al m0; have m1' := cell_al m1; have m2' := cell_al m2; have m3' := cell_al m3; have m4' := cell_al m4; have mf' := (fun ob j => (cells5 (p7' ob)).2.2.2.2.2 j))
                all_goals (obtain ⟨hk7d, hrd7⟩ := H7.out)
                all_goals first
                  | (have hk7 : Kept r wE w7 := (Kept.drew r wE).trans hk7d
                     obtain ⟨W, hW⟩ : ∃ W, W = (set5 w7 N (.int .i64 9) (.string (strB t3.s)) (.int .i64 0) (.slice (some ⟨w7.heap.size, 0, none⟩) 1 1) (.int .i64 (e.line : Int))).alloc (.cells #[.int .i64 a2, .string b2, .int .i64 c2, .slice p2 q2 s2, .int .i64 (e.line : Int)] 40) := ⟨_, rfl⟩
                     obtain ⟨hJ, hlt7⟩ := MoreJ.one (p := fun f e ts => pBehind f e ts) 9 t3.s hr hgw hNw hNlt HX2.out HK2.out HKE.out hk7 p7 HPZ.out hrd7 hf3 HT.out hE4 hrd7.few (.int .i64 9) rfl W hW
                     have HJW : Hid (MoreJ r g N F w res (fun f e ts => pBehind f e ts) W ∧ leftR r W < leftR r wr) := show _ ∧ _ < _ from ⟨hJ, by rw [hlt7]; exact hl7⟩
                     change Exit.inBlock _ _ _ _ ((set5 w7 N (.int .i64 9) (.string (strB t3.s)) (.int .i64 0) (.slice (some ⟨w7.heap.size, 0, none⟩) 1 1) (.int .i64 (e.line : Int))).alloc (.cells #[.int .i64 a2, .string b2, .int .i64 c2, .slice p2 q2 s2, .int .i64 (e.line : Int)] 40))
                     rw [← hW]
                     clear hW hJ hlt7 hrd7 hk7 hk7d p7 p7' m0 m1 m2 m3 m4 mf m0' m1' m2' m3' m4' mf' n0 n1 n2 n3 n4 nf n0' n1' n2' n3' n4' cu' H7 HPN HPZ HT HKE HKW HX2 HK2 HE2 hl7 hE4 hE3 HRE
                     go_wp2
                     exact HJW.out)
                  | (have hk7 : Kept r (wE.alloc (.cells #[.int .i64 a2, .string b2, .int .i64 c2, .slice p2 q2 s2, .int .i64 (e.line : Int)] 40)) w7 := (Kept.drew r (wE.alloc (.cells #[.int .i64 a2, .string b2, .int .i64 c2, .slice p2 q2 s2, .int .i64 (e.line : Int)] 40))).trans hk7d
                     obtain ⟨W, hW⟩ : ∃ W, W = set5 w7 N (.int .i64 9) (.string (strB t3.s)) (.int .i64 0) (.slice (some ⟨wE.heap.size, 0, none⟩) 1 1) (.int .i64 (e.line : Int)) := ⟨_, rfl⟩
                     obtain ⟨hJ, hlt7⟩ := MoreJ.one' (p := fun f e ts => pBehind f e ts) 9 t3.s hr hgw hNw hNlt HX2.out HK2.out HKE.out hk7 p7 HPZ.out hrd7 hf3 HT.out hE4 (.int .i64 9) rfl W hW
                     have HJW : Hid (MoreJ r g N F w res (fun f e ts => pBehind f e ts) W ∧ leftR r W < leftR r wr) := show _ ∧ _ < _ from ⟨hJ, by rw [hlt7]; exact hl7⟩
                     change Exit.inBlock _ _ _ _ (set5 w7 N (.int .i64 9) (.string (strB t3.s)) (.int .i64 0) (.slice (some ⟨wE.heap.size, 0, none⟩) 1 1) (.int .i64 (e.line : Int)))
                     rw [← hW]
                     clear hW hJ hlt7 hrd7 hk7 hk7d p7 p7' m0 m1 m2 m3 m4 mf m0' m1' m2' m3' m4' mf' n0 n1 n2 n3 n4 nf n0' n1' n2' n3' n4' cu' H7 HPN HPZ HT HKE HKW HX2 HK2 HE2 hl7 hE4 hE3 HRE
                     go_wp2
                     exact HJW.out)
              · rw [if_neg h3] at hT
                simp only [thenP, Option.some.injEq] at hT
                subst hT
                have cu' : ∀ W : World, Kept r wE W → RdAt r g (o2 + 5) (cap2 - 1) (t3 :: ts4) W → Calls Tryz.prog 107 #[.pointer (some ⟨r, 0, none⟩)] W fun e w' => e = gaveUp t3.at0 ∧ Kept r w w' := fun W hK hR => (cb W hK hR).mono fun e w' h => by
                  obtain ⟨hk4, hpost⟩ := h
                  rw [if_neg h3] at hpost
                  exact ⟨hpost, HKW.out.trans (hK.trans hk4)⟩
                clear cb
                go_wp2_with fail
                go_region_dies
                all_goals
                  go_wp2_with fail
                  refine (cu' _ ?_ ?_).mono ?_
                  · first | exact Kept.drew r wE | exact ((Kept.refl r wE).alloc _).trans (Kept.drew _ _)
                  · first | exact HRE.out.keep rfl rfl | exact (HRE.out.alloc _).keep rfl rfl
                  · rintro e w4 ⟨rfl, hk4⟩; exact ⟨rfl, hk4, rfl⟩
            · have hd' : isTk t2 [46] = false := by simpa using hd
              rw [hd'] at cd
              rw [if_neg hd] at hT
              simp only [Option.some.injEq] at hT
              subst hT
              go_wp2_with fail
              refine cd.mono ?_
              clear cd
              rintro e' wC ⟨rfl, hkC, hrC⟩
              obtain ⟨pN, pz, hpo⟩ := HEX.out wC (HKB.out.trans hkC) (by simpa using hrC)
              obtain ⟨n0, n1, n2, n3, n4, nf⟩ := cells5 pN
              obtain ⟨q0, q1, q2', q3, q4, qf⟩ := cells5 pz
              obtain ⟨z0, z1, z2, z3, z4⟩ := set5_cells pz (.int .i64 a2) (.string b2) (.int .i64 c2) (.slice p2 q2 s2) (.int .i64 (e.line : Int))
              have HPO : Hid (PostE r g w (.ok (e, t2 :: ts3)) (.returned (.agg #[.int .i64 a2, .string b2, .int .i64 c2, .slice p2 q2 s2, .int .i64 (e.line : Int)])) (set5 wC w.heap.size (.int .i64 a2) (.string b2) (.int .i64 c2) (.slice p2 q2 s2) (.int .i64 (e.line : Int)))) := hpo
              clear HEX HEX1 HX2 HK2 HE2 hpo pN pz hkC hrC HKB HBLK
              go_wp2
              exact bodyPost_ret (v := .agg #[.int .i64 a2, .string b2, .int .i64 c2, .slice p2 q2 s2, .int .i64 (e.line : Int)]) (by simp [results, Tryz.results148, go_sem, z0, z1, z2, z3, z4]) rfl HPO.out
end Go.Proofs.YtghhamgealkodaaGreatDoor
/- syntax: what is read as an expression. -/
namespace Go.Proofs.YtghhamgealkodaaGreatDoor
open Go.RowKit Go.Shelf

/-- Whatever number of steps reaches: each function that reads expressions does as the mathematics says. -/
theorem readsE (r g : Nat) (hrl : r ≠ 1) : ∀ f, ReadsE r g f := by
  intro f
  induction f with
  | zero => exact ⟨fun _ _ _ _ _ _ h => by simp [pBetween] at h, fun _ _ _ _ _ h => by simp [pUnary] at h, fun _ _ _ _ _ h => by simp [pSingle] at h, fun _ _ _ _ _ h => by simp [pRow] at h, fun _ _ _ _ _ h => by simp [pBrackets] at h⟩
  | succ f C =>
    refine C.next hrl (fun o cap least ts w res h hE hl h6 hp => ?_) (fun o cap ts w res h hE hl hp => ?_)
    · refine rdBetween r g o cap f least ts w res h hE h.few hl hrl h6 hp fun w1 o1 cap1 ts1 r1 hb hE1 _ hR hK => ?_
      have := C.between (least + 1) w1 o1 cap1 ts1 r1 hb hE1 hR (hl.kept hK hrl)
      simpa using this
    · exact rdParts r g o cap f ts w res h hE hp (fun w1 o1 cap1 ts1 r1 hb hE1 hR hK => C.single w1 o1 cap1 ts1 r1 hb hE1 hR (hl.kept hK hrl)) fun w1 o1 cap1 ts1 r1 hb hE1 hR hK => C.expr hrl w1 o1 cap1 ts1 r1 hb hE1 hR (hl.kept hK hrl)

end Go.Proofs.YtghhamgealkodaaGreatDoor
/- syntax: how deep an expression is. -/
namespace Go.Proofs.YtghhamgealkodaaGreatDoor
open Go.RowKit Go.Shelf

mutual
def depthE : Ex → Nat
  | .mk _ _ _ kids _ => 1 + depthL kids
def depthL : List Ex → Nat
  | [] => 0
  | x :: xs => max (depthE x) (depthL xs)
end

theorem depthL_append (a b : List Ex) : depthL (a ++ b) = max (depthL a) (depthL b) := by
  induction a with
  | nil => simp [depthL]
  | cons x xs ih => simp [depthL, ih, Nat.max_assoc]

theorem depthL_mem {l : List Ex} {x : Ex} (h : x ∈ l) : depthE x ≤ depthL l := by
  induction l with
  | nil => cases h
  | cons y ys ih =>
    simp only [depthL]
    rcases List.mem_cons.1 h with rfl | h
    · omega
    · have := ih h; omega

theorem flat5 {us : List (List Value)} (hfive : ∀ c ∈ us, c.length = 5) {i j : Nat} {c : List Value} (hc : us[i]? = some c) (hj : j < 5) : us.flatten[i * 5 + j]? = c[j]? := by
  induction us generalizing i with
  | nil => simp at hc
  | cons d ds ih =>
    have hd := hfive d (by simp)
    cases i with
    | zero =>
      simp only [List.getElem?_cons_zero, Option.some.injEq] at hc
      subst hc
      rw [List.flatten_cons, List.getElem?_append_left (by omega)]; simp
    | succ i =>
      rw [List.flatten_cons, List.getElem?_append_right (by omega)]
      rw [show (i + 1) * 5 + j - d.length = i * 5 + j by omega]
      exact ih (fun c hc => hfive c (by simp [hc])) (by simpa using hc)

set_option maxRecDepth 100000 in
set_option maxHeartbeats 4000000 in
theorem greatest_any (S : Nat → Prop) (w : World) (l : List Ex) (v : Value) (h : RowIn S w l v) (hd : depthL l ≤ 4611686018427387904)
    (hone : ∀ x ∈ l, ∀ c w', Below w.heap.size w w' → ExIn S w' x c → Calls Tryz.prog 38 #[c] w' fun e w'' => e = .returned (.int .i64 (depthE x)) ∧ Below w.heap.size w w'') :
    Calls Tryz.prog 78 #[v, .func (.func 38) #[] #[]] w fun e w' => e = .returned (.int .i64 (depthL l)) ∧ Below w.heap.size w w' := by
  obtain ⟨d0, n, cap, rfl, hn⟩ : ∃ d0 n cap, v = .slice d0 n cap ∧ n = l.length := by
    rcases h with ⟨rfl, rfl⟩ | ⟨g, cap, us, rfl, _⟩
    · exact ⟨_, _, _, rfl, rfl⟩
    · exact ⟨_, _, _, rfl, rfl⟩
  have hcells : ∀ i x, l[i]? = some x → ∃ g a b c e0 e1 e2 k, d0 = some ⟨g, 0, none⟩ ∧ g < w.heap.size ∧ i < n ∧ n ≤ cap ∧ cap ≤ maxLen ∧ ExIn S w x (.agg #[.int .i64 a, .string b, .int .i64 c, .slice e0 e1 e2, .int .i64 k]) ∧
      w.cell? ⟨g, i * 5, none⟩ = some (.int .i64 a) ∧ w.cell? ⟨g, i * 5 + 1, none⟩ = some (.string b) ∧ w.cell? ⟨g, i * 5 + 2, none⟩ = some (.int .i64 c) ∧ w.cell? ⟨g, i * 5 + 3, none⟩ = some (.slice e0 e1 e2) ∧ w.cell? ⟨g, i * 5 + 4, none⟩ = some (.int .i64 k) := by
    intro i x hx
    rcases h with ⟨rfl, _⟩ | ⟨g, cap', us, hv, hne, hlen, hS, hg, hc, hm, hcell, hfive, hk⟩
    · simp at hx
    · cases hv
      have hi : i < l.length := (List.getElem?_eq_some_iff.1 hx).1
      obtain ⟨c, hc'⟩ : ∃ c, us[i]? = some c := ⟨us[i]'(by omega), List.getElem?_eq_getElem (by omega)⟩
      have hxx := hk i x c hx hc'
      obtain ⟨a, b, cc, e0, e1, e2, k, hag⟩ := hxx.agg
      have hcl : c = [.int .i64 a, .string b, .int .i64 cc, .slice e0 e1 e2, .int .i64 k] := by
        have := congrArg (fun v => match v with | .agg a => a.toList | _ => []) hag
        simpa using this
      subst hcl
      refine ⟨g, a, b, cc, e0, e1, e2, k, rfl, hg, by omega, by omega, hm, hxx, ?_, ?_, ?_, ?_, ?_⟩
      · exact hcell _ _ (by have := flat5 hfive hc' (j := 0) (by omega); simpa using this)
      · exact hcell _ _ (by have := flat5 hfive hc' (j := 1) (by omega); simpa using this)
      · exact hcell _ _ (by have := flat5 hfive hc' (j := 2) (by omega); simpa using this)
      · exact hcell _ _ (by have := flat5 hfive hc' (j := 3) (by omega); simpa using this)
      · exact hcell _ _ (by have := flat5 hfive hc' (j := 4) (by omega); simpa using this)
  have HC : Hid (∀ i x, l[i]? = some x → ∃ g a b c e0 e1 e2 k, d0 = some ⟨g, 0, none⟩ ∧ g < w.heap.size ∧ i < n ∧ n ≤ cap ∧ cap ≤ maxLen ∧ ExIn S w x (.agg #[.int .i64 a, .string b, .int .i64 c, .slice e0 e1 e2, .int .i64 k]) ∧
      w.cell? ⟨g, i * 5, none⟩ = some (.int .i64 a) ∧ w.cell? ⟨g, i * 5 + 1, none⟩ = some (.string b) ∧ w.cell? ⟨g, i * 5 + 2, none⟩ = some (.int .i64 c) ∧ w.cell? ⟨g, i * 5 + 3, none⟩ = some (.slice e0 e1 e2) ∧ w.cell? ⟨g, i * 5 + 4, none⟩ = some (.int .i64 k)) := hcells
  have HONE : Hid (∀ x ∈ l, ∀ c w', Below w.heap.size w w' → ExIn S w' x c → Calls Tryz.prog 38 #[c] w' fun e w'' => e = .returned (.int .i64 (depthE x)) ∧ Below w.heap.size w w'') := hone
  have hlen : n ≤ 9223372036854775807 := by
    rcases Nat.eq_zero_or_pos n with h0 | h0
    · omega
    · obtain ⟨_, _, _, _, _, _, _, _, _, _, _, h1, h2, _⟩ := hcells 0 (l[0]'(by omega)) (List.getElem?_eq_getElem (by omega))
      unfold maxLen at h2
      omega
  have HN : Hid (n = l.length) := hn
  clear h hone hcells hn
  go_enter Tryz.func78, Tryz.ntmps78
  go_wp2_with fail
  go_loopw [5, 10] (fun m i wr => ∃ k : Nat, k ≤ n ∧ i = .int .i64 k ∧ m = .int .i64 (depthL (l.take k)) ∧ Below w.heap.size w wr) (fun _ i _ => n - (intOf i).toNat)
  case atStart => exact ⟨0, Nat.zero_le _, rfl, rfl, Below.refl _ _⟩
  case round =>
    obtain ⟨k, hk, rfl, rfl, hbw⟩ := hrel
    by_cases hlt : k < n
    · obtain ⟨x, hx⟩ : ∃ x, l[k]? = some x := ⟨l[k]'(by rw [← HN.out]; exact hlt), List.getElem?_eq_getElem (by rw [← HN.out]; exact hlt)⟩
      obtain ⟨g, a, b, c, e0, e1, e2, j, rfl, hg, -, hnc, hcm, hxx, m0, m1, m2, m3, m4⟩ := HC.out k x hx
      have n0 := (hbw.cell (p := ⟨g, k * 5, none⟩) hg).trans m0
      have n1 := (hbw.cell (p := ⟨g, k * 5 + 1, none⟩) hg).trans m1
      have n2 := (hbw.cell (p := ⟨g, k * 5 + 2, none⟩) hg).trans m2
      have n3 := (hbw.cell (p := ⟨g, k * 5 + 3, none⟩) hg).trans m3
      have n4 := (hbw.cell (p := ⟨g, k * 5 + 4, none⟩) hg).trans m4
      clear m0 m1 m2 m3 m4
      have hlt' : (k : Int) < (n : Int) := by omega
      have hb4 : Below w.heap.size w (wr.alloc (.cells #[.int .i64 a, .string b, .int .i64 c, .slice e0 e1 e2, .int .i64 j] 40)) := hbw.alloc hbw.size _
      have hx4 := ExIn.kept hxx hb4.size fun k' _ hlt => hb4.block k' hlt
      have c4 := HONE.out x (List.mem_of_getElem? hx) _ _ hb4 hx4
      have HTK : Hid (depthL (l.take (k + 1)) = max (depthL (l.take k)) (depthE x)) := show _ = _ by
        rw [List.take_add_one, hx, depthL_append]; simp [depthL]
      have hmx : depthL (l.take (k + 1)) ≤ depthL l := by
        have := depthL_append (l.take (k + 1)) (l.drop (k + 1))
        rw [List.take_append_drop] at this
        omega
      have hd1 : depthE x ≤ 4611686018427387904 := by have := depthL_mem (List.mem_of_getElem? hx); omega
      have hd2 : depthL (l.take k) ≤ 4611686018427387904 := by have := HTK.out; omega
      clear hb4 hx4 hxx hbw HC HONE
      generalize depthL (l.take k) = M at *
      generalize hD : depthE x = D at *
      go_wp2_with fail
      refine c4.mono ?_
      clear c4
      rintro e w5 ⟨rfl, hb5⟩
      have HB5 : Hid (Below w.heap.size w w5) := hb5
      clear hb5
      go_wp2
      refine ⟨⟨k + 1, by omega, by go_num, ?_, HB5.out⟩, by simp [intOf]; omega⟩
      rw [HTK.out]; congr 1; omega
    · have hkn : k = n := by omega
      have hlt' : ¬(k : Int) < (n : Int) := by omega
      have htk : l.take k = l := List.take_of_length_le (by have := HN.out; omega)
      have HB5 : Hid (Below w.heap.size w wr) := hbw
      clear hbw HC HONE
      rw [htk]
      clear htk
      go_wp2
      refine bodyPost_ret (v := .int .i64 (depthL l)) (by simp [results, Tryz.results78, go_sem]) rfl ⟨rfl, HB5.out⟩

theorem ExIn.rowOf {S : Nat → Prop} {w : World} {x : Ex} {v : Value} (h : ExIn S w x v) : ∃ (k : Nat) (s : List UInt8) (n : Int) (l : List Ex) (line : Nat) (d : Value), x = .mk k s n l line ∧ v = .agg #[.int .i64 k, .string (strB s), .int .i64 n, d, .int .i64 line] ∧ RowIn S w l d := by
  cases h with
  | leaf k s n line => exact ⟨k, s, n, [], line, _, rfl, rfl, .inl ⟨rfl, rfl⟩⟩
  | node k s n kids line g cap us hne hlen hB hg hc hm hcell hfive hk => exact ⟨k, s, n, kids, line, _, rfl, rfl, .inr ⟨g, cap, us, rfl, hne, hlen, hB, hg, hc, hm, hcell, hfive, hk⟩⟩

set_option maxRecDepth 100000 in
set_option maxHeartbeats 4000000 in
theorem exprDepth_one (S : Nat → Prop) (w w1 : World) (x : Ex) (v : Value) (hb : Below w.heap.size w w1) (hx : ExIn S w1 x v) (hd : depthE x ≤ 4611686018427387904)
    (hg : ∀ l v' w2, (∀ y ∈ l, depthE y < depthE x) → depthL l + 1 = depthE x → Below w.heap.size w w2 → RowIn S w2 l v' → Calls Tryz.prog 78 #[v', .func (.func 38) #[] #[]] w2 fun e w' => e = .returned (.int .i64 (depthL l)) ∧ Below w.heap.size w w') :
    Calls Tryz.prog 38 #[v] w1 fun e w' => e = .returned (.int .i64 (depthE x)) ∧ Below w.heap.size w w' := by
  obtain ⟨a, b, c, d0, d1, d2, k, rfl⟩ := hx.agg
  obtain ⟨l, hl, hrow⟩ : ∃ l, depthE x = 1 + depthL l ∧ RowIn S w1 l (.slice d0 d1 d2) := by
    obtain ⟨k', s', n', l, line', d, rfl, hv, hrow⟩ := hx.rowOf
    have hv' := congrArg (fun v => match v with | .agg a => a.toList | _ => []) hv
    simp only [List.cons.injEq] at hv'
    obtain ⟨_, _, _, rfl, _⟩ := hv'
    exact ⟨l, by simp [depthE], hrow⟩
  have hb2 : Below w.heap.size w (w1.alloc (.cells #[.int .i64 a, .string b, .int .i64 c, .slice d0 d1 d2, .int .i64 k] 40)) := hb.alloc hb.size _
  have cg := hg l _ _ (fun y hy => by have := depthL_mem hy; omega) (by omega) hb2 (hrow.kept (by simp) fun k _ hlt => Below.heap_alloc _ _ _ hlt)
  rw [hl]
  clear hg hx hrow hb hb2
  have hm : depthL l ≤ 4611686018427387904 := by omega
  clear hl hd
  generalize depthL l = M at *
  go_enter Tryz.func38, Tryz.ntmps38
  go_wp2_with fail
  refine cg.mono ?_
  clear cg
  rintro e w5 ⟨rfl, hb5⟩
  have HB5 : Hid (Below w.heap.size w w5) := hb5
  clear hb5
  go_wp2
  refine bodyPost_ret (v := .int .i64 (1 + (M : Int))) (by simp [results, Tryz.results38, go_sem]) rfl ⟨by simp, HB5.out⟩

/-- How deep an expression in memory is. -/
theorem exprDepth_any (S : Nat → Prop) : ∀ (d : Nat) (w : World) (x : Ex) (v : Value) (w1 : World), depthE x ≤ d → d ≤ 4611686018427387904 → Below w.heap.size w w1 → ExIn S w1 x v →
    Calls Tryz.prog 38 #[v] w1 fun e w' => e = .returned (.int .i64 (depthE x)) ∧ Below w.heap.size w w' := by
  intro d
  induction d with
  | zero => intro w x v w1 h; cases x; simp [depthE] at h
  | succ d ih =>
    intro w x v w1 hx hd hb hE
    refine exprDepth_one S w w1 x v hb hE (by omega) fun l v' w2 hl hs hb2 hrow => ?_
    refine (greatest_any S w2 l v' hrow (by omega) fun y hy c w' hb' hy' => ih w2 y c w' (by have := hl y hy; omega) (by omega) hb' hy').mono fun e w' h => ⟨h.1, ?_⟩
    have h2 := h.2
    exact ⟨h2.os.trans hb2.os, h2.tape.trans hb2.tape, h2.output.trans hb2.output, Nat.le_trans hb2.size h2.size, fun k hk => (h2.block k (Nat.lt_of_lt_of_le hk hb2.size)).trans (hb2.block k hk)⟩
end Go.Proofs.YtghhamgealkodaaGreatDoor
/- syntax: what read does with its reader. -/
namespace Go.Proofs.YtghhamgealkodaaGreatDoor
open Go.RowKit Go.Shelf

/-- The whole of it is an expression; or the byte at which it can't go on. -/
def wholeR (res : PR Ex) : Except Nat Ex :=
  match res with
  | .error a => .error a
  | .ok (x, us) => if (hdT us).k = 0 then .ok x else .error (hdT us).at0

/-- All but the reader's block and B2 is kept. -/
structure Kept2 (r B2 : Nat) (w w' : World) : Prop where
  os : w'.os = w.os
  tape : w'.tape = w.tape
  output : w'.output = w.output
  size : w.heap.size ≤ w'.heap.size
  block : ∀ k, k < w.heap.size → k ≠ r → k ≠ B2 → w'.heap[k]? = w.heap[k]?

/-- What reading the whole leaves. -/
def PostW (r B2 : Nat) (w : World) (res : Except Nat Ex) (e : Ending) (w' : World) : Prop :=
  Kept2 r B2 w w' ∧ match res with
    | .error a => e = gaveUp a
    | .ok x => e = .returned (.tuple #[]) ∧ ∃ (a : Int) (b : ByteArray) (c : Int) (d0 : Option Addr) (d1 d2 : Nat) (l : Int), w'.heap[B2]? = some (.cells #[.int .i64 a, .string b, .int .i64 c, .slice d0 d1 d2, .int .i64 l] 40 (0, 0)) ∧ ExAt w.heap.size w' x (.agg #[.int .i64 a, .string b, .int .i64 c, .slice d0 d1 d2, .int .i64 l])

set_option maxRecDepth 100000 in
set_option maxHeartbeats 4000000 in
theorem readDo (r g o cap B0 B1 B2 f ty0 ty1 : Nat) (ts : List Tk) (w : World) (res : PR Ex) (h : RdAt r g o cap ts w) (hE : EndsT ts) (hl : LevT w) (hrl : r ≠ 1) (hp : pBetween f 1 ts = some res)
    (b0 : w.heap[B0]? = some (.cells #[.func (.func 37) #[] #[]] ty0 (0, 0))) (b1 : w.heap[B1]? = some (.cells #[.pointer (some ⟨r, 0, none⟩)] ty1 (0, 0))) (b2 : w.heap[B2]? = some exZ) (h1 : B1 ≠ r) (h2 : B2 ≠ r) (h3 : B2 ≠ g) (h4 : B1 ≠ B2) :
    Calls Tryz.prog 76 #[.pointer (some ⟨B0, 0, none⟩), .pointer (some ⟨B1, 0, none⟩), .pointer (some ⟨B2, 0, none⟩)] w (PostW r B2 w (wholeR res)) := by
  generalize hres : wholeR res = R
  obtain ⟨t0, ts0, rfl⟩ := hE.cons
  have ce := (readsE r g hrl f).expr hrl w o cap _ res hp hE h hl
  have c0 : w.cell? ⟨B0, 0, none⟩ = some (.func (.func 37) #[] #[]) := by simp only [World.cell?, b0]; rfl
  have c1 : w.cell? ⟨B1, 0, none⟩ = some (.pointer (some ⟨r, 0, none⟩)) := by simp only [World.cell?, b1]; rfl
  have hB2 : B2 < w.heap.size := (Array.getElem?_eq_some_iff.1 b2).1
  have hB1 : B1 < w.heap.size := (Array.getElem?_eq_some_iff.1 b1).1
  go_enter Tryz.func76, Tryz.ntmps76
  go_wp2_with fail
  refine ce.mono ?_
  clear ce
  rintro e w1 ⟨hk1, hpost⟩
  rcases res with a | ⟨x, us⟩
  · obtain rfl := hpost
    obtain rfl : R = .error a := by rw [← hres]; rfl
    exact ⟨rfl, ⟨hk1.os, hk1.tape, hk1.output, hk1.size, fun k hk hr _ => hk1.block k hk hr⟩, rfl⟩
  · obtain ⟨v, o1, cap1, rfl, hx, hrd⟩ := hpost
    obtain ⟨a, b, c, d0, d1, d2, l, rfl⟩ := hx.agg
    have hE1 := (parse_ends f).1 _ _ _ _ hp hE
    obtain ⟨t1, ts1, rfl⟩ := hE1.cons
    have p1 := (hk1.block _ hB1 h1).trans b1
    have p2 := (hk1.block _ hB2 h2).trans b2
    obtain ⟨q0, q1, q2, q3, q4, qf⟩ := cells5 p2
    obtain ⟨w2, hw2⟩ : ∃ w2, w2 = set5 w1 B2 (.int .i64 a) (.string b) (.int .i64 c) (.slice d0 d1 d2) (.int .i64 l) := ⟨_, rfl⟩
    have hkeep : ∀ k, k ≠ B2 → w2.heap[k]? = w1.heap[k]? := fun k hk => by rw [hw2]; exact set5_keep _ _ _ _ _ _ _ hk
    have hrd2 : RdAt r g o1 cap1 (t1 :: ts1) w2 := hrd.keep (hkeep r (fun e => h2 e.symm)) (hkeep g (fun e => h3 e.symm))
    have hs2 : w1.heap.size ≤ w2.heap.size := by rw [hw2]; simp
    have hx2 : ExAt w.heap.size w2 x (.agg #[.int .i64 a, .string b, .int .i64 c, .slice d0 d1 d2, .int .i64 l]) := ExAt.kept hx hs2 fun k hB _ => hkeep k (by omega)
    have pB : w2.heap[B2]? = some (.cells #[.int .i64 a, .string b, .int .i64 c, .slice d0 d1 d2, .int .i64 l] 40 (0, 0)) := by rw [hw2]; exact set5_block p2 _ _ _ _ _
    have d1' : w2.cell? ⟨B1, 0, none⟩ = some (.pointer (some ⟨r, 0, none⟩)) := by
      have p3 := (hkeep B1 h4).trans p1
      simp only [World.cell?, p3]; rfl
    have HK2 : Hid (Kept2 r B2 w w2) := ⟨by rw [hw2]; exact hk1.os, by rw [hw2]; exact hk1.tape, by rw [hw2]; exact hk1.output, Nat.le_trans hk1.size hs2, fun k hk hr hb => (hkeep k hb).trans (hk1.block k hk hr)⟩
    have ce := rdEnd r g o1 cap1 t1 ts1 w2 hrd2
    have HX2 : Hid (ExAt w.heap.size w2 x (.agg #[.int .i64 a, .string b, .int .i64 c, .slice d0 d1 d2, .int .i64 l])) := hx2
    have HPB : Hid (w2.heap[B2]? = some (.cells #[.int .i64 a, .string b, .int .i64 c, .slice d0 d1 d2, .int .i64 l] 40 (0, 0))) := pB
    have hw2' := hw2.symm
    have hsz := hk1.size
    have hB2' : B2 < w2.heap.size := (Array.getElem?_eq_some_iff.1 pB).1
    clear hx2 pB hrd2 hkeep hx hrd p1 p2 hk1 hw2
    by_cases hk : t1.k = 0
    · simp only [if_pos hk] at ce
      obtain rfl : R = .ok x := by rw [← hres]; unfold wholeR; simp only [hdT_cons, if_pos hk]
      go_wp2_with fail
      refine ce.mono ?_
      clear ce
      rintro e w3 ⟨hk3, rfl⟩
      have hP : PostW r B2 w (.ok x) (.returned (.tuple #[])) w3 := by
        refine ⟨⟨hk3.os.trans HK2.out.os, hk3.tape.trans HK2.out.tape, hk3.output.trans HK2.out.output, Nat.le_trans HK2.out.size hk3.size, fun k hk hr hb => (hk3.block k (Nat.lt_of_lt_of_le hk HK2.out.size) hr).trans (HK2.out.block k hk hr hb)⟩, rfl, a, b, c, d0, d1, d2, l, (hk3.block _ hB2' h2).trans HPB.out, ?_⟩
        exact ExAt.kept HX2.out hk3.size fun k hB hlt => hk3.block k hlt (by have := h.lt.1; omega)
      have HP : Hid (PostW r B2 w (.ok x) (.returned (.tuple #[])) w3) := hP
      clear hP hk3 HK2 HX2 HPB
      go_wp2
      exact bodyPost_ret (v := .tuple #[]) (by simp [results, Tryz.results76, go_sem]) rfl HP.out
    · simp only [if_neg hk] at ce
      obtain rfl : R = .error t1.at0 := by rw [← hres]; unfold wholeR; simp only [hdT_cons, if_neg hk]
      go_wp2_with fail
      refine ce.mono ?_
      clear ce
      rintro e w3 ⟨hk3, rfl⟩
      exact ⟨rfl, ⟨hk3.os.trans HK2.out.os, hk3.tape.trans HK2.out.tape, hk3.output.trans HK2.out.output, Nat.le_trans HK2.out.size hk3.size, fun k hk hr hb => (hk3.block k (Nat.lt_of_lt_of_le hk HK2.out.size) hr).trans (HK2.out.block k hk hr hb)⟩, rfl⟩
end Go.Proofs.YtghhamgealkodaaGreatDoor
/- syntax: a type's text is read. -/
namespace Go.Proofs.YtghhamgealkodaaGreatDoor
open Go.RowKit Go.Shelf

theorem strBB (a b : List UInt8) : strB a ++ strB b = strB (a ++ b) := by
  apply ByteArray.ext
  rw [ByteArray.data_append]
  unfold strB
  simp

/-- So many brackets close. -/
def closeP : Nat → List Tk → Except Nat (List Tk)
  | 0, ts => .ok ts
  | n + 1, ts => if isTk (hdT ts) [93] = true then closeP n ts.tail else .error (hdT ts).at0

/-- A type, of its brackets and its name. -/
def typeE (k : Nat) (s : List UInt8) : Except Nat (List Tk) → PR (List UInt8)
  | .error a => .error a
  | .ok vs => .ok (List.replicate k 91 ++ s ++ List.replicate k 93, vs)

/-- A type, of which so many brackets are open. -/
def typeS (k : Nat) : List Tk → PR (List UInt8)
  | [] => .error 0
  | t :: ts => if isTk t [91] = true then typeS (k + 1) ts else if t.k = 1 then typeE k t.s (closeP k ts) else .error t.at0

theorem closeP_ends {n : Nat} : ∀ {ts us : List Tk}, closeP n ts = .ok us → EndsT ts → EndsT us := by
  induction n with
  | zero => intro ts us h hE; cases h; exact hE
  | succ n ih =>
    intro ts us h hE
    unfold closeP at h
    split at h
    · rename_i hi; exact ih h (ends_is hE hi)
    · cases h

/-- What reading a type's text leaves. -/
def PostT (r g : Nat) (w : World) (res : PR (List UInt8)) (e : Ending) (w' : World) : Prop :=
  Kept r w w' ∧ match res with
    | .error a => e = gaveUp a
    | .ok (s, ts) => ∃ o cap, e = .returned (.string (strB s)) ∧ RdAt r g o cap ts w'

set_option maxRecDepth 100000 in
set_option maxHeartbeats 4000000 in
theorem rdType (r g o cap : Nat) (ts : List Tk) (w : World) (h : RdAt r g o cap ts w) (hE : EndsT ts) (hshort : ∀ t ∈ ts, NmT t)
    (hrep : ∀ (c : UInt8) (n : Nat) (w : World), n ≤ 1099511627776 → Calls Tryz.prog 144 #[.string ⟨#[c]⟩, .int .i64 n] w fun e w' => e = .returned (.string (strB (List.replicate n c))) ∧ Below w.heap.size w w') :
    Calls Tryz.prog 112 #[.pointer (some ⟨r, 0, none⟩)] w (PostT r g w (typeS 0 ts)) := by
  generalize hres : typeS 0 ts = R
  obtain ⟨t0, ts0, hts⟩ := hE.cons
  have hr : r < w.heap.size := by rw [hts] at h; exact h.lt.1
  have hgw : g < w.heap.size := by rw [hts] at h; exact h.lt.2
  have hfew := h.few
  have HD : Hid (RdAt r g o cap ts w) := h
  have HRES : Hid (typeS 0 ts = R) := hres
  have HE : Hid (EndsT ts) := hE
  have HSH : Hid (∀ t ∈ ts, NmT t) := hshort
  have HREP : Hid (∀ (c : UInt8) (n : Nat) (w : World), n ≤ 1099511627776 → Calls Tryz.prog 144 #[.string ⟨#[c]⟩, .int .i64 n] w fun e w' => e = .returned (.string (strB (List.replicate n c))) ∧ Below w.heap.size w w') := hrep
  clear h hres hE hts hrep hshort
  go_enter Tryz.func112, Tryz.ntmps112
  go_wp2_with fail
  go_loopw [3] (fun d wr => ∃ (k : Nat) (ts2 : List Tk) (o2 cap2 : Nat), d = .int .i64 k ∧ typeS k ts2 = R ∧ EndsT ts2 ∧ k + ts2.length ≤ 1099511627776 ∧ RdAt r g o2 cap2 ts2 wr ∧ Kept r w wr ∧ ∀ t ∈ ts2, NmT t) (fun _ wr => leftR r wr)
  case atStart => exact ⟨0, ts, o, cap, rfl, HRES.out, HE.out, by omega, HD.out, Kept.refl _ _, HSH.out⟩
  case round =>
    obtain ⟨k, ts2, o2, cap2, rfl, hT, hE2, hN, hrd, hk, hsh⟩ := hrel
    obtain ⟨t2, ts3, rfl⟩ := hE2.cons
    have cs := rdSkip r g o2 cap2 t2 ts3 [91] wr hrd (fun hi => (hE2.tail (isTk_kind hi)).ne)
    have hleft := hrd.left
    have HK : Hid (Kept r w wr) := hk
    have HSN : Hid (t2.k = 1 → t2.s.length ≤ 1099511627776) := hsh t2 (by simp)
    have HSH2 : Hid (∀ t ∈ ts3, NmT t) := fun t ht => hsh t (by simp [ht])
    clear HD HRES HE hrd hk hsh HSH
    unfold typeS at hT
    simp only [List.length_cons] at hN
    by_cases hi : isTk t2 [91] = true
    · rw [hi] at cs
      rw [if_pos hi] at hT
      have hE3 := hE2.tail (isTk_kind hi)
      have hwr : IntKind.i64.wrap ((k : Int) + 1) = (k : Int) + 1 := by rw [IntKind.wrap_i64]; omega
      go_wp2_with fail
      refine cs.mono ?_
      clear cs
      rintro e w3 ⟨rfl, hk3, h3⟩
      have h3' : RdAt r g (o2 + 5) (cap2 - 1) ts3 w3 := by simpa using h3
      have HR3 : Hid (RdAt r g (o2 + 5) (cap2 - 1) ts3 w3) := h3'
      have HK3 : Hid (Kept r w w3) := HK.out.trans hk3
      clear h3 h3' hk3
      go_wp2
      refine ⟨⟨k + 1, ts3, _, _, by go_num, hT, hE3, by omega, HR3.out, HK3.out, HSH2.out⟩, ?_⟩
      rw [HR3.out.left, hleft]; simp
    · have hi' : isTk t2 [91] = false := by simpa using hi
      rw [hi'] at cs
      rw [if_neg hi] at hT
      go_wp2_with fail
      refine cs.mono ?_
      clear cs
      rintro e w3 ⟨rfl, hk3, h3⟩
      have h3' : RdAt r g o2 cap2 (t2 :: ts3) w3 := by simpa using h3
      have HK3 : Hid (Kept r w w3) := HK.out.trans hk3
      have cn := rdName r g o2 cap2 t2 ts3 w3 h3' (fun hk => (hE2.tail (by omega)).ne)
      clear h3 h3' hk3
      by_cases h1 : t2.k = 1
      · have hsn : t2.s.length ≤ 1099511627776 := HSN.out h1
        simp only [if_pos h1] at cn
        rw [if_pos h1] at hT
        have hE3 := hE2.tail (by omega : t2.k ≠ 0)
        go_wp2_with fail
        refine cn.mono ?_
        clear cn
        rintro e w4 ⟨hk4, rfl, h4⟩
        have HK4 : Hid (Kept r w w4) := HK3.out.trans hk4
        have HR4 : Hid (RdAt r g (o2 + 5) (cap2 - 1) ts3 w4) := h4
        clear hk4 h4
        go_wp2_with fail
        obtain ⟨C, hC⟩ : ∃ C, C = closeP k ts3 := ⟨_, rfl⟩
        rw [← hC] at hT
        have HT : Hid (typeE k t2.s C = R) := hT
        have HC : Hid (C = closeP k ts3) := hC
        have HE3 : Hid (EndsT ts3) := hE3
        have hkn : k ≤ 1099511627776 := by omega
        clear hT hC hE3 hE2 hN hleft HK
        go_loopw [12] (fun v wq => ∃ (i : Nat) (ts5 : List Tk) (o5 cap5 : Nat), v = .int .i64 i ∧ i ≤ k ∧ C = closeP (k - i) ts5 ∧ EndsT ts5 ∧ RdAt r g o5 cap5 ts5 wq ∧ Kept r w wq) (fun v _ => k - (intOf v).toNat)
        case atStart => exact ⟨0, ts3, _, _, rfl, Nat.zero_le _, HC.out, HE3.out, HR4.out, HK4.out⟩
        case round =>
          obtain ⟨i, ts5, o5, cap5, rfl, hi5, hC5, hE5, hrd5, hk5⟩ := hrel
          obtain ⟨t5, ts6, rfl⟩ := hE5.cons
          have hrd5' := hrd5
          have HK5 : Hid (Kept r w _) := hk5
          clear HC HE3 HR4 HK4 HK3
          by_cases hlt : i < k
          · have hlt' : (i : Int) < (k : Int) := by omega
            have cn := rdNeed r g o5 cap5 t5 ts6 [93] _ hrd5 (fun hi => (hE5.tail (isTk_kind hi)).ne)
            rw [show k - i = (k - i - 1) + 1 by omega] at hC5
            simp only [closeP, hdT_cons, List.tail_cons] at hC5
            have hwr : IntKind.i64.wrap ((i : Int) + 1) = (i : Int) + 1 := by rw [IntKind.wrap_i64]; omega
            clear hrd5 hrd5' hk5
            by_cases hm : isTk t5 [93] = true
            · simp only [if_pos hm] at cn
              rw [if_pos hm] at hC5
              have HC5 : Hid (C = closeP (k - i - 1) ts6) := hC5
              have HE5 : Hid (EndsT ts6) := hE5.tail (isTk_kind hm)
              clear hC5 hE5
              go_wp2_with fail
              refine cn.mono ?_
              clear cn
              rintro e w6 ⟨hk6, rfl, h6⟩
              have HK6 : Hid (Kept r w w6) := HK5.out.trans hk6
              have HR6 : Hid (RdAt r g (o5 + 5) (cap5 - 1) ts6 w6) := h6
              clear hk6 h6
              go_wp2
              exact ⟨⟨i + 1, ts6, _, _, by go_num, by omega, by rw [HC5.out, show k - (i + 1) = k - i - 1 by omega], HE5.out, HR6.out, HK6.out⟩, by simp [intOf]; omega⟩
            · simp only [if_neg hm] at cn
              rw [if_neg hm] at hC5
              have hR := HT.out
              rw [hC5] at hR
              simp only [typeE] at hR
              subst hR
              go_wp2_with fail
              refine cn.mono ?_
              clear cn
              rintro e w6 ⟨hk6, rfl⟩
              exact ⟨rfl, HK5.out.trans hk6, rfl⟩
          · have hlt' : ¬(i : Int) < (k : Int) := by omega
            rw [show k - i = 0 by omega] at hC5
            simp only [closeP] at hC5
            have hR := HT.out
            rw [hC5] at hR
            simp only [typeE] at hR
            subst hR
            have HR5 : Hid (RdAt r g o5 cap5 (t5 :: ts6) wr) := hrd5
            have c1 := HREP.out 91 k wr hkn
            have hz1 : (strB (List.replicate k 91)).size = k := by rw [strB_size, List.length_replicate]
            have hz2 : (strB t2.s).size = t2.s.length := strB_size _
            have hz3 : (strB (List.replicate k 93)).size = k := by rw [strB_size, List.length_replicate]
            have hz4 : (strB (List.replicate k 91) ++ strB t2.s).size = k + t2.s.length := by rw [strBB, strB_size, List.length_append, List.length_replicate]
            clear hrd5 hrd5' hk5 hC5 hE5 HT
            go_wp2_with fail
            refine c1.mono ?_
            clear c1
            rintro e w6 ⟨rfl, hb6⟩
            have hk6 : Kept r w w6 := HK5.out.trans (Kept.of hb6)
            have hr6 : RdAt r g o5 cap5 (t5 :: ts6) w6 := HR5.out.keep (hb6.block _ HR5.out.lt.1) (hb6.block _ HR5.out.lt.2)
            have c2 := HREP.out 93 k w6 hkn
            have HK6 : Hid (Kept r w w6) := hk6
            have HR6 : Hid (RdAt r g o5 cap5 (t5 :: ts6) w6) := hr6
            clear hk6 hr6 hb6
            go_wp2_with fail
            refine c2.mono ?_
            clear c2
            rintro e w7 ⟨rfl, hb7⟩
            have HK7 : Hid (Kept r w w7) := HK6.out.trans (Kept.of hb7)
            have HR7 : Hid (RdAt r g o5 cap5 (t5 :: ts6) w7) := HR6.out.keep (hb7.block _ HR6.out.lt.1) (hb7.block _ HR6.out.lt.2)
            clear hb7
            go_wp2
            refine bodyPost_ret (v := .string (strB (List.replicate k 91) ++ strB t2.s ++ strB (List.replicate k 93))) (by simp [results, Tryz.results112, go_sem]) rfl ⟨HK7.out, _, _, ?_, HR7.out⟩
            rw [strBB, strBB]
      · simp only [if_neg h1] at cn
        rw [if_neg h1] at hT
        subst hT
        go_wp2_with fail
        refine cn.mono ?_
        clear cn
        rintro e w4 ⟨hk4, rfl⟩
        exact ⟨rfl, HK3.out.trans hk4, rfl⟩
end Go.Proofs.YtghhamgealkodaaGreatDoor
