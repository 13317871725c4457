import Derived.Test.YtghhamgealkodaaGreatDoorMQ18
/- syntax: a function is read. -/
namespace Go.Proofs.YtghhamgealkodaaGreatDoor
open Go.RowKit Go.Shelf

/-- A function. -/
structure Fc where
  name : List UInt8
  params : List Pm
  result : List UInt8
  body : List St
  line : Nat

/-- Parameters in brackets, in so many steps. -/
def pParB (f : Nat) (ts : List Tk) : Option (PR (List Pm)) := thenP (needP [40] ts) fun _ us => if isTk (hdT us) [41] = true then some (.ok ([], us.tail)) else thenP (pParams f [] us) fun l us => thenP (needP [41] us) fun _ us => some (.ok (l, us))
/-- The result's type, if one is told. -/
def resP (ts : List Tk) : Option (PR (List UInt8)) := if isTk (hdT ts) [58] = true then some (typeS 0 ts.tail) else some (.ok ([], ts))
/-- A function, in so many steps. -/
def pFunc (f line : Nat) (ts : List Tk) : Option (PR Fc) := thenP (nameP ts) fun s us => thenP (pParB f us) fun l us => thenP (resP us) fun t us => thenP (pBlock f us) fun b us => some (.ok (⟨s, l, t, b, line⟩, us))

/-- The function's value in memory. -/
def FcIn (B : Nat) (w : World) (x : Fc) (v : Value) : Prop :=
  ∃ vp vb, v = .agg #[.string (strB x.name), vp, .string (strB x.result), vb, .int .i64 (x.line : Int)] ∧ ParAt B w x.params vp ∧ StsIn (fun k => B ≤ k) w x.body vb
abbrev fcO (a : ByteArray) (p : Value) (t : ByteArray) (b : Value) (l : Int) : Obj := .cells #[.string a, p, .string t, b, .int .i64 l] 78
abbrev fcZ : Obj := fcO ⟨#[]⟩ (.slice none 0 0) ⟨#[]⟩ (.slice none 0 0) 0
/-- What reading a function leaves. -/
def PostF (r g : Nat) (w : World) (res : PR Fc) (e : Ending) (w' : World) : Prop :=
  Kept r w w' ∧ match res with
    | .error a => e = gaveUp a
    | .ok (x, ts) => ∃ v o cap, e = .returned v ∧ FcIn w.heap.size w' x v ∧ RdAt r g o cap ts w'

theorem pParams_ends {f : Nat} : ∀ {pre l : List Pm} {ts us : List Tk}, pParams f pre ts = some (.ok (l, us)) → EndsT ts → EndsT us := by
  induction f with
  | zero => intro pre l ts us h; simp [pParams] at h
  | succ f ih =>
    intro pre l ts us h hE
    rw [pParams] at h
    cases hb : paramR ts with
    | error a => rw [hb] at h; cases h
    | ok y =>
      obtain ⟨p, us1⟩ := y
      rw [hb] at h
      simp only at h
      have hE1 := (paramR_ends hb hE).1
      split at h
      · rename_i hc; exact ih h (ends_is hE1 hc)
      · exact okP_ends h hE1
theorem pParB_ends {f : Nat} {ts us : List Tk} {l : List Pm} (h : pParB f ts = some (.ok (l, us))) (hE : EndsT ts) : EndsT us := by
  unfold pParB at h
  obtain ⟨_, us1, h1, h⟩ := thenP_ok h
  have hE1 := needP_ends h1 hE
  split at h
  · rename_i hc; exact okP_ends h (ends_is hE1 hc)
  · obtain ⟨l2, us2, h2, h⟩ := thenP_ok h
    obtain ⟨_, us3, h3, h⟩ := thenP_ok h
    exact okP_ends h (needP_ends h3 (pParams_ends h2 hE1))
theorem resP_ends {ts us : List Tk} {s : List UInt8} (h : resP ts = some (.ok (s, us))) (hE : EndsT ts) : EndsT us := by
  unfold resP at h
  split at h
  · rename_i hc
    simp only [Option.some.injEq] at h
    exact (typeS_ends _ _ _ _ h (ends_is hE hc)).1
  · exact okP_ends h hE
theorem ParAt.keptR {r B : Nat} {w w' : World} {l : List Pm} {v : Value} (h : ParAt B w l v) (hk : Kept r w w') (hB : r < B) : ParAt B w' l v := h.kept hk.size fun k hk' hlt => hk.block k hlt (by omega)
theorem ParAt.setP {B P j : Nat} {w : World} {l : List Pm} {v : Value} (h : ParAt B w l v) (u : Value) (hP : P < B) : ParAt B (w.setCell ⟨P, j, none⟩ u) l v := h.kept (by simp) fun k hk _ => Below.heap_setCell _ _ _ _ (by simp; omega)

set_option maxRecDepth 100000 in
set_option maxHeartbeats 8000000 in
theorem rdFunc (r g o cap line F : Nat) (ts : List Tk) (w : World) (R : PR Fc) (h : RdAt r g o cap ts w) (hE : EndsT ts) (hp : pFunc F line ts = some R)
    (hpar : ∀ w1 o1 cap1 ts1 r1, pParB F ts1 = some r1 → EndsT ts1 → RdAt r g o1 cap1 ts1 w1 → Kept r w w1 → Calls Tryz.prog 111 #[.pointer (some ⟨r, 0, none⟩), .func (.func 110) #[.pointer (some ⟨r, 0, none⟩)] #[]] w1 (PostB r g w1 r1))
    (hty : ∀ w1 o1 cap1 ts1, EndsT ts1 → RdAt r g o1 cap1 ts1 w1 → Kept r w w1 → Calls Tryz.prog 112 #[.pointer (some ⟨r, 0, none⟩)] w1 (PostT r g w1 (typeS 0 ts1)))
    (hbl : ∀ w1 o1 cap1 ts1 r1, pBlock F ts1 = some r1 → EndsT ts1 → RdAt r g o1 cap1 ts1 w1 → Kept r w w1 → Calls Tryz.prog 113 #[.pointer (some ⟨r, 0, none⟩)] w1 (PostSs r g w1 r1)) :
    Calls Tryz.prog 63 #[.pointer (some ⟨r, 0, none⟩), .int .i64 (line : Int)] w (PostF r g w R) := by
  have hmf : ∀ (fn : Fn) (first cap : Array Value) (w : World), (Instr.makeFunc fn first cap).run Tryz.prog w = .ok (.func fn first cap) w := fun _ _ _ _ => rfl
  obtain ⟨t0, ts0, rfl⟩ := hE.cons
  have hr := h.lt.1
  have hgw := h.lt.2
  obtain ⟨w0, hw0⟩ : ∃ w0, w0 = w.alloc fcZ := ⟨_, rfl⟩
  have h0 : RdAt r g o cap (t0 :: ts0) w0 := by rw [hw0]; exact h.alloc _
  have k0 : Kept r w w0 := by rw [hw0]; exact (Kept.refl r w).alloc _
  have b0 : w0.heap[w.heap.size]? = some fcZ := by rw [hw0]; exact World.alloc_heap_new _ _
  have hs0 : w0.heap.size = w.heap.size + 1 := by rw [hw0]; simp
  have cn := rdName r g o cap t0 ts0 w0 h0 (fun hk => (hE.tail (by omega)).ne)
  have HW0 : Hid (w0 = w.alloc fcZ) := hw0
  have HBL : Hid (∀ w1 o1 cap1 ts1 r1, pBlock F ts1 = some r1 → EndsT ts1 → RdAt r g o1 cap1 ts1 w1 → Kept r w w1 → Calls Tryz.prog 113 #[.pointer (some ⟨r, 0, none⟩)] w1 (PostSs r g w1 r1)) := hbl
  have HTY : Hid (∀ w1 o1 cap1 ts1, EndsT ts1 → RdAt r g o1 cap1 ts1 w1 → Kept r w w1 → Calls Tryz.prog 112 #[.pointer (some ⟨r, 0, none⟩)] w1 (PostT r g w1 (typeS 0 ts1))) := hty
  have HPAR : Hid (∀ w1 o1 cap1 ts1 r1, pParB F ts1 = some r1 → EndsT ts1 → RdAt r g o1 cap1 ts1 w1 → Kept r w w1 → Calls Tryz.prog 111 #[.pointer (some ⟨r, 0, none⟩), .func (.func 110) #[.pointer (some ⟨r, 0, none⟩)] #[]] w1 (PostB r g w1 r1)) := hpar
  unfold pFunc nameP at hp
  simp only [hdT_cons, List.tail_cons] at hp
  clear h h0 hw0 hbl hty hpar
  by_cases hk : t0.k = 1
  · simp only [if_pos hk] at cn
    rw [if_pos hk] at hp
    simp only [thenP] at hp
    have hE1 := hE.tail (by omega : t0.k ≠ 0)
    go_enter Tryz.func63, Tryz.ntmps63
    go_wp2_with fail
    rw [← HW0.out]
    refine cn.mono ?_
    clear cn HW0
    rintro e w1 ⟨hk1, rfl, h1⟩
    obtain ⟨SB0, hSB0⟩ : ∃ SB0, SB0 = strB t0.s := ⟨_, rfl⟩
    rw [← hSB0]
    have HSB0 : Hid (SB0 = strB t0.s) := hSB0
    obtain ⟨w2, hw2⟩ : ∃ w2, w2 = w1.alloc (fcO SB0 (.slice none 0 0) ⟨#[]⟩ (.slice none 0 0) line) := ⟨_, rfl⟩
    have hs1 := hk1.size
    have k2 : Kept r w w2 := by rw [hw2]; exact (k0.trans hk1).alloc _
    have b2 : w2.heap[w.heap.size]? = some fcZ := by rw [hw2]; exact (Below.heap_alloc _ _ _ (by omega)).trans ((hk1.block _ (by omega) (by omega)).trans b0)
    obtain ⟨P, hP⟩ : ∃ P, P = w1.heap.size := ⟨_, rfl⟩
    have p2 : w2.heap[P]? = some (fcO SB0 (.slice none 0 0) ⟨#[]⟩ (.slice none 0 0) line) := by rw [hw2, hP]; exact World.alloc_heap_new _ _
    have hs2 : w2.heap.size = P + 1 := by rw [hw2, hP]; simp
    obtain ⟨t1, us1, rfl⟩ := hE1.cons
    have h2 : RdAt r g (o + 5) (cap - 1) (t1 :: us1) w2 := by rw [hw2]; exact h1.alloc _
    cases hb2 : pParB F (t1 :: us1) with
    | none => rw [hb2] at hp; cases hp
    | some r2 =>
      rw [hb2] at hp
      have cp := HPAR.out w2 _ _ _ r2 hb2 hE1 h2 k2
      have HW2 : Hid (w2 = w1.alloc (fcO SB0 (.slice none 0 0) ⟨#[]⟩ (.slice none 0 0) line)) := hw2
      have HB2 : Hid (w2.heap[w.heap.size]? = some fcZ ∧ w2.heap[P]? = some (fcO SB0 (.slice none 0 0) ⟨#[]⟩ (.slice none 0 0) line)) := ⟨b2, p2⟩
      have HK2 : Hid (Kept r w w2) := k2
      have HS : Hid (w.heap.size < P ∧ w2.heap.size = P + 1) := ⟨by omega, hs2⟩
      have HPP : Hid (w1.heap.size = P) := hP.symm
      clear hw2 k2 b2 p2 hs2 h2 h1 hk1 hs1 hP k0 b0 hs0 hSB0
      go_wp2_with fail
      rw [← HW2.out]
      rw [HPP.out]
      refine cp.mono ?_
      clear cp HW2
      rintro e w3 ⟨hk3, hpost⟩
      rcases r2 with a | ⟨pl, us2⟩
      · obtain rfl := hpost
        simp only [Option.some.injEq] at hp
        subst hp
        exact ⟨rfl, HK2.out.trans hk3, rfl⟩
      · obtain ⟨vp, o3, cap3, rfl, hps, hrd3⟩ := hpost
        simp only at hp
        obtain ⟨c0, c1, c2, rfl⟩ := hps.slice
        have hE2 := pParB_ends hb2 hE1
        obtain ⟨t2, us3, rfl⟩ := hE2.cons
        have hS := HS.out
        have hs3 := hk3.size
        have b3 := (hk3.block w.heap.size (by omega) (by omega)).trans HB2.out.1
        have p3 := (hk3.block P (by omega) (by omega)).trans HB2.out.2
        obtain ⟨-, m1, -, -, -, mf⟩ := cells5 p3
        have mf1 := mf 1
        obtain ⟨w4, hw4⟩ : ∃ w4, w4 = w3.setCell ⟨P, 1, none⟩ (.slice c0 c1 c2) := ⟨_, rfl⟩
        have p4 : w4.heap[P]? = some (fcO SB0 (.slice c0 c1 c2) ⟨#[]⟩ (.slice none 0 0) line) := by rw [hw4]; exact setCell_block _ p3
        have b4 : w4.heap[w.heap.size]? = some fcZ := by rw [hw4, Below.heap_setCell _ _ _ _ (by simp; omega)]; exact b3
        have hz4 : w4.heap.size = w3.heap.size := by rw [hw4]; simp
        have hrd4 : RdAt r g o3 cap3 (t2 :: us3) w4 := by rw [hw4]; exact hrd3.setP _ (by omega) (by omega)
        have k4 : Kept r w w4 := by rw [hw4]; exact (HK2.out.trans hk3).setOther (by simp; omega) _
        have hps4 : ParAt w2.heap.size w4 pl (.slice c0 c1 c2) := by rw [hw4]; exact hps.setP _ (by omega)
        have cs := rdSkip r g o3 cap3 t2 us3 [58] w4 hrd4 (fun hi => (hE2.tail (isTk_kind hi)).ne)
        have HB4 : Hid (w4.heap[w.heap.size]? = some fcZ ∧ w4.heap[P]? = some (fcO SB0 (.slice c0 c1 c2) ⟨#[]⟩ (.slice none 0 0) line)) := ⟨b4, p4⟩
        have HK4 : Hid (Kept r w w4) := k4
        have HPS4 : Hid (ParAt w2.heap.size w4 pl (.slice c0 c1 c2)) := hps4
        have hw4' := hw4.symm
        simp only [resP, hdT_cons, List.tail_cons] at hp
        clear hw4 p4 b4 hz4 hrd4 k4 hps4 hps hrd3 b3 p3 mf hk3 hs3 hS HB2 HK2
        by_cases hi : isTk t2 [58] = true
        · rw [hi] at cs
          simp only [if_pos hi] at hp
          have hE3 := hE2.tail (isTk_kind hi)
          go_wp2_with fail
          refine cs.mono ?_
          clear cs hw4' m1 mf1
          rintro e w5 ⟨rfl, hk5, h5⟩
          have h5' : RdAt r g (o3 + 5) (cap3 - 1) us3 w5 := by simpa using h5
          have ct := HTY.out w5 _ _ us3 hE3 h5' (HK4.out.trans hk5)
          have HK45 : Hid (Kept r w4 w5) := hk5
          clear h5 h5' hk5
          go_wp2_with fail
          refine ct.mono ?_
          clear ct
          rintro e w6 ⟨hk6, hpost⟩
          have HK46 : Hid (Kept r w4 w6) := HK45.out.trans hk6
          cases hR6 : typeS 0 us3 with
          | error a =>
            rw [hR6] at hpost hp
            obtain rfl := hpost
            simp only [Option.some.injEq] at hp
            subst hp
            exact ⟨rfl, HK4.out.trans HK46.out, rfl⟩
          | ok y =>
            obtain ⟨ty, us4⟩ := y
            rw [hR6] at hpost hp
            obtain ⟨o6, cap6, rfl, hrd6⟩ := hpost
            simp only at hp
            have hE4 := (typeS_ends _ _ _ _ hR6 hE3).1
            obtain ⟨TY, hTY⟩ : ∃ TY, TY = strB ty := ⟨_, rfl⟩
            rw [← hTY]
            have HTYB : Hid (TY = strB ty) := hTY
            have hS := HS.out
            have hs6 := HK46.out.size
            have hP4 : P < w4.heap.size := (Array.getElem?_eq_some_iff.1 HB4.out.2).1
            have hN4 : w.heap.size < w4.heap.size := (Array.getElem?_eq_some_iff.1 HB4.out.1).1
            have b6 := (HK46.out.block w.heap.size hN4 (by omega)).trans HB4.out.1
            have p6 := (HK46.out.block P hP4 (by omega)).trans HB4.out.2
            have hps6 := HPS4.out.keptR HK46.out (by omega)
            obtain ⟨-, -, m2, -, -, mf⟩ := cells5 p6
            have mf2 := mf 2
            obtain ⟨w7, hw7⟩ : ∃ w7, w7 = w6.setCell ⟨P, 2, none⟩ (.string TY) := ⟨_, rfl⟩
            have p7 : w7.heap[P]? = some (fcO SB0 (.slice c0 c1 c2) TY (.slice none 0 0) line) := by rw [hw7]; exact setCell_block _ p6
            have b7 : w7.heap[w.heap.size]? = some fcZ := by rw [hw7, Below.heap_setCell _ _ _ _ (by simp; omega)]; exact b6
            have hrd7 : RdAt r g o6 cap6 us4 w7 := by rw [hw7]; exact hrd6.setP _ (by omega) (by omega)
            have k7 : Kept r w w7 := by rw [hw7]; exact (HK4.out.trans HK46.out).setOther (by simp; omega) _
            have hps7 : ParAt w2.heap.size w7 pl (.slice c0 c1 c2) := by rw [hw7]; exact hps6.setP _ (by omega)
            have hw7' := hw7.symm
            clear hw7 p6 b6 hps6 hrd6 mf hs6 hP4 hN4 hS hTY hk6
            cases hb8 : pBlock F us4 with
            | none => rw [hb8] at hp; cases hp
            | some r8 =>
              rw [hb8] at hp
              have cb := HBL.out w7 _ _ _ r8 hb8 hE4 hrd7 k7
              have HB7 : Hid (w7.heap[w.heap.size]? = some fcZ ∧ w7.heap[P]? = some (fcO SB0 (.slice c0 c1 c2) TY (.slice none 0 0) line)) := ⟨b7, p7⟩
              have HK7 : Hid (Kept r w w7) := k7
              have HPS7 : Hid (ParAt w2.heap.size w7 pl (.slice c0 c1 c2)) := hps7
              clear b7 p7 k7 hps7 hrd7
              go_wp2_with fail
              refine cb.mono ?_
              clear cb hw7' m2 mf2
              rintro e w8 ⟨hk8, hpost⟩
              rcases r8 with a | ⟨bl, us5⟩
              · obtain rfl := hpost
                simp only [Option.some.injEq] at hp
                subst hp
                exact ⟨rfl, HK7.out.trans hk8, rfl⟩
              · obtain ⟨vb, o8, cap8, rfl, hbs, hrd8⟩ := hpost
                simp only [Option.some.injEq] at hp
                subst hp
                obtain ⟨d0, d1, d2, rfl⟩ := hbs.slice
                have hS := HS.out
                have hs8 := hk8.size
                have hP7 : P < w7.heap.size := (Array.getElem?_eq_some_iff.1 HB7.out.2).1
                have hN7 : w.heap.size < w7.heap.size := (Array.getElem?_eq_some_iff.1 HB7.out.1).1
                have b8 := (hk8.block w.heap.size hN7 (by omega)).trans HB7.out.1
                have p8 := (hk8.block P hP7 (by omega)).trans HB7.out.2
                have hps8 := HPS7.out.keptR hk8 (by omega)
                obtain ⟨-, -, -, m3, -, mf⟩ := cells5 p8
                have mf3 := mf 3
                obtain ⟨w9, hw9⟩ : ∃ w9, w9 = w8.setCell ⟨P, 3, none⟩ (.slice d0 d1 d2) := ⟨_, rfl⟩
                have p9 : w9.heap[P]? = some (fcO SB0 (.slice c0 c1 c2) TY (.slice d0 d1 d2) line) := by rw [hw9]; exact setCell_block _ p8
                have b9 : w9.heap[w.heap.size]? = some fcZ := by rw [hw9, Below.heap_setCell _ _ _ _ (by simp; omega)]; exact b8
                have hrd9 : RdAt r g o8 cap8 us5 w9 := by rw [hw9]; exact hrd8.setP _ (by omega) (by omega)
                have k9 : Kept r w w9 := by rw [hw9]; exact (HK7.out.trans hk8).setOther (by simp; omega) _
                have hps9 : ParAt w2.heap.size w9 pl (.slice c0 c1 c2) := by rw [hw9]; exact hps8.setP _ (by omega)
                have hbs9 : StsIn (fun k => w7.heap.size ≤ k) w9 bl (.slice d0 d1 d2) := by rw [hw9]; exact hbs.setP _ fun k hk => by omega
                obtain ⟨e0, e1, e2, e3, e4, -⟩ := cells5 p9
                obtain ⟨q0, q1, q2, q3, q4, qf⟩ := cells5 b9
                obtain ⟨z0, z1, z2, z3, z4⟩ := set5_cells b9 (.string SB0) (.slice c0 c1 c2) (.string TY) (.slice d0 d1 d2) (.int .i64 (line : Int))
                have HP : Hid (PostF r g w (.ok (⟨t0.s, pl, ty, bl, line⟩, us5)) (.returned (.agg #[.string SB0, .slice c0 c1 c2, .string TY, .slice d0 d1 d2, .int .i64 (line : Int)])) (set5 w9 w.heap.size (.string SB0) (.slice c0 c1 c2) (.string TY) (.slice d0 d1 d2) (.int .i64 (line : Int)))) := by
                  have hkp : ∀ k, k ≠ w.heap.size → (set5 w9 w.heap.size (.string SB0) (.slice c0 c1 c2) (.string TY) (.slice d0 d1 d2) (.int .i64 (line : Int))).heap[k]? = w9.heap[k]? := fun k hk => set5_keep _ _ _ _ _ _ _ hk
                  refine ⟨set5_kept k9 (Nat.le_refl _) _ _ _ _ _, _, o8, cap8, rfl, ⟨_, _, by rw [HSB0.out, HTYB.out], (hps9.kept (by simp) fun k hk _ => hkp k (by omega)).mono (by omega), (hbs9.kept (by simp) fun k hk _ => hkp k (by omega)).wide fun k hk => by omega⟩, hrd9.keep (hkp r (by omega)) (hkp g (by omega))⟩
                have hw9' := hw9.symm
                clear hw9 p9 b9 hrd9 k9 hps9 hbs9 b8 p8 hps8 mf hk8 hs8 hP7 hN7 hS hbs hrd8 HB7 HPS7 HK7
                go_wp2
                exact bodyPost_ret (v := .agg #[.string SB0, .slice c0 c1 c2, .string TY, .slice d0 d1 d2, .int .i64 (line : Int)]) (by simp [results, Tryz.results63, go_sem, z0, z1, z2, z3, z4]) rfl HP.out
        · have hi' : isTk t2 [58] = false := by simpa using hi
          rw [hi'] at cs
          simp only [if_neg hi] at hp
          go_wp2_with fail
          refine cs.mono ?_
          clear cs hw4' m1 mf1
          rintro e w7 ⟨rfl, hk7, h7⟩
          have hrd7 : RdAt r g o3 cap3 (t2 :: us3) w7 := by simpa using h7
          have hS := HS.out
          have hP4 : P < w4.heap.size := (Array.getElem?_eq_some_iff.1 HB4.out.2).1
          have hN4 : w.heap.size < w4.heap.size := (Array.getElem?_eq_some_iff.1 HB4.out.1).1
          have b7 := (hk7.block w.heap.size hN4 (by omega)).trans HB4.out.1
          have p7 := (hk7.block P hP4 (by omega)).trans HB4.out.2
          have k7 : Kept r w w7 := HK4.out.trans hk7
          have hps7 := HPS4.out.keptR hk7 (by omega)
          have hE4 := hE2
          clear hP4 hN4 hS hk7 h7
          cases hb8 : pBlock F (t2 :: us3) with
          | none => rw [hb8] at hp; cases hp
          | some r8 =>
            rw [hb8] at hp
            have cb := HBL.out w7 _ _ _ r8 hb8 hE4 hrd7 k7
            have HB7 : Hid (w7.heap[w.heap.size]? = some fcZ ∧ w7.heap[P]? = some (fcO SB0 (.slice c0 c1 c2) ⟨#[]⟩ (.slice none 0 0) line)) := ⟨b7, p7⟩
            have HK7 : Hid (Kept r w w7) := k7
            have HPS7 : Hid (ParAt w2.heap.size w7 pl (.slice c0 c1 c2)) := hps7
            clear b7 p7 k7 hps7 hrd7
            go_wp2_with fail
            refine cb.mono ?_
            clear cb
            rintro e w8 ⟨hk8, hpost⟩
            rcases r8 with a | ⟨bl, us5⟩
            · obtain rfl := hpost
              simp only [Option.some.injEq] at hp
              subst hp
              exact ⟨rfl, HK7.out.trans hk8, rfl⟩
            · obtain ⟨vb, o8, cap8, rfl, hbs, hrd8⟩ := hpost
              simp only [Option.some.injEq] at hp
              subst hp
              obtain ⟨d0, d1, d2, rfl⟩ := hbs.slice
              have hS := HS.out
              have hs8 := hk8.size
              have hP7 : P < w7.heap.size := (Array.getElem?_eq_some_iff.1 HB7.out.2).1
              have hN7 : w.heap.size < w7.heap.size := (Array.getElem?_eq_some_iff.1 HB7.out.1).1
              have b8 := (hk8.block w.heap.size hN7 (by omega)).trans HB7.out.1
              have p8 := (hk8.block P hP7 (by omega)).trans HB7.out.2
              have hps8 := HPS7.out.keptR hk8 (by omega)
              obtain ⟨-, -, -, m3, -, mf⟩ := cells5 p8
              have mf3 := mf 3
              obtain ⟨w9, hw9⟩ : ∃ w9, w9 = w8.setCell ⟨P, 3, none⟩ (.slice d0 d1 d2) := ⟨_, rfl⟩
              have p9 : w9.heap[P]? = some (fcO SB0 (.slice c0 c1 c2) ⟨#[]⟩ (.slice d0 d1 d2) line) := by rw [hw9]; exact setCell_block _ p8
              have b9 : w9.heap[w.heap.size]? = some fcZ := by rw [hw9, Below.heap_setCell _ _ _ _ (by simp; omega)]; exact b8
              have hrd9 : RdAt r g o8 cap8 us5 w9 := by rw [hw9]; exact hrd8.setP _ (by omega) (by omega)
              have k9 : Kept r w w9 := by rw [hw9]; exact (HK7.out.trans hk8).setOther (by simp; omega) _
              have hps9 : ParAt w2.heap.size w9 pl (.slice c0 c1 c2) := by rw [hw9]; exact hps8.setP _ (by omega)
              have hbs9 : StsIn (fun k => w7.heap.size ≤ k) w9 bl (.slice d0 d1 d2) := by rw [hw9]; exact hbs.setP _ fun k hk => by omega
              obtain ⟨e0, e1, e2, e3, e4, -⟩ := cells5 p9
              obtain ⟨q0, q1, q2, q3, q4, qf⟩ := cells5 b9
              obtain ⟨z0, z1, z2, z3, z4⟩ := set5_cells b9 (.string SB0) (.slice c0 c1 c2) (.string ⟨#[]⟩) (.slice d0 d1 d2) (.int .i64 (line : Int))
              have HP : Hid (PostF r g w (.ok (⟨t0.s, pl, [], bl, line⟩, us5)) (.returned (.agg #[.string SB0, .slice c0 c1 c2, .string ⟨#[]⟩, .slice d0 d1 d2, .int .i64 (line : Int)])) (set5 w9 w.heap.size (.string SB0) (.slice c0 c1 c2) (.string ⟨#[]⟩) (.slice d0 d1 d2) (.int .i64 (line : Int)))) := by
                have hkp : ∀ k, k ≠ w.heap.size → (set5 w9 w.heap.size (.string SB0) (.slice c0 c1 c2) (.string ⟨#[]⟩) (.slice d0 d1 d2) (.int .i64 (line : Int))).heap[k]? = w9.heap[k]? := fun k hk => set5_keep _ _ _ _ _ _ _ hk
                refine ⟨set5_kept k9 (Nat.le_refl _) _ _ _ _ _, _, o8, cap8, rfl, ⟨_, _, by rw [HSB0.out], (hps9.kept (by simp) fun k hk _ => hkp k (by omega)).mono (by omega), (hbs9.kept (by simp) fun k hk _ => hkp k (by omega)).wide fun k hk => by omega⟩, hrd9.keep (hkp r (by omega)) (hkp g (by omega))⟩
              have hw9' := hw9.symm
              clear hw9 p9 b9 hrd9 k9 hps9 hbs9 b8 p8 hps8 mf hk8 hs8 hP7 hN7 hS hbs hrd8 HB7 HPS7 HK7
              go_wp2
              exact bodyPost_ret (v := .agg #[.string SB0, .slice c0 c1 c2, .string ⟨#[]⟩, .slice d0 d1 d2, .int .i64 (line : Int)]) (by simp [results, Tryz.results63, go_sem, z0, z1, z2, z3, z4]) rfl HP.out
  · simp only [if_neg hk] at cn
    rw [if_neg hk] at hp
    simp only [thenP, Option.some.injEq] at hp
    subst hp
    go_enter Tryz.func63, Tryz.ntmps63
    go_wp2_with fail
    rw [← HW0.out]
    refine cn.mono ?_
    clear cn
    rintro e w1 ⟨hk1, rfl⟩
    exact ⟨rfl, k0.trans hk1, rfl⟩
end Go.Proofs.YtghhamgealkodaaGreatDoor
/- syntax: programs in memory, and how they are read. -/
namespace Go.Proofs.YtghhamgealkodaaGreatDoor
open Go.RowKit Go.Shelf

/-- A row of things in memory, in blocks of S. -/
def RowG {α : Type} (E : (Nat → Prop) → World → α → List Value → Prop) (sz : Nat) (S : Nat → Prop) (w : World) (l : List α) (v : Value) : Prop :=
  (l = [] ∧ v = .slice none 0 0) ∨ ∃ (g cap : Nat) (us : List (List Value)), v = .slice (some ⟨g, 0, none⟩) l.length cap ∧ l ≠ [] ∧ us.length = l.length ∧ S g ∧ g < w.heap.size ∧ l.length ≤ cap ∧ cap ≤ maxLen ∧ (∀ j u, us.flatten[j]? = some u → w.cell? ⟨g, j, none⟩ = some u) ∧ (∀ c ∈ us, c.length = sz) ∧ ∀ (j : Nat) (x : α) (c : List Value), l[j]? = some x → us[j]? = some c → E S w x c
theorem RowG.kept {α : Type} {E : (Nat → Prop) → World → α → List Value → Prop} (L : ElemLaw E) {sz : Nat} {S : Nat → Prop} {w w' : World} {l : List α} {v : Value} (h : RowG E sz S w l v) (hs : w.heap.size ≤ w'.heap.size) (hb : ∀ k, S k → k < w.heap.size → w'.heap[k]? = w.heap[k]?) : RowG E sz S w' l v := by
  rcases h with h | ⟨g, cap, us, h1, h2, h3, h4, h5, h6, h7, h8, h9, h10⟩
  · exact .inl h
  · exact .inr ⟨g, cap, us, h1, h2, h3, h4, Nat.lt_of_lt_of_le h5 hs, h6, h7, fun j u hj => by rw [World.cell?_of_block (hb g h4 h5)]; exact h8 j u hj, h9, fun j x c hx hc => L.kept (h10 j x c hx hc) hs hb⟩
theorem RowG.wide {α : Type} {E : (Nat → Prop) → World → α → List Value → Prop} (L : ElemLaw E) {sz : Nat} {S S' : Nat → Prop} {w : World} {l : List α} {v : Value} (h : RowG E sz S w l v) (hS : ∀ k, S k → S' k) : RowG E sz S' w l v := by
  rcases h with h | ⟨g, cap, us, h1, h2, h3, h4, h5, h6, h7, h8, h9, h10⟩
  · exact .inl h
  · exact .inr ⟨g, cap, us, h1, h2, h3, hS _ h4, h5, h6, h7, h8, h9, fun j x c hx hc => L.wide (h10 j x c hx hc) hS⟩
theorem RowG.low {α : Type} {E : (Nat → Prop) → World → α → List Value → Prop} (L : ElemLaw E) {sz : Nat} {S : Nat → Prop} {w : World} {l : List α} {v : Value} (h : RowG E sz S w l v) : RowG E sz (fun k => S k ∧ k < w.heap.size) w l v := by
  rcases h with h | ⟨g, cap, us, h1, h2, h3, h4, h5, h6, h7, h8, h9, h10⟩
  · exact .inl h
  · exact .inr ⟨g, cap, us, h1, h2, h3, ⟨h4, h5⟩, h5, h6, h7, h8, h9, fun j x c hx hc => L.low (h10 j x c hx hc)⟩
theorem RowG.slice {α : Type} {E : (Nat → Prop) → World → α → List Value → Prop} {sz : Nat} {S : Nat → Prop} {w : World} {l : List α} {v : Value} (h : RowG E sz S w l v) : ∃ b c, v = .slice b l.length c := by
  rcases h with ⟨rfl, rfl⟩ | ⟨g, cap, us, h1, _⟩
  · exact ⟨none, 0, rfl⟩
  · exact ⟨_, _, h1⟩
theorem RowO.toG {α : Type} {E : (Nat → Prop) → World → α → List Value → Prop} (L : ElemLaw E) {sz ty B : Nat} {w : World} {l : List α} {v : Value} (h : RowO E sz ty B w l v) : RowG E sz (fun k => B ≤ k) w l v := by
  rcases h with h | ⟨g, cap, us, h⟩
  · exact .inl h
  · have hb := h.block
    refine .inr ⟨g, cap, us, h.val, h.ne, h.len, hb.1, hb.2.1, hb.2.2.1, hb.2.2.2, fun j u hj => ?_, h.wid, fun j x c hx hc => L.wide (h.kids j x c hx hc) fun k hk => hk.1⟩
    have hx := h.own.cells (g := g) (by rw [h.val]; rfl) j u hj
    by_cases h0 : j = 0
    · subst h0; simpa [Addr.add] using hx
    · simpa [Addr.add, h0] using hx

abbrev ParIn (S : Nat → Prop) (w : World) (l : List Pm) (v : Value) : Prop := RowG PmE 2 S w l v
theorem ParAt.toG {B : Nat} {w : World} {l : List Pm} {v : Value} (h : ParAt B w l v) : ParIn (fun k => B ≤ k) w l v := RowO.toG pmE_law h

theorem StsIn.lower {S : Nat → Prop} {w : World} {l : List St} {v : Value} (h : StsIn S w l v) : StsIn (fun k => S k ∧ k < w.heap.size) w l v := by
  obtain ⟨g, cap, us, h1, h2⟩ := h
  exact ⟨g, cap, us, h1.low, fun j x c hx hc => (h2 j x c hx hc).low⟩
/-- Records, functions as things of a row. -/
def RcE (S : Nat → Prop) (w : World) (x : Rc) (c : List Value) : Prop := ∃ vp, c = [.string (strB x.name), vp, .int .i64 (x.line : Int)] ∧ ParIn S w x.fields vp
theorem rcE_law : ElemLaw RcE := ⟨fun ⟨vp, h1, h2⟩ hs hb => ⟨vp, h1, h2.kept pmE_law hs hb⟩, fun ⟨vp, h1, h2⟩ hS => ⟨vp, h1, h2.wide pmE_law hS⟩, fun ⟨vp, h1, h2⟩ => ⟨vp, h1, h2.low pmE_law⟩⟩
def FcE (S : Nat → Prop) (w : World) (x : Fc) (c : List Value) : Prop := ∃ vp vb, c = [.string (strB x.name), vp, .string (strB x.result), vb, .int .i64 (x.line : Int)] ∧ ParIn S w x.params vp ∧ StsIn S w x.body vb
theorem fcE_law : ElemLaw FcE := ⟨fun ⟨vp, vb, h1, h2, h3⟩ hs hb => ⟨vp, vb, h1, h2.kept pmE_law hs hb, h3.kept hs hb⟩, fun ⟨vp, vb, h1, h2, h3⟩ hS => ⟨vp, vb, h1, h2.wide pmE_law hS, h3.wide hS⟩, fun ⟨vp, vb, h1, h2, h3⟩ => ⟨vp, vb, h1, h2.low pmE_law, h3.lower⟩⟩

/-- Things of a row, none of them in a block that X bars. -/
def EX {α : Type} (E : (Nat → Prop) → World → α → List Value → Prop) (X : Nat → Prop) (S : Nat → Prop) (w : World) (x : α) (c : List Value) : Prop := E (fun k => S k ∧ X k) w x c
theorem eX_law {α : Type} {E : (Nat → Prop) → World → α → List Value → Prop} (L : ElemLaw E) (X : Nat → Prop) : ElemLaw (EX E X) := ⟨fun h hs hb => L.kept h hs fun k hk hlt => hb k hk.1 hlt, fun h hS => L.wide h fun k hk => ⟨hS k hk.1, hk.2⟩, fun h => L.wide (L.low h) fun _ hk => ⟨⟨hk.1.1, hk.2⟩, hk.1.2⟩⟩

/-- Rows of records and of functions that grow, side by side. -/
structure PrgIn (B : Nat) (w : World) (rs : List Rc) (fs : List Fc) (vr vf : Value) : Prop where
  r : RowO (EX RcE fun k => vf.ownBlock ≠ some k) 3 80 B w rs vr
  f : RowO (EX FcE fun k => vr.ownBlock ≠ some k) 5 78 B w fs vf
  apart : ∀ k, vr.ownBlock = some k → vf.ownBlock ≠ some k
theorem PrgIn.nil (B : Nat) (w : World) : PrgIn B w [] [] (.slice none 0 0) (.slice none 0 0) := ⟨.inl ⟨rfl, rfl⟩, .inl ⟨rfl, rfl⟩, fun k h => by simp [Value.ownBlock] at h⟩
theorem PrgIn.kept {B : Nat} {w w' : World} {rs : List Rc} {fs : List Fc} {vr vf : Value} (h : PrgIn B w rs fs vr vf) (hs : w.heap.size ≤ w'.heap.size) (hb : ∀ k, B ≤ k → k < w.heap.size → w'.heap[k]? = w.heap[k]?) : PrgIn B w' rs fs vr vf :=
  ⟨h.r.kept (eX_law rcE_law _) hs hb, h.f.kept (eX_law fcE_law _) hs hb, h.apart⟩
/-- A row beside another one that grew. -/
theorem RowO.beside {α : Type} {E : (Nat → Prop) → World → α → List Value → Prop} (L : ElemLaw E) {sz ty B : Nat} {w w' : World} {l : List α} {v vr vr' : Value} {ob : Obj} (h : RowO (EX E fun k => vr.ownBlock ≠ some k) sz ty B w l v) (ha : ∀ k, vr.ownBlock = some k → v.ownBlock ≠ some k) (hg : (w.alloc ob).grownBy w' vr.ownBlock) (hat : vr'.ownBlock = vr.ownBlock ∨ vr'.ownBlock = some (w.alloc ob).heap.size) : RowO (EX E fun k => vr'.ownBlock ≠ some k) sz ty B w' l v := by
  rcases h with h | ⟨g, cap, us, h⟩
  · exact .inl h
  · have hs : w.heap.size ≤ w'.heap.size := by have := hg.size; simp at this; omega
    have hkeep : ∀ k, vr.ownBlock ≠ some k → k < w.heap.size → w'.heap[k]? = w.heap[k]? := fun k hk hlt => (hg.block k (by simp; omega) (fun e => hk e.symm)).trans (Below.heap_alloc _ _ _ hlt)
    have hvg : v.ownBlock = some g := by rw [h.val]; rfl
    have hgr : vr.ownBlock ≠ some g := fun e => ha g e hvg
    have hb := h.block
    refine .inr ⟨g, cap, us, h.val, h.ne, ?_, h.len, h.wid, fun j x c hx hc => ?_⟩
    · refine ⟨h.own.1, ?_⟩
      rcases h.own.2 with h1 | ⟨g', cap', cur, h1, h2, h3, h4⟩
      · exact .inl h1
      · have e : g' = g := by rw [h.val] at h1; simp at h1; exact h1.1.symm
        subst e
        exact .inr ⟨g', cap', cur, h1, h2, (hkeep g' hgr hb.2.1).trans h3, h4⟩
    · have hx' : E (fun k => (B ≤ k ∧ k ≠ g) ∧ vr.ownBlock ≠ some k) w x c := h.kids j x c hx hc
      refine L.wide (L.kept (L.low hx') hs fun k hk _ => hkeep k hk.1.2 hk.2) fun k hk => ⟨hk.1.1, ?_⟩
      rcases hat with e | e
      · rw [e]; exact hk.1.2
      · rw [e]
        intro e'
        have := Option.some.inj e'
        simp at this
        omega
theorem PrgIn.addR {B N : Nat} {w w' : World} {rs : List Rc} {fs : List Fc} {vr vf vr' : Value} {x : Rc} {c : List Value} {ob : Obj} {us : List (List Value)} (h : PrgIn B w rs fs vr vf)
    (hnext : ∀ {w' : World} {v' : Value} {x : Rc} {c : List Value} {ob : Obj} {N : Nat}, EX RcE (fun k => vf.ownBlock ≠ some k) (fun k => N ≤ k) w x c → B ≤ N → (∀ q, vr.ownBlock = some q → q < N) → c.length = 3 → w'.ownsRow B 80 3 v' (rs.length + 1) (us.flatten ++ c) → (w.alloc ob).grownBy w' vr.ownBlock → (v'.ownBlock = vr.ownBlock ∨ v'.ownBlock = some (w.alloc ob).heap.size) → RowO (EX RcE fun k => vf.ownBlock ≠ some k) 3 80 B w' (rs ++ [x]) v')
    (hx : RcE (fun k => N ≤ k) w x c) (hBN : B ≤ N) (hr : ∀ q, vr.ownBlock = some q → q < N) (hf : ∀ q, vf.ownBlock = some q → q < N) (hfw : ∀ q, vf.ownBlock = some q → q < w.heap.size) (hc : c.length = 3) (ho : w'.ownsRow B 80 3 vr' (rs.length + 1) (us.flatten ++ c)) (hg : (w.alloc ob).grownBy w' vr.ownBlock) (hat : vr'.ownBlock = vr.ownBlock ∨ vr'.ownBlock = some (w.alloc ob).heap.size) : PrgIn B w' (rs ++ [x]) fs vr' vf := by
  refine ⟨hnext (rcE_law.wide hx fun k hk => ⟨hk, fun e => by have := hf k e; omega⟩) hBN hr hc ho hg hat, h.f.beside fcE_law h.apart hg hat, fun k hk e => ?_⟩
  rcases hat with e1 | e1
  · rw [e1] at hk; exact h.apart k hk e
  · rw [e1] at hk
    have := Option.some.inj hk
    have h9 := hfw k e
    simp at this
    omega
theorem PrgIn.addF {B N : Nat} {w w' : World} {rs : List Rc} {fs : List Fc} {vr vf vf' : Value} {x : Fc} {c : List Value} {ob : Obj} {us : List (List Value)} (h : PrgIn B w rs fs vr vf)
    (hnext : ∀ {w' : World} {v' : Value} {x : Fc} {c : List Value} {ob : Obj} {N : Nat}, EX FcE (fun k => vr.ownBlock ≠ some k) (fun k => N ≤ k) w x c → B ≤ N → (∀ q, vf.ownBlock = some q → q < N) → c.length = 5 → w'.ownsRow B 78 5 v' (fs.length + 1) (us.flatten ++ c) → (w.alloc ob).grownBy w' vf.ownBlock → (v'.ownBlock = vf.ownBlock ∨ v'.ownBlock = some (w.alloc ob).heap.size) → RowO (EX FcE fun k => vr.ownBlock ≠ some k) 5 78 B w' (fs ++ [x]) v')
    (hx : FcE (fun k => N ≤ k) w x c) (hBN : B ≤ N) (hf : ∀ q, vf.ownBlock = some q → q < N) (hr : ∀ q, vr.ownBlock = some q → q < N) (hrw : ∀ q, vr.ownBlock = some q → q < w.heap.size) (hc : c.length = 5) (ho : w'.ownsRow B 78 5 vf' (fs.length + 1) (us.flatten ++ c)) (hg : (w.alloc ob).grownBy w' vf.ownBlock) (hat : vf'.ownBlock = vf.ownBlock ∨ vf'.ownBlock = some (w.alloc ob).heap.size) : PrgIn B w' rs (fs ++ [x]) vr vf' := by
  refine ⟨h.r.beside rcE_law (fun k hk e => h.apart k e hk) hg hat, hnext (fcE_law.wide hx fun k hk => ⟨hk, fun e => by have := hr k e; omega⟩) hBN hf hc ho hg hat, fun k hk e => ?_⟩
  rcases hat with e1 | e1
  · rw [e1] at e; exact h.apart k hk e
  · rw [e1] at e
    have := Option.some.inj e
    have h9 := hrw k hk
    simp at this
    omega

/-- A program. -/
structure Pg where
  recs : List Rc
  funs : List Fc
/-- A program's value in memory. -/
def PgIn (S : Nat → Prop) (w : World) (p : Pg) (v : Value) : Prop := ∃ vr vf, v = .agg #[vr, vf] ∧ RowG RcE 3 S w p.recs vr ∧ RowG FcE 5 S w p.funs vf
theorem PrgIn.pg {B : Nat} {w : World} {rs : List Rc} {fs : List Fc} {vr vf : Value} (h : PrgIn B w rs fs vr vf) : PgIn (fun k => B ≤ k) w ⟨rs, fs⟩ (.agg #[vr, vf]) := by
  refine ⟨vr, vf, rfl, ?_, ?_⟩
  · rcases h.r.toG (eX_law rcE_law _) with h9 | ⟨g, cap, us, h1, h2, h3, h4, h5, h6, h7, h8, h9, h10⟩
    · exact .inl h9
    · exact .inr ⟨g, cap, us, h1, h2, h3, h4, h5, h6, h7, h8, h9, fun j x c hx hc => rcE_law.wide (h10 j x c hx hc) fun k hk => hk.1⟩
  · rcases h.f.toG (eX_law fcE_law _) with h9 | ⟨g, cap, us, h1, h2, h3, h4, h5, h6, h7, h8, h9, h10⟩
    · exact .inl h9
    · exact .inr ⟨g, cap, us, h1, h2, h3, h4, h5, h6, h7, h8, h9, fun j x c hx hc => fcE_law.wide (h10 j x c hx hc) fun k hk => hk.1⟩
theorem PgIn.kept {S : Nat → Prop} {w w' : World} {p : Pg} {v : Value} (h : PgIn S w p v) (hs : w.heap.size ≤ w'.heap.size) (hb : ∀ k, S k → k < w.heap.size → w'.heap[k]? = w.heap[k]?) : PgIn S w' p v := by
  obtain ⟨vr, vf, rfl, h1, h2⟩ := h
  exact ⟨vr, vf, rfl, h1.kept rcE_law hs hb, h2.kept fcE_law hs hb⟩
theorem PgIn.wide {S S' : Nat → Prop} {w : World} {p : Pg} {v : Value} (h : PgIn S w p v) (hS : ∀ k, S k → S' k) : PgIn S' w p v := by
  obtain ⟨vr, vf, rfl, h1, h2⟩ := h
  exact ⟨vr, vf, rfl, h1.wide rcE_law hS, h2.wide fcE_law hS⟩

/-- A record, in so many steps. -/
def pRecord (f line : Nat) (ts : List Tk) : Option (PR Rc) := thenP (nameP ts) fun s us => thenP (needP [123] us) fun _ us => thenP (pParams f [] us) fun l us => thenP (needP [125] us) fun _ us => some (.ok (⟨s, l, line⟩, us))
/-- A program, in so many steps. -/
def pProg : Nat → List Rc → List Fc → List Tk → Option (PR Pg)
  | 0, _, _, _ => none
  | f + 1, rs, fs, ts =>
    if (hdT ts).k = 0 then some (.ok (⟨rs, fs⟩, ts))
    else if isTk (hdT ts) [114, 101, 99, 111, 114, 100] = true then thenP (pRecord f (hdT ts).line ts.tail) fun x us => pProg f (rs ++ [x]) fs us
    else if isTk (hdT ts) [102, 110] = true then thenP (pFunc f (hdT ts).line ts.tail) fun x us => pProg f rs (fs ++ [x]) us
    else some (.error (hdT ts).at0)

theorem pRecord_ends {f line : Nat} {ts us : List Tk} {x : Rc} (h : pRecord f line ts = some (.ok (x, us))) (hE : EndsT ts) : EndsT us := by
  unfold pRecord at h
  obtain ⟨_, _, h1, h⟩ := thenP_ok h
  obtain ⟨_, _, h2, h⟩ := thenP_ok h
  obtain ⟨_, _, h3, h⟩ := thenP_ok h
  obtain ⟨_, _, h4, h⟩ := thenP_ok h
  exact okP_ends h (needP_ends h4 (pParams_ends h3 (needP_ends h2 (nameP_ends h1 hE))))
theorem pFunc_ends {f line : Nat} {ts us : List Tk} {x : Fc} (h : pFunc f line ts = some (.ok (x, us))) (hE : EndsT ts) : EndsT us := by
  unfold pFunc at h
  obtain ⟨_, _, h1, h⟩ := thenP_ok h
  obtain ⟨_, _, h2, h⟩ := thenP_ok h
  obtain ⟨_, _, h3, h⟩ := thenP_ok h
  obtain ⟨_, _, h4, h⟩ := thenP_ok h
  exact okP_ends h ((stmt_ends f).2.1 _ _ _ h4 (resP_ends h3 (pParB_ends h2 (nameP_ends h1 hE))))

theorem pParams_mono {f : Nat} : ∀ {pre : List Pm} {ts : List Tk} {r : PR (List Pm)}, pParams f pre ts = some r → pParams (f + 1) pre ts = some r := by
  induction f with
  | zero => intro pre ts r h; simp [pParams] at h
  | succ f ih =>
    intro pre ts r h
    rw [pParams] at h ⊢
    cases hb : paramR ts with
    | error a => rw [hb] at h; exact h
    | ok y =>
      rw [hb] at h
      simp only at h ⊢
      split at h
      · rename_i hc; rw [if_pos hc]; exact ih h
      · rename_i hc; rw [if_neg hc]; exact h
theorem pRecord_mono {f line : Nat} {ts : List Tk} {r : PR Rc} (h : pRecord f line ts = some r) : pRecord (f + 1) line ts = some r := by
  unfold pRecord at h ⊢
  exact thenP_same h fun _ _ _ h => thenP_same h fun _ _ _ h => thenP_mono h (fun _ => pParams_mono) fun _ _ _ h => h
theorem pFunc_mono {f line : Nat} {ts : List Tk} {r : PR Fc} (h : pFunc f line ts = some r) : pFunc (f + 1) line ts = some r := by
  unfold pFunc at h ⊢
  refine thenP_same h fun _ _ _ h => thenP_mono h (fun _ h => ?_) fun _ _ _ h => thenP_same h fun _ _ _ h => thenP_mono h ((stmt_mono f).2.1 _) fun _ _ _ h => h
  unfold pParB at h ⊢
  refine thenP_same h fun _ _ _ h => ?_
  split at h
  · rename_i hc; rw [if_pos hc]; exact h
  · rename_i hc; rw [if_neg hc]; exact thenP_mono h (fun _ => pParams_mono) fun _ _ _ h => h
theorem pRecord_up {f k line : Nat} {ts : List Tk} {r : PR Rc} (h : pRecord f line ts = some r) : pRecord (f + k) line ts = some r := by
  induction k with
  | zero => exact h
  | succ k ih => exact pRecord_mono ih
theorem pFunc_up {f k line : Nat} {ts : List Tk} {r : PR Fc} (h : pFunc f line ts = some r) : pFunc (f + k) line ts = some r := by
  induction k with
  | zero => exact h
  | succ k ih => exact pFunc_mono ih

/-- Some number of steps reaches. -/
theorem params_total (n : Nat) : ∀ (ts : List Tk), ts.length ≤ n → EndsT ts → ∀ pre, DoneE (fun f => pParams f pre ts) (n - 1) := by
  induction n with
  | zero => intro ts hl hE; have := hE.pos; omega
  | succ n ih =>
    intro ts hl hE pre
    cases hb : paramR ts with
    | error a => exact (doneE_error a n).step fun f => by rw [pParams, hb]
    | ok y =>
      obtain ⟨p, us⟩ := y
      obtain ⟨hE1, hl1⟩ := paramR_ends hb hE
      by_cases hc : isTk (hdT us) [44] = true
      · have hne := is_ne hc
        exact ((ih us.tail (by omega) (ends_is hE1 hc) (pre ++ [p])).le (by omega)).step fun f => by rw [pParams, hb]; simp only [if_pos hc]
      · exact (doneE_some (pre ++ [p]) us (n := n) (by omega) hE1).step fun f => by rw [pParams, hb]; simp only [if_neg hc]
theorem record_total (line : Nat) {n : Nat} (ts : List Tk) (hl : ts.length ≤ n + 1) (hE : EndsT ts) : DoneE (fun f => pRecord f line ts) n := by
  unfold pRecord
  refine (doneE_name ts (n := n) hl hE).then (q := fun f s us => thenP (needP [123] us) fun _ us => thenP (pParams f [] us) fun l us => thenP (needP [125] us) fun _ us => some (.ok ((⟨s, l, line⟩ : Rc), us))) fun s us hu hEu => ?_
  refine (doneE_need [123] us (n := n) (by omega) hEu).then (q := fun f _ us => thenP (pParams f [] us) fun l us => thenP (needP [125] us) fun _ us => some (.ok ((⟨s, l, line⟩ : Rc), us))) fun _ us hu hEu => ?_
  refine (params_total n us hu hEu []).then (q := fun f l us => thenP (needP [125] us) fun _ us => some (.ok ((⟨s, l, line⟩ : Rc), us))) fun l us hu hEu => ?_
  exact (doneE_need [125] us (n := n) (by omega) hEu).then (q := fun f _ us => some (.ok ((⟨s, l, line⟩ : Rc), us))) fun _ us hu hEu => doneE_some _ _ hu hEu
theorem func_total (line : Nat) {n : Nat} (ts : List Tk) (hl : ts.length ≤ n + 1) (hE : EndsT ts) : DoneE (fun f => pFunc f line ts) n := by
  unfold pFunc
  refine (doneE_name ts (n := n) hl hE).then (q := fun f s us => thenP (pParB f us) fun l us => thenP (resP us) fun t us => thenP (pBlock f us) fun b us => some (.ok ((⟨s, l, t, b, line⟩ : Fc), us))) fun s us hu hEu => ?_
  have hB : DoneE (fun f => pParB f us) n := by
    unfold pParB
    refine (doneE_need [40] us (n := n) (by omega) hEu).then (q := fun f _ us => if isTk (hdT us) [41] = true then some (.ok ([], us.tail)) else thenP (pParams f [] us) fun l us => thenP (needP [41] us) fun _ us => some (.ok (l, us))) fun _ us hu hEu => ?_
    by_cases hc : isTk (hdT us) [41] = true
    · have hne := is_ne hc
      simp only [if_pos hc]
      exact doneE_some _ _ (by omega) (ends_is hEu hc)
    · simp only [if_neg hc]
      exact (params_total n us hu hEu []).then (q := fun f l us => thenP (needP [41] us) fun _ us => some (.ok (l, us))) fun l us hu hEu => (doneE_need [41] us (n := n) (by omega) hEu).then (q := fun f _ us => some (.ok (l, us))) fun _ us hu hEu => doneE_some _ _ hu hEu
  refine hB.then (q := fun f l us => thenP (resP us) fun t us => thenP (pBlock f us) fun b us => some (.ok ((⟨s, l, t, b, line⟩ : Fc), us))) fun l us hu hEu => ?_
  have hR : DoneE (fun _ => resP us) n := by
    by_cases hc : isTk (hdT us) [58] = true
    · have hne := is_ne hc
      refine ⟨0, typeS 0 us.tail, fun _ => by unfold resP; rw [if_pos hc], fun x us' e => ?_⟩
      have := typeS_ends _ _ _ _ e (ends_is hEu hc)
      exact ⟨by omega, this.1⟩
    · refine ⟨0, .ok ([], us), fun _ => by unfold resP; rw [if_neg hc], fun x us' e => ?_⟩
      cases e
      exact ⟨hu, hEu⟩
  refine hR.then (q := fun f t us => thenP (pBlock f us) fun b us => some (.ok ((⟨s, l, t, b, line⟩ : Fc), us))) fun t us hu hEu => ?_
  exact (stmt_total n us hu hEu).2.1.then (q := fun f b us => some (.ok ((⟨s, l, t, b, line⟩ : Fc), us))) fun b us hu hEu => doneE_some _ _ (by omega) hEu
theorem prog_total (n : Nat) : ∀ (ts : List Tk), ts.length ≤ n → EndsT ts → ∀ rs fs, DoneE (fun f => pProg f rs fs ts) n := by
  induction n with
  | zero => intro ts hl hE; have := hE.pos; omega
  | succ n ih =>
    intro ts hl hE rs fs
    by_cases h0 : (hdT ts).k = 0
    · exact (doneE_some (⟨rs, fs⟩ : Pg) ts hl hE).step fun f => by rw [pProg, if_pos h0]
    by_cases h1 : isTk (hdT ts) [114, 101, 99, 111, 114, 100] = true
    · have hne := is_ne h1
      have hE1 := ends_is hE h1
      have hpos := hE1.pos
      exact ((record_total (hdT ts).line (n := n - 1) ts.tail (by omega) hE1).then (q := fun f x us => pProg f (rs ++ [x]) fs us) (m := n + 1) fun x us hu hEu => (ih us (by omega) hEu _ _).le (by omega)).step fun f => by rw [pProg, if_neg h0, if_pos h1]
    by_cases h2 : isTk (hdT ts) [102, 110] = true
    · have hne := is_ne h2
      have hE1 := ends_is hE h2
      have hpos := hE1.pos
      exact ((func_total (hdT ts).line (n := n - 1) ts.tail (by omega) hE1).then (q := fun f x us => pProg f rs (fs ++ [x]) us) (m := n + 1) fun x us hu hEu => (ih us (by omega) hEu _ _).le (by omega)).step fun f => by rw [pProg, if_neg h0, if_neg h1, if_pos h2]
    · exact (doneE_error _ _).step fun f => by rw [pProg, if_neg h0, if_neg h1, if_neg h2]
end Go.Proofs.YtghhamgealkodaaGreatDoor
