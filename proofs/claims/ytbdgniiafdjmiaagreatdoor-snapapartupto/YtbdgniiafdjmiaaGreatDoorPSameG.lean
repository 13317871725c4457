/- snap: the document's own look whether values, objects and states are the same. -/
import Derived.Test.YtbdgniiafdjmiaaGreatDoorPSame
import Derived.Laws.StructEq
namespace Go.Proofs.YtbdgniiafdjmiaaGreatDoor
open Go.RowKit Go.Shelf

/-- An answer to whether two things are the same. -/
def Says {α : Type} (a b : α) (e : Ending) : Prop := ∃ r : Bool, e = .returned (.bool r) ∧ (r = true ↔ a = b)

theorem strB_inj {a b : List UInt8} (h : strB a = strB b) : a = b := by
  have := congrArg (fun x : ByteArray => x.data.toList) h
  simpa [strB] using this

theorem strL_inj {a b : ByteArray} (h : a.toList = b.toList) : a = b := by
  rw [ByteArray.toList_eq, ByteArray.toList_eq] at h
  cases a; cases b; simp_all

set_option maxRecDepth 100000 in
set_option maxHeartbeats 4000000 in
theorem psameVals_any (S T : Nat → Prop) (l m : List Vl) (u v : Value) (w : World) (hu : valsIn S w u l) (hv : valsIn T w v m) (hl : l.length ≤ 1048576) (_hm : m.length ≤ 1048576) :
    Calls Tryz.prog 39 #[u, v] w fun e w' => Says l m e ∧ Below w.heap.size w w' := by
  obtain ⟨b1, c1, rfl, p1, p2, hat1⟩ := hu.at
  obtain ⟨b2, c2, rfl, p3, p4, hat2⟩ := hv.at
  have H1 : Hid (∀ i (hi : i < l.length), ∃ b o, b1 = some ⟨b, o, none⟩ ∧ S b ∧ b < w.heap.size ∧ w.cell? ⟨b, o + i * 3, none⟩ = some (.int .i64 (l[i]).k) ∧ w.cell? ⟨b, o + i * 3 + 1, none⟩ = some (.int .i64 (l[i]).n) ∧ w.cell? ⟨b, o + i * 3 + 2, none⟩ = some (.string (strB (l[i]).s))) := hat1
  have H2 : Hid (∀ i (hi : i < m.length), ∃ b o, b2 = some ⟨b, o, none⟩ ∧ T b ∧ b < w.heap.size ∧ w.cell? ⟨b, o + i * 3, none⟩ = some (.int .i64 (m[i]).k) ∧ w.cell? ⟨b, o + i * 3 + 1, none⟩ = some (.int .i64 (m[i]).n) ∧ w.cell? ⟨b, o + i * 3 + 2, none⟩ = some (.string (strB (m[i]).s))) := hat2
  clear hu hv hat1 hat2
  have HB0 : Hid (Below w.heap.size w w) := Below.refl _ _
  by_cases hlm : l.length = m.length
  · have hlmI : (l.length : Int) = m.length := by omega
    go_enter Tryz.func39, Tryz.ntmps39
    go_wp2
    go_loopw [5] (fun vi wr => ∃ i : Nat, i ≤ l.length ∧ vi = .int .i64 i ∧ l.take i = m.take i ∧ Below w.heap.size w wr) (fun vi _ => l.length - (intOf vi).toNat)
    case atStart => exact ⟨0, Nat.zero_le _, rfl, by simp, Below.refl _ _⟩
    case round =>
      obtain ⟨i, hi, rfl, htk, hbw⟩ := hrel
      have HB : Hid (Below w.heap.size w wr) := hbw
      have HTK : Hid (l.take i = m.take i) := htk
      clear hbw htk
      by_cases hlt : i < l.length
      · have hi2 : (i : Int) < l.length := by omega
        have hi3 : (i : Int) < m.length := by omega
        have hltm : i < m.length := by omega
        obtain ⟨ba, oa, rfl, -, hla, q0, q1, q2⟩ := H1.out i hlt
        obtain ⟨bb, ob, rfl, -, hlb, s0, s1, s2⟩ := H2.out i hltm
        obtain ⟨x, hx⟩ : ∃ x, x = l[i] := ⟨_, rfl⟩
        obtain ⟨y, hy⟩ : ∃ y, y = m[i] := ⟨_, rfl⟩
        have HX : Hid (x = l[i] ∧ y = m[i]) := ⟨hx, hy⟩
        rw [← hx] at q0 q1 q2
        rw [← hy] at s0 s1 s2
        obtain ⟨xk, xn, xs⟩ := x
        obtain ⟨yk, yn, ys⟩ := y
        simp only at q0 q1 q2 s0 s1 s2
        have t0 := (below_cell HB.out hla).trans q0
        have t1 := (below_cell HB.out hla).trans q1
        have t2 := (below_cell HB.out hla).trans q2
        have t3 := (below_cell HB.out hlb).trans s0
        have t4 := (below_cell HB.out hlb).trans s1
        have t5 := (below_cell HB.out hlb).trans s2
        clear q0 q1 q2 s0 s1 s2 hx hy
        obtain ⟨zx, hzx⟩ : ∃ z, z = strB xs := ⟨_, rfl⟩
        obtain ⟨zy, hzy⟩ : ∃ z, z = strB ys := ⟨_, rfl⟩
        rw [← hzx] at t2
        rw [← hzy] at t5
        have HZ : Hid (zx = strB xs ∧ zy = strB ys) := ⟨hzx, hzy⟩
        clear hzx hzy
        by_cases hk : xk = yk
        · subst hk
          by_cases hn : xn = yn
          · subst hn
            by_cases hz : zx = zy
            · subst hz
              have HNX : Hid (l.take (i + 1) = m.take (i + 1)) := by
                have h0 : xs = ys := strB_inj (HZ.out.1.symm.trans HZ.out.2)
                have h1 : l[i] = m[i] := by rw [← HX.out.1, ← HX.out.2, h0]
                show _ = _
                rw [List.take_succ_eq_append_getElem hlt, List.take_succ_eq_append_getElem hltm, HTK.out, h1]
              go_wp2_with fail
              go_quiet (fail)
              go_wp2
              exact ⟨⟨i + 1, by omega, by go_num, HNX.out, below_drewH HB.out _⟩, by simp [intOf]; omega⟩
            · have hzb : (zx.toList == zy.toList) = false := by rw [beq_eq_false_iff_ne]; intro e; rw [HZ.out.1, HZ.out.2] at e hz; exact hz (strL_inj e)
              have hzd : decide (zx = zy) = false := decide_eq_false hz
              have HNE : Hid (l ≠ m) := fun e => by
                have h1 := HX.out.1
                have h2 := HX.out.2
                simp only [e] at h1
                rw [← h2] at h1
                injection h1 with g0 g1 g2
                exact hz (by rw [HZ.out.1, HZ.out.2, g2])
              go_wp2_with fail
              go_quiet (fail)
              go_wp2
              go_ret
              exact ⟨⟨false, rfl, by simp [HNE.out]⟩, below_drewH HB.out _⟩
          · have hnb : (xn == yn) = false := by rw [beq_eq_false_iff_ne]; exact hn
            have hnd : decide (xn = yn) = false := decide_eq_false hn
            have HNE : Hid (l ≠ m) := fun e => by
              have h1 := HX.out.1
              have h2 := HX.out.2
              simp only [e] at h1
              rw [← h2] at h1
              injection h1 with g0 g1 g2
              exact hn g1
            go_wp2_with fail
            go_quiet (fail)
            go_wp2
            go_ret
            exact ⟨⟨false, rfl, by simp [HNE.out]⟩, below_drewH HB.out _⟩
        · have hkb : (xk == yk) = false := by rw [beq_eq_false_iff_ne]; exact hk
          have hkd : decide (xk = yk) = false := decide_eq_false hk
          have HNE : Hid (l ≠ m) := fun e => by
            have h1 := HX.out.1
            have h2 := HX.out.2
            simp only [e] at h1
            rw [← h2] at h1
            injection h1 with g0 g1 g2
            exact hk g0
          go_wp2_with fail
          go_quiet (fail)
          go_wp2
          go_ret
          exact ⟨⟨false, rfl, by simp [HNE.out]⟩, below_drewH HB.out _⟩
      · obtain rfl : i = l.length := by omega
        have hi2 : ¬ (l.length : Int) < l.length := by omega
        have HE : Hid (l = m) := by
          have := HTK.out
          rw [List.take_length, hlm, List.take_length] at this
          exact this
        go_wp2
        go_ret
        exact ⟨⟨true, rfl, by simp [HE.out]⟩, HB.out⟩
  · have hlmI : ¬ (l.length : Int) = m.length := by omega
    have hlmB : ((l.length : Int) == m.length) = false := by rw [beq_eq_false_iff_ne]; exact hlmI
    have hlmN : ((l.length : Int) != m.length) = true := by simp [bne, hlmB]
    have HE : Hid (l ≠ m) := fun e => hlm (by rw [e])
    go_enter Tryz.func39, Tryz.ntmps39
    go_wp2
    go_ret
    exact ⟨⟨false, rfl, by simp [HE.out]⟩, HB0.out⟩

instance : DecidableEq Vl := fun a b => if h : a.k = b.k ∧ a.n = b.n ∧ a.s = b.s then isTrue (by cases a; cases b; simp_all) else isFalse (fun e => h (by rw [e]; exact ⟨rfl, rfl, rfl⟩))

theorem psameValsD (S T : Nat → Prop) (l m : List Vl) (u v : Value) (w : World) (hu : valsR S w u l) (hv : valsR T w v m) (hl : l.length ≤ 1048576) (hm : m.length ≤ 1048576) (d : Bool) (hd : d = decide (l = m)) :
    Calls Tryz.prog 39 #[u, v] w fun e w' => e = .returned (.bool d) ∧ Below w.heap.size w w' :=
  (psameVals_any S T l m u v w (valsIn_of hu) (valsIn_of hv) hl hm).mono fun e w' ⟨⟨r, he, hr⟩, hb⟩ => ⟨by
    rw [he, hd]
    by_cases h : l = m
    · rw [decide_eq_true h, hr.2 h]
    · rw [decide_eq_false h]
      cases r
      · rfl
      · exact absurd (hr.1 rfl) h, hb⟩

set_option maxRecDepth 100000 in
set_option maxHeartbeats 4000000 in
theorem psameObs_any (S T : Nat → Prop) (l m : List Ob) (u v : Value) (w : World) (hu : objsR S w u l) (hv : objsR T w v m) (hl : l.length ≤ 1048576) (_hm : m.length ≤ 1048576) (hkl : ∀ o ∈ l, o.2.length ≤ 1048576) (hkm : ∀ o ∈ m, o.2.length ≤ 1048576) :
    Calls Tryz.prog 38 #[u, v] w fun e w' => Says l m e ∧ Below w.heap.size w w' := by
  obtain ⟨b1, c1, rfl, p1, p2, hat1⟩ := rowIn.at hu
  obtain ⟨b2, c2, rfl, p3, p4, hat2⟩ := rowIn.at hv
  have H1 : Hid (∀ i (hi : i < l.length), ∃ b o, b1 = some ⟨b, o, none⟩ ∧ S b ∧ b < w.heap.size ∧ objE S w b (o + i * 2) l[i]) := hat1
  have H2 : Hid (∀ i (hi : i < m.length), ∃ b o, b2 = some ⟨b, o, none⟩ ∧ T b ∧ b < w.heap.size ∧ objE T w b (o + i * 2) m[i]) := hat2
  have HKL : Hid ((∀ o ∈ l, o.2.length ≤ 1048576) ∧ ∀ o ∈ m, o.2.length ≤ 1048576) := ⟨hkl, hkm⟩
  clear hu hv hat1 hat2 hkl hkm
  have HB0 : Hid (Below w.heap.size w w) := Below.refl _ _
  by_cases hlm : l.length = m.length
  · have hlmI : (l.length : Int) = m.length := by omega
    go_enter Tryz.func38, Tryz.ntmps38
    go_wp2
    go_loopw [5] (fun vi wr => ∃ i : Nat, i ≤ l.length ∧ vi = .int .i64 i ∧ l.take i = m.take i ∧ Below w.heap.size w wr) (fun vi _ => l.length - (intOf vi).toNat)
    case atStart => exact ⟨0, Nat.zero_le _, rfl, by simp, Below.refl _ _⟩
    case round =>
      obtain ⟨i, hi, rfl, htk, hbw⟩ := hrel
      have HB : Hid (Below w.heap.size w wr) := hbw
      have hsw := hbw.size
      have HTK : Hid (l.take i = m.take i) := htk
      clear hbw htk
      by_cases hlt : i < l.length
      · have hi2 : (i : Int) < l.length := by omega
        have hi3 : (i : Int) < m.length := by omega
        have hltm : i < m.length := by omega
        obtain ⟨ba, oa, rfl, -, hla, q0, ua, q1, hva⟩ := H1.out i hlt
        obtain ⟨bb, ob, rfl, -, hlb, s0, ub, s1, hvb⟩ := H2.out i hltm
        have hka := HKL.out.1 l[i] (List.getElem_mem hlt)
        have hkb := HKL.out.2 m[i] (List.getElem_mem hltm)
        obtain ⟨x, hx⟩ : ∃ x, x = l[i] := ⟨_, rfl⟩
        obtain ⟨y, hy⟩ : ∃ y, y = m[i] := ⟨_, rfl⟩
        have HX : Hid (x = l[i] ∧ y = m[i]) := ⟨hx, hy⟩
        rw [← hx] at q0 hva hka
        rw [← hy] at s0 hvb hkb
        obtain ⟨d, hd⟩ : ∃ d, d = decide (x.2 = y.2) := ⟨_, rfl⟩
        have HD : Hid (d = decide (x.2 = y.2)) := hd
        have HC : Hid (∀ wx, Below wr.heap.size wr wx → Calls Tryz.prog 39 #[ua, ub] wx fun e w'' => e = .returned (.bool d) ∧ Below wr.heap.size wr w'') := fun wx hx' => by
          have hb : Below w.heap.size w wx := HB.out.trans (hx'.mono hsw)
          exact (psameValsD S T x.2 y.2 ua ub wx (rowIn.kept hva (valE_keeps S) hb.size fun k _ hk => hb.block k hk) (rowIn.kept hvb (valE_keeps T) hb.size fun k _ hk => hb.block k hk) hka hkb d hd).mono fun e w'' ⟨he, hbb⟩ => ⟨he, hx'.trans (hbb.mono hx'.size)⟩
        have t0 := (below_cell HB.out hla).trans q0
        have t1 := (below_cell HB.out hla).trans q1
        have t2 := (below_cell HB.out hlb).trans s0
        have t3 := (below_cell HB.out hlb).trans s1
        have x0 := cls_cell (n := wr.heap.size) t0 (by simp only; omega)
        have x1 := cls_cell (n := wr.heap.size) t1 (by simp only; omega)
        have x2 := cls_cell (n := wr.heap.size) t2 (by simp only; omega)
        have x3 := cls_cell (n := wr.heap.size) t3 (by simp only; omega)
        obtain ⟨xt, xc⟩ := x
        obtain ⟨yt, yc⟩ := y
        simp only at x0 x2 HD
        clear q0 q1 s0 s1 hx hy hva hvb t0 t1 t2 t3 hka hkb hd
        by_cases ht : xt = yt
        · subst ht
          cases d with
          | true =>
            have HNX : Hid (l.take (i + 1) = m.take (i + 1)) := by
              have h0 : xc = yc := of_decide_eq_true HD.out.symm
              have h1 : l[i] = m[i] := by rw [← HX.out.1, ← HX.out.2, h0]
              show _ = _
              rw [List.take_succ_eq_append_getElem hlt, List.take_succ_eq_append_getElem hltm, HTK.out, h1]
            go_wp2_with fail
            refine wp_region_cls (n := wr.heap.size) (w0 := wr) (Below.refl _ _) (by kernel_rfl) (by kernel_rfl) ?_
            iterate 22 (go_big_quiet_step (fail))
            go_big_quiet_step (exact cls_calls HC.out _)
            iterate 2 (go_big_quiet_step (fail))
            refine wpQuiet_nil ?_
            rintro _ ⟨c, rfl⟩
            have HBc : Hid (Below w.heap.size w c.1) := HB.out.trans (c.2.mono hsw)
            clear x0 x1 x2 x3
            go_wp2
            exact ⟨⟨i + 1, by omega, by go_num, HNX.out, HBc.out⟩, by simp [intOf]; omega⟩
          | false =>
            have HNE : Hid (l ≠ m) := fun e => by
              have h0 : ¬ xc = yc := of_decide_eq_false HD.out.symm
              have h1 := HX.out.1
              simp only [e] at h1
              rw [← HX.out.2] at h1
              exact h0 (Prod.mk.inj h1).2
            go_wp2_with fail
            refine wp_region_cls (n := wr.heap.size) (w0 := wr) (Below.refl _ _) (by kernel_rfl) (by kernel_rfl) ?_
            iterate 22 (go_big_quiet_step (fail))
            go_big_quiet_step (exact cls_calls HC.out _)
            iterate 2 (go_big_quiet_step (fail))
            refine wpQuiet_nil ?_
            rintro _ ⟨c, rfl⟩
            have HBc : Hid (Below w.heap.size w c.1) := HB.out.trans (c.2.mono hsw)
            clear x0 x1 x2 x3
            go_wp2
            go_ret
            exact ⟨⟨false, rfl, by simp [HNE.out]⟩, HBc.out⟩
        · have hxy : (xt == yt) = false := by rw [beq_eq_false_iff_ne]; exact ht
          have HNE : Hid (l ≠ m) := fun e => by
            have h1 := HX.out.1
            simp only [e] at h1
            rw [← HX.out.2] at h1
            exact ht (Prod.mk.inj h1).1
          go_wp2_with fail
          refine wp_region_cls (n := wr.heap.size) (w0 := wr) (Below.refl _ _) (by kernel_rfl) (by kernel_rfl) ?_
          iterate 25 (go_big_quiet_step (fail))
          refine wpQuiet_nil ?_
          rintro _ ⟨c, rfl⟩
          have HBc : Hid (Below w.heap.size w c.1) := HB.out.trans (c.2.mono hsw)
          clear x0 x1 x2 x3
          go_wp2
          go_ret
          exact ⟨⟨false, rfl, by simp [HNE.out]⟩, HBc.out⟩
      · obtain rfl : i = l.length := by omega
        have hi2 : ¬ (l.length : Int) < l.length := by omega
        have HE : Hid (l = m) := by
          have := HTK.out
          rw [List.take_length, hlm, List.take_length] at this
          exact this
        go_wp2
        go_ret
        exact ⟨⟨true, rfl, by simp [HE.out]⟩, HB.out⟩
  · have hlmI : ¬ (l.length : Int) = m.length := by omega
    have hlmB : ((l.length : Int) == m.length) = false := by rw [beq_eq_false_iff_ne]; exact hlmI
    have hlmN : ((l.length : Int) != m.length) = true := by simp [bne, hlmB]
    have HE : Hid (l ≠ m) := fun e => hlm (by rw [e])
    go_enter Tryz.func38, Tryz.ntmps38
    go_wp2
    go_ret
    exact ⟨⟨false, rfl, by simp [HE.out]⟩, HB0.out⟩
end Go.Proofs.YtbdgniiafdjmiaaGreatDoor
