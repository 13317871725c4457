/- heap: the document's own look whether objects are the same. -/
import Derived.Test.YtbdgniiafdjmiaaGreatDoorHAll
namespace Go.Proofs.YtbdgniiafdjmiaaGreatDoor
open Go.RowKit Go.Shelf

/-- An object of a row, where it lies. -/
theorem objsIn.at {S : Nat → Prop} {w : World} {v : Value} {os : List Ob} (h : objsIn S w v os) : ∃ base cap, v = .slice base os.length cap ∧ os.length ≤ cap ∧ cap ≤ maxLen ∧
    ∀ i (hi : i < os.length), ∃ b o u, base = some ⟨b, o, none⟩ ∧ S b ∧ b < w.heap.size ∧ w.cell? ⟨b, o + i * 2, none⟩ = some (.string (strB (os[i]).1)) ∧ w.cell? ⟨b, o + i * 2 + 1, none⟩ = some u ∧ valsIn S w u (os[i]).2 := by
  obtain ⟨base, cap, hv, h1, h2, h3⟩ := h
  refine ⟨base, cap, hv, h1, h2, fun i hi => ?_⟩
  rcases h3 with h3 | ⟨b, o, e, hs, hlt, hc⟩
  · subst h3; simp at hi
  · obtain ⟨u, c0, c1, hv⟩ := hc i hi
    exact ⟨b, o, u, e, hs, hlt, c0, c1, hv⟩

set_option maxRecDepth 100000 in
set_option maxHeartbeats 2000000 in
theorem sameVals_any (S T : Nat → Prop) (l : List Vl) (u v : Value) (w : World) (hu : valsIn S w u l) (hv : valsIn T w v l) (hl : l.length ≤ 1048576) :
    Calls Tryz.prog 39 #[u, v] w fun e w' => e = .returned (.bool true) ∧ Below w.heap.size w w' := by
  obtain ⟨b1, c1, rfl, p1, p2, hat1⟩ := hu.at
  obtain ⟨b2, c2, rfl, p3, p4, hat2⟩ := hv.at
  have H1 : Hid (∀ i (hi : i < l.length), ∃ b o, b1 = some ⟨b, o, none⟩ ∧ S b ∧ b < w.heap.size ∧ w.cell? ⟨b, o + i * 3, none⟩ = some (.int .i64 (l[i]).k) ∧ w.cell? ⟨b, o + i * 3 + 1, none⟩ = some (.int .i64 (l[i]).n) ∧ w.cell? ⟨b, o + i * 3 + 2, none⟩ = some (.string (strB (l[i]).s))) := hat1
  have H2 : Hid (∀ i (hi : i < l.length), ∃ b o, b2 = some ⟨b, o, none⟩ ∧ T b ∧ b < w.heap.size ∧ w.cell? ⟨b, o + i * 3, none⟩ = some (.int .i64 (l[i]).k) ∧ w.cell? ⟨b, o + i * 3 + 1, none⟩ = some (.int .i64 (l[i]).n) ∧ w.cell? ⟨b, o + i * 3 + 2, none⟩ = some (.string (strB (l[i]).s))) := hat2
  clear hu hv hat1 hat2
  go_enter Tryz.func39, Tryz.ntmps39
  go_wp2
  go_loopw [5] (fun vi wr => ∃ i : Nat, i ≤ l.length ∧ vi = .int .i64 i ∧ Below w.heap.size w wr) (fun vi _ => l.length - (intOf vi).toNat)
  case atStart => exact ⟨0, Nat.zero_le _, rfl, Below.refl _ _⟩
  case round =>
    obtain ⟨i, hi, rfl, hbw⟩ := hrel
    have HB : Hid (Below w.heap.size w wr) := hbw
    clear hbw
    by_cases hlt : i < l.length
    · have hi2 : (i : Int) < l.length := by omega
      obtain ⟨ba, oa, rfl, -, hla, q0, q1, q2⟩ := H1.out i hlt
      obtain ⟨bb, ob, rfl, -, hlb, s0, s1, s2⟩ := H2.out i hlt
      obtain ⟨x, hx⟩ : ∃ x, x = l[i] := ⟨_, rfl⟩
      rw [← hx] at q0 q1 q2 s0 s1 s2
      have t0 := (below_cell HB.out hla).trans q0
      have t1 := (below_cell HB.out hla).trans q1
      have t2 := (below_cell HB.out hla).trans q2
      have t3 := (below_cell HB.out hlb).trans s0
      have t4 := (below_cell HB.out hlb).trans s1
      have t5 := (below_cell HB.out hlb).trans s2
      clear q0 q1 q2 s0 s1 s2 hx
      go_wp2_with fail
      go_quiet (fail)
      go_wp2
      exact ⟨⟨i + 1, by omega, by go_num, below_drewH HB.out _⟩, by simp [intOf]; omega⟩
    · obtain rfl : i = l.length := by omega
      have hi2 : ¬ (l.length : Int) < l.length := by omega
      go_wp2
      go_ret
      exact ⟨rfl, HB.out⟩

set_option maxRecDepth 100000 in
set_option maxHeartbeats 4000000 in
theorem same_any06 (S T : Nat → Prop) (os : List Ob) (u v : Value) (w : World) (hu : objsIn S w u os) (hv : objsIn T w v os) (hl : os.length ≤ 1048576) (hk : ∀ o ∈ os, o.2.length ≤ 1048576) :
    Calls Tryz.prog 38 #[u, v] w fun e w' => e = .returned (.bool true) ∧ Below w.heap.size w w' := by
  obtain ⟨b1, c1, rfl, p1, p2, hat1⟩ := hu.at
  obtain ⟨b2, c2, rfl, p3, p4, hat2⟩ := hv.at
  have H1 : Hid (∀ i (hi : i < os.length), ∃ b o u, b1 = some ⟨b, o, none⟩ ∧ S b ∧ b < w.heap.size ∧ w.cell? ⟨b, o + i * 2, none⟩ = some (.string (strB (os[i]).1)) ∧ w.cell? ⟨b, o + i * 2 + 1, none⟩ = some u ∧ valsIn S w u (os[i]).2) := hat1
  have H2 : Hid (∀ i (hi : i < os.length), ∃ b o u, b2 = some ⟨b, o, none⟩ ∧ T b ∧ b < w.heap.size ∧ w.cell? ⟨b, o + i * 2, none⟩ = some (.string (strB (os[i]).1)) ∧ w.cell? ⟨b, o + i * 2 + 1, none⟩ = some u ∧ valsIn T w u (os[i]).2) := hat2
  have HK : Hid (∀ o ∈ os, o.2.length ≤ 1048576) := hk
  clear hu hv hat1 hat2 hk
  go_enter Tryz.func38, Tryz.ntmps38
  go_wp2
  go_loopw [5] (fun vi wr => ∃ i : Nat, i ≤ os.length ∧ vi = .int .i64 i ∧ Below w.heap.size w wr) (fun vi _ => os.length - (intOf vi).toNat)
  case atStart => exact ⟨0, Nat.zero_le _, rfl, Below.refl _ _⟩
  case round =>
    obtain ⟨i, hi, rfl, hbw⟩ := hrel
    have HB : Hid (Below w.heap.size w wr) := hbw
    have hsw := hbw.size
    clear hbw
    by_cases hlt : i < os.length
    · have hi2 : (i : Int) < os.length := by omega
      obtain ⟨ba, oa, ua, rfl, -, hla, q0, q1, hva⟩ := H1.out i hlt
      obtain ⟨bb, ob, ub, rfl, -, hlb, s0, s1, hvb⟩ := H2.out i hlt
      have hkl := HK.out os[i] (List.getElem_mem hlt)
      obtain ⟨x, hx⟩ : ∃ x, x = os[i] := ⟨_, rfl⟩
      rw [← hx] at q0 s0 hva hvb hkl
      have HC : Hid (∀ wx, Below wr.heap.size wr wx → Calls Tryz.prog 39 #[ua, ub] wx fun e w'' => e = .returned (.bool true) ∧ Below wr.heap.size wr w'') := fun wx hx' => by
        have hb : Below w.heap.size w wx := HB.out.trans (hx'.mono hsw)
        exact (sameVals_any S T x.2 ua ub wx (hva.kept hb.size fun k _ hk => hb.block k hk) (hvb.kept hb.size fun k _ hk => hb.block k hk) hkl).mono fun e w'' ⟨he, hbb⟩ => ⟨he, hx'.trans (hbb.mono hx'.size)⟩
      have t0 := (below_cell HB.out hla).trans q0
      have t1 := (below_cell HB.out hla).trans q1
      have t2 := (below_cell HB.out hlb).trans s0
      have t3 := (below_cell HB.out hlb).trans s1
      have x0 := cls_cell (n := wr.heap.size) t0 (by simp only; omega)
      have x1 := cls_cell (n := wr.heap.size) t1 (by simp only; omega)
      have x2 := cls_cell (n := wr.heap.size) t2 (by simp only; omega)
      have x3 := cls_cell (n := wr.heap.size) t3 (by simp only; omega)
      clear q0 q1 s0 s1 hx hva hvb t0 t1 t2 t3
      go_wp2_with fail
      refine wp_region_cls (n := wr.heap.size) (w0 := wr) (Below.refl _ _) (by kernel_rfl) (by kernel_rfl) ?_
      iterate 22 (go_big_quiet_step (fail))
      go_big_quiet_step (exact cls_calls HC.out _)
      iterate 2 (go_big_quiet_step (fail))
      refine wpQuiet_nil ?_
      rintro _ ⟨c, rfl⟩
      have HBc : Hid (Below w.heap.size w c.1) := HB.out.trans (c.2.mono hsw)
      clear x0 x1 x2 x3
      go_wp2
      exact ⟨⟨i + 1, by omega, by go_num, HBc.out⟩, by simp [intOf]; omega⟩
    · obtain rfl : i = os.length := by omega
      have hi2 : ¬ (os.length : Int) < os.length := by omega
      go_wp2
      go_ret
      exact ⟨rfl, HB.out⟩
end Go.Proofs.YtbdgniiafdjmiaaGreatDoor
