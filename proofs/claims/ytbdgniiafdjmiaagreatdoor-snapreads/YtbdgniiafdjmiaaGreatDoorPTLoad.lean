/- snap: the document's own reading of a state. -/
import Derived.Test.YtbdgniiafdjmiaaGreatDoorMT
import Derived.Test.YtbdgniiafdjmiaaGreatDoorPLoad
import Derived.Test.YtbdgniiafdjmiaaGreatDoorPRfMay
import Derived.Test.YtbdgniiafdjmiaaGreatDoorWMix
import Derived.Test.YtbdgniiafdjmiaaGreatDoorCMix2
namespace Go.Proofs.YtbdgniiafdjmiaaGreatDoor
open Go.RowKit Go.Shelf

theorem pstep_append_at {P : Program} {ops : Array Oper} {o : Oper} {a : Act} {w : World} {K : Act → World → Prop} {Q : Exit → Act → World → Prop} {E : Prop} (s x : Operand) (t : TypeId)
    (ho : o.op = .call { callee := .builtin .append, args := #[s, x], argTypes := #[t, t] }) (hw : Region.wanted o (yielded ops a.tmps) = true)
    (base : Nat) (e : TypeId) (i : TypeInfo) (z : Value) (size bytes : Nat) (ht : P.underlying t = some (.slice e)) (hi : P.info? e = some i) (hz : i.zero = some z)
    (hsize : i.size = size) (hby : i.bytes = bytes) (hzs : z.cells.size = size) (hsz : 0 < size)
    (v : Value) (n : Nat) (xs : List Value) (hs : a.eval s = v) (hown : w.ownsRow base e size v n xs)
    (ad : Addr) (m c : Nat) (news : List Value) (hx : a.eval x = .slice (some ad) m c) (hl : news.length = m * size) (hnews : ∀ j u, news[j]? = some u → w.cell? (ad.add j) = some u) (h1 : ∀ u ∈ news, u.oneCell' = true)
    (h63 : n + m ≤ maxLen) (hbytes : (n + m) * bytes ≤ 140737488355328) (hbase : base ≤ w.heap.size)
    (h : ∀ v' w', w'.ownsRow base e size v' (n + m) (xs ++ news) → w.grownBy w' v.ownBlock → (v'.ownBlock = v.ownBlock ∨ v'.ownBlock = some w.heap.size) → K (a.put o.dst v') w') :
    if Region.wanted o (yielded ops a.tmps) = true then Oper.wp P o a w K Q else E := by
  rw [if_pos hw]
  obtain ⟨v', w', hrun, g1, g2, -, g4⟩ := run_append_own_at (P := P) w base t o.type e i z size bytes ht hi hz hsize hby hzs hsz v n xs hown ad m c news hl hnews h1 h63 hbytes hbase
  unfold Oper.wp
  simp [execOp, ho, resolve, invoke, builtin, hs, hx, hrun, Result.andThen]
  exact h v' w' g1 g2 g4
def coObF (S : Nat → Prop) (w : World) (x : Ob) (cs : List Value) : Prop := ∃ b n c, cs = [.string (strB x.1), .slice b n c] ∧ Fm (.slice b n c) ∧ valsR S w (.slice b n c) x.2
theorem lawObF : CellLaw 2 coObF where
  len := fun _ _ _ _ h => by obtain ⟨b, n, c, rfl, -⟩ := h; rfl
  one := fun _ _ _ _ h u hu => by obtain ⟨b, n, c, rfl, -⟩ := h; simp at hu; rcases hu with rfl | rfl <;> rfl
  keep := fun S _ _ _ _ h hs hb => by obtain ⟨b, n, c, e, f, h⟩ := h; exact ⟨b, n, c, e, f, rowIn.kept h (valE_keeps S) hs hb⟩
  wide := fun _ _ _ _ _ h hS => by obtain ⟨b, n, c, e, f, h⟩ := h; exact ⟨b, n, c, e, f, rowIn.wide h hS fun _ _ _ h => h⟩
def objFE (S : Nat → Prop) (w : World) (b o : Nat) (x : Ob) : Prop := objE S w b o x ∧ ∃ u, w.cell? ⟨b, o + 1, none⟩ = some u ∧ Fm u
theorem objFE_keeps (S : Nat → Prop) : KeepsE S (objFE S) := fun _ _ _ _ _ hs hb hS hlt ⟨h, u, hu, f⟩ => ⟨objE_keeps S _ _ _ _ _ hs hb hS hlt h, u, (World.cell?_of_block (hb _ hS hlt)).trans hu, f⟩
theorem objFE_R {S S' : Nat → Prop} {w : World} {v : Value} {l : List Ob} (h : rowIn S w v 2 (objFE S) l) (hS : ∀ q, q < w.heap.size → S q → S' q) : objsR S' w v l := rowIn.wide h hS fun b o x hx => objE_wide hS b o x hx.1
theorem objFE_F {S : Nat → Prop} {w : World} {v : Value} {l : List Ob} (h : rowIn S w v 2 (objFE S) l) : objsF w v l := by
  obtain ⟨base, cap, hv, -, -, hat⟩ := rowIn.at h
  intro i hi b o cap' u e hc
  rw [hv] at e
  obtain ⟨b', o', hb', -, -, -, u', hu', hform⟩ := hat i hi
  rw [hb'] at e
  simp only [Value.slice.injEq, Option.some.injEq, Addr.mk.injEq, and_true] at e
  obtain ⟨⟨rfl, rfl⟩, -⟩ := e
  rw [hu'] at hc
  cases hc
  exact hform
theorem pgrown_to_below {w W : World} {p : Nat} (h : w.grownBy W (some p)) (hp : w.heap.size ≤ p) : Below w.heap.size w W := ⟨h.os, h.tape, h.output, h.size, fun k hk => h.block k hk (by simp; omega)⟩
/-- Within a round: a call's box at VB, beside the rest. -/
structure PVx (w W : World) (p : Nat) (bs : List UInt8) (a r U : Nat) (ty : TypeId) (zero cur : Array Value) (N : Nat) (wr : World) (VB : Nat) (cv : Array Value) : Prop where
  B : PBx w W p bs a r U ty zero cur
  VX : W.heap[VB]? = some (.cells cv 49 (0, 0))
  K : ∀ q, N ≤ q → q < wr.heap.size → W.heap[q]? = wr.heap[q]?
  hs : wr.heap.size ≤ VB
  hU : U < N
theorem PVx.call {w W W1 : World} {p : Nat} {bs : List UInt8} {a r a1 r1 U : Nat} {ty : TypeId} {zero cur : Array Value} {N : Nat} {wr : World} {VB : Nat} {cv : Array Value} (h : PVx w W p bs a r U ty zero cur N wr VB cv) (hr : PkAt W1 p bs a1 r1) (hg : W.grownBy W1 (some p)) (hN : N ≤ wr.heap.size := by omega) : PVx w W1 p bs a1 r1 U ty zero cur N wr VB cv := by
  have h1 := h.B.pU
  have h2 := h.hU
  have h3 := h.hs
  have h4 := heap_lt h.VX
  exact ⟨h.B.call hr hg, (hg.block VB h4 (by simp; omega)).trans h.VX, fun q hq hlt => (hg.block q (by omega) (by simp; omega)).trans (h.K q hq hlt), h3, h2⟩
theorem PVx.store {w W : World} {p : Nat} {bs : List UInt8} {a r U : Nat} {ty : TypeId} {zero cur : Array Value} {N : Nat} {wr : World} {VB : Nat} {cv : Array Value} (h : PVx w W p bs a r U ty zero cur N wr VB cv) (j : Nat) (v : Value) (hN : N ≤ wr.heap.size := by omega) : PVx w (W.setCell ⟨VB, j, none⟩ v) p bs a r U ty zero cur N wr VB (cv.setIfInBounds j v) := by
  have h2 := h.hU
  have h3 := h.hs
  exact ⟨h.B.low (N := VB) (by omega) (fun q hq => heap_setCell_other _ _ _ _ (by simp; omega)) rfl rfl rfl (by simp), heap_setCell_same _ _ _ _ _ _ h.VX, fun q hq hlt => (heap_setCell_other _ _ _ _ (by simp; omega)).trans (h.K q hq hlt), h3, h2⟩

set_option maxRecDepth 100000 in
set_option maxHeartbeats 16000000 in
theorem pfLoad_any (bs : List UInt8) (w : World) (hfew : bs.length ≤ 1048576) :
    Calls Tryz.prog 15 #[.string (strB bs)] w fun e w' => LoadRetS w.heap.size bs e w' ∧ Below w.heap.size w w' := by
  obtain ⟨wP, hwP, hbP, HZP, hRb, hPb⟩ := box2 w (.cells #[.int .i64 0, .int .i64 0, .int .i64 0, .slice none 0 0, .slice none 0 0, .string ⟨#[]⟩, .int .i64 0] 27) (.cells #[.string (strB bs), .int .i64 0, .int .i64 0] 73)
  have HWP : Hid (wP = (w.alloc (.cells #[.int .i64 0, .int .i64 0, .int .i64 0, .slice none 0 0, .slice none 0 0, .string ⟨#[]⟩, .int .i64 0] 27)).alloc (.cells #[.string (strB bs), .int .i64 0, .int .i64 0] 73)) := hwP
  have HRB : Hid (wP.heap[w.heap.size]? = some (.cells #[.int .i64 0, .int .i64 0, .int .i64 0, .slice none 0 0, .slice none 0 0, .string ⟨#[]⟩, .int .i64 0] 27 (0, 0))) := hRb
  obtain ⟨p, hp⟩ : ∃ p, p = w.heap.size + 1 := ⟨_, rfl⟩
  have HP : Hid (p = w.heap.size + 1) := hp
  have hTP : PkAt wP p bs 0 0 := ⟨by rw [hp]; exact hPb, Nat.zero_le _, hfew⟩
  have HGP : Hid (w.grownBy wP (some p)) := pkg_below p hbP
  have HPS : Hid (wP.heap.size = p + 1) := by rw [hp]; exact HZP.out
  obtain ⟨x0, a1, r1, hx0⟩ : ∃ x ya yr, rI bs 0 0 = (x, ya, yr) := ⟨_, _, _, rfl⟩
  obtain ⟨x1, a2, r2, hx1⟩ : ∃ x ya yr, rI bs a1 r1 = (x, ya, yr) := ⟨_, _, _, rfl⟩
  obtain ⟨x2, a3, r3, hx2⟩ : ∃ x ya yr, rI bs a2 r2 = (x, ya, yr) := ⟨_, _, _, rfl⟩
  obtain ⟨x3, a4, r4, hx3⟩ : ∃ x ya yr, rI bs a3 r3 = (x, ya, yr) := ⟨_, _, _, rfl⟩
  obtain ⟨x4, a5, r5, hx4⟩ : ∃ x ya yr, rTx 4096 bs a4 r4 = (x, ya, yr) := ⟨_, _, _, rfl⟩
  obtain ⟨x5, a6, r6, hx5⟩ : ∃ x ya yr, rAll bs (rCal bs) a5 r5 = (x, ya, yr) := ⟨_, _, _, rfl⟩
  obtain ⟨x6, a7, r7, hx6⟩ : ∃ x ya yr, rAll bs (rObj bs) a6 r6 = (x, ya, yr) := ⟨_, _, _, rfl⟩
  have HRES : Hid (rSn bs 0 0 = ((⟨x0, x1, x2, x5, x6, x4, x3⟩ : Sn), a7, r7)) := by
    show _ = _
    simp only [rSn, hx0, hx1, hx2, hx3, hx4, hx5, hx6]
  obtain ⟨nI, aI, rI', hcI⟩ : ∃ x ya yr, rC bs a5 r5 = (x, ya, yr) := ⟨_, _, _, rfl⟩
  obtain ⟨nV, aV, rV', hcV⟩ : ∃ x ya yr, rC bs a6 r6 = (x, ya, yr) := ⟨_, _, _, rfl⟩
  have hbI := rC_bound bs a5 r5
  have hbV := rC_bound bs a6 r6
  rw [hcI] at hbI
  rw [hcV] at hbV
  simp only at hbI hbV
  obtain ⟨nI, rfl⟩ : ∃ n : Nat, nI = n := ⟨nI.toNat, by omega⟩
  obtain ⟨nV, rfl⟩ : ∃ n : Nat, nV = n := ⟨nV.toNat, by omega⟩
  have HX5 : Hid (loopR (rCal bs) nI aI rI' = (x5, a6, r6)) := by
    have h9 := hx5
    unfold rAll at h9
    rw [hcI] at h9
    show _ = _
    simpa using h9
  have HX6 : Hid (loopR (rObj bs) nV aV rV' = (x6, a7, r7)) := by
    have h9 := hx6
    unfold rAll at h9
    rw [hcV] at h9
    show _ = _
    simpa using h9
  have HX1 : Hid (rI bs a1 r1 = (x1, a2, r2)) := hx1
  have HX2 : Hid (rI bs a2 r2 = (x2, a3, r3)) := hx2
  have HX3 : Hid (rI bs a3 r3 = (x3, a4, r4)) := hx3
  have HX4 : Hid (rTx 4096 bs a4 r4 = (x4, a5, r5)) := hx4
  have HCI : Hid (rC bs a5 r5 = ((nI : Int), aI, rI')) := hcI
  have HCV : Hid (rC bs a6 r6 = ((nV : Int), aV, rV')) := hcV
  have hnI : (nI : Int) ≤ 1048576 := hbI.2
  have hnV : (nV : Int) ≤ 1048576 := hbV.2
  have HNI : Hid (nI ≤ 1048576 ∧ nV ≤ 1048576) := ⟨by omega, by omega⟩
  obtain ⟨iI, hinfI, hzI0, hzI1, hzI2⟩ := info_parts pinfo_cal
  obtain ⟨iV, hinfV, hzV0, hzV1, hzV2⟩ := info_parts pinfo_obj
  have c := pkNum p bs 0 0 wP hTP
  rw [hx0] at c
  simp only at c
  clear hwP hbP HZP hRb hPb hTP hp hx0 hx1 hx2 hx3 hx4 hx5 hx6 hcI hcV hbI hbV hfew
  go_enter Tryz.func15, Tryz.ntmps15
  go_wp2_with fail
  rw [← HWP.out, ← HP.out]
  refine c.mono ?_
  clear c
  rintro e V0 ⟨rfl, hT0, hG0⟩
  obtain ⟨W1, hW1, hb1, HZ1, hU1⟩ := box1 V0 (.cells #[.int .i64 x0, .int .i64 0, .int .i64 0, .slice none 0 0, .slice none 0 0, .string ⟨#[]⟩, .int .i64 0] 27)
  have HW1 : Hid (W1 = V0.alloc (.cells #[.int .i64 x0, .int .i64 0, .int .i64 0, .slice none 0 0, .slice none 0 0, .string ⟨#[]⟩, .int .i64 0] 27)) := hW1
  have HRV : Hid (p < V0.heap.size ∧ wP.heap.size ≤ V0.heap.size) := ⟨heap_lt hT0.blk, hG0.size⟩
  have B1 : Hid (PBx w W1 p bs a1 r1 V0.heap.size 27 #[.int .i64 0, .int .i64 0, .int .i64 0, .slice none 0 0, .slice none 0 0, .string ⟨#[]⟩, .int .i64 0] #[.int .i64 x0, .int .i64 0, .int .i64 0, .slice none 0 0, .slice none 0 0, .string ⟨#[]⟩, .int .i64 0]) := by
    have hp := HP.out
    have hr := HRV.out
    refine ⟨hT0.kept (hb1.block p (heap_lt hT0.blk)), hU1, ?_, pkg_trans HGP.out (pkg_trans hG0 (pkg_below p hb1)), by omega, heap_lt hT0.blk, by omega⟩
    rw [hb1.block _ (by omega), hG0.block _ (heap_lt HRB.out) (by simp; omega)]
    exact HRB.out
  clear hT0 hG0 hW1 hb1 HZ1 hU1
  have c := pkNum p bs a1 r1 W1 B1.out.rd
  rw [HX1.out] at c
  simp only at c
  go_wp2_with fail
  rw [← HW1.out]
  refine c.mono ?_
  clear c
  rintro e V1 ⟨rfl, hr1, hg1⟩
  have A1 : Hid (PBx w V1 p bs a2 r2 V0.heap.size 27 #[.int .i64 0, .int .i64 0, .int .i64 0, .slice none 0 0, .slice none 0 0, .string ⟨#[]⟩, .int .i64 0] #[.int .i64 x0, .int .i64 0, .int .i64 0, .slice none 0 0, .slice none 0 0, .string ⟨#[]⟩, .int .i64 0]) := B1.out.call hr1 hg1
  obtain ⟨W2, hW⟩ : ∃ W, W = V1.setCell ⟨V0.heap.size, 1, none⟩ (.int .i64 x1) := ⟨_, rfl⟩
  have HW2 : Hid (W2 = V1.setCell ⟨V0.heap.size, 1, none⟩ (.int .i64 x1)) := hW
  have B2 : Hid (PBx w W2 p bs a2 r2 V0.heap.size 27 #[.int .i64 0, .int .i64 0, .int .i64 0, .slice none 0 0, .slice none 0 0, .string ⟨#[]⟩, .int .i64 0] #[.int .i64 x0, .int .i64 x1, .int .i64 0, .slice none 0 0, .slice none 0 0, .string ⟨#[]⟩, .int .i64 0]) := by rw [hW]; exact A1.out.store 1 _
  obtain ⟨q0, q1, q2, q3, q4, q5, q6⟩ := cells7 A1.out.X
  have fz := cfrozen A1.out.X 1
  have hul : V0.heap.size < V1.heap.size := heap_lt A1.out.X
  clear hr1 hg1 hW
  have c := pkNum p bs a2 r2 W2 B2.out.rd
  rw [HX2.out] at c
  simp only at c
  go_wp2_with fail
  rw [← HW2.out]
  refine c.mono ?_
  clear c
  rintro e V2 ⟨rfl, hr1, hg1⟩
  have A2 : Hid (PBx w V2 p bs a3 r3 V0.heap.size 27 #[.int .i64 0, .int .i64 0, .int .i64 0, .slice none 0 0, .slice none 0 0, .string ⟨#[]⟩, .int .i64 0] #[.int .i64 x0, .int .i64 x1, .int .i64 0, .slice none 0 0, .slice none 0 0, .string ⟨#[]⟩, .int .i64 0]) := B2.out.call hr1 hg1
  obtain ⟨W3, hW⟩ : ∃ W, W = V2.setCell ⟨V0.heap.size, 2, none⟩ (.int .i64 x2) := ⟨_, rfl⟩
  have HW3 : Hid (W3 = V2.setCell ⟨V0.heap.size, 2, none⟩ (.int .i64 x2)) := hW
  have B3 : Hid (PBx w W3 p bs a3 r3 V0.heap.size 27 #[.int .i64 0, .int .i64 0, .int .i64 0, .slice none 0 0, .slice none 0 0, .string ⟨#[]⟩, .int .i64 0] #[.int .i64 x0, .int .i64 x1, .int .i64 x2, .slice none 0 0, .slice none 0 0, .string ⟨#[]⟩, .int .i64 0]) := by rw [hW]; exact A2.out.store 2 _
  obtain ⟨q0, q1, q2, q3, q4, q5, q6⟩ := cells7 A2.out.X
  have fz := cfrozen A2.out.X 2
  have hul : V0.heap.size < V2.heap.size := heap_lt A2.out.X
  clear hr1 hg1 hW
  have c := pkNum p bs a3 r3 W3 B3.out.rd
  rw [HX3.out] at c
  simp only at c
  go_wp2_with fail
  rw [← HW3.out]
  refine c.mono ?_
  clear c
  rintro e V3 ⟨rfl, hr1, hg1⟩
  have A3 : Hid (PBx w V3 p bs a4 r4 V0.heap.size 27 #[.int .i64 0, .int .i64 0, .int .i64 0, .slice none 0 0, .slice none 0 0, .string ⟨#[]⟩, .int .i64 0] #[.int .i64 x0, .int .i64 x1, .int .i64 x2, .slice none 0 0, .slice none 0 0, .string ⟨#[]⟩, .int .i64 0]) := B3.out.call hr1 hg1
  obtain ⟨W4, hW⟩ : ∃ W, W = V3.setCell ⟨V0.heap.size, 6, none⟩ (.int .i64 x3) := ⟨_, rfl⟩
  have HW4 : Hid (W4 = V3.setCell ⟨V0.heap.size, 6, none⟩ (.int .i64 x3)) := hW
  have B4 : Hid (PBx w W4 p bs a4 r4 V0.heap.size 27 #[.int .i64 0, .int .i64 0, .int .i64 0, .slice none 0 0, .slice none 0 0, .string ⟨#[]⟩, .int .i64 0] #[.int .i64 x0, .int .i64 x1, .int .i64 x2, .slice none 0 0, .slice none 0 0, .string ⟨#[]⟩, .int .i64 x3]) := by rw [hW]; exact A3.out.store 6 _
  obtain ⟨q0, q1, q2, q3, q4, q5, q6⟩ := cells7 A3.out.X
  have fz := cfrozen A3.out.X 6
  have hul : V0.heap.size < V3.heap.size := heap_lt A3.out.X
  clear hr1 hg1 hW
  have c := pkText 4096 p bs a4 r4 W4 B4.out.rd
  rw [HX4.out] at c
  simp only at c
  go_wp2_with fail
  rw [← HW4.out]
  refine c.mono ?_
  clear c
  rintro e V4 ⟨rfl, hr1, hg1⟩
  have A4 : Hid (PBx w V4 p bs a5 r5 V0.heap.size 27 #[.int .i64 0, .int .i64 0, .int .i64 0, .slice none 0 0, .slice none 0 0, .string ⟨#[]⟩, .int .i64 0] #[.int .i64 x0, .int .i64 x1, .int .i64 x2, .slice none 0 0, .slice none 0 0, .string ⟨#[]⟩, .int .i64 x3]) := B4.out.call hr1 hg1
  obtain ⟨W5, hW⟩ : ∃ W, W = V4.setCell ⟨V0.heap.size, 5, none⟩ (.string (strB x4)) := ⟨_, rfl⟩
  have HW5 : Hid (W5 = V4.setCell ⟨V0.heap.size, 5, none⟩ (.string (strB x4))) := hW
  have B5 : Hid (PBx w W5 p bs a5 r5 V0.heap.size 27 #[.int .i64 0, .int .i64 0, .int .i64 0, .slice none 0 0, .slice none 0 0, .string ⟨#[]⟩, .int .i64 0] #[.int .i64 x0, .int .i64 x1, .int .i64 x2, .slice none 0 0, .slice none 0 0, .string (strB x4), .int .i64 x3]) := by rw [hW]; exact A4.out.store 5 _
  obtain ⟨q0, q1, q2, q3, q4, q5, q6⟩ := cells7 A4.out.X
  have fz := cfrozen A4.out.X 5
  have hul : V0.heap.size < V4.heap.size := heap_lt A4.out.X
  clear hr1 hg1 hW
  have c := pkCount p bs a5 r5 W5 B5.out.rd
  rw [HCI.out] at c
  simp only at c
  go_wp2_with fail
  rw [← HW5.out]
  refine c.mono ?_
  clear c q0 q1 q2 q3 q4 q5 q6 fz hul
  rintro e V5 ⟨rfl, hr1, hg1⟩
  have B6 : Hid (PBx w V5 p bs aI rI' V0.heap.size 27 #[.int .i64 0, .int .i64 0, .int .i64 0, .slice none 0 0, .slice none 0 0, .string ⟨#[]⟩, .int .i64 0] #[.int .i64 x0, .int .i64 x1, .int .i64 x2, .slice none 0 0, .slice none 0 0, .string (strB x4), .int .i64 x3]) := B5.out.call hr1 hg1
  have HUN : Hid (V0.heap.size < V5.heap.size) := heap_lt B6.out.X
  clear hr1 hg1
  go_wp2
  go_loopw [7] (fun vi wr => ∃ (i : Nat) (l : List Cal) (css : List (List Value)) (a' r' : Nat) (b n c : _), vi = .int .i64 (i : Int) ∧ LoopP (rCal bs) nI aI rI' i l a' r' ∧ PBx w wr p bs a' r' V0.heap.size 27 #[.int .i64 0, .int .i64 0, .int .i64 0, .slice none 0 0, .slice none 0 0, .string ⟨#[]⟩, .int .i64 0] #[.int .i64 x0, .int .i64 x1, .int .i64 x2, .slice b n c, .slice none 0 0, .string (strB x4), .int .i64 x3] ∧ RowP coCal 5 V5.heap.size 49 (.slice b n c) wr l css) (fun vi _ => nI - (intOf vi).toNat)
  case atStart => exact ⟨0, [], [], aI, rI', none, 0, 0, rfl, LoopP.start _ _ _ _, B6.out, RowP.start (Nat.le_refl _)⟩
  case round =>
    obtain ⟨i, l, css, a', r', b5, n5, c5, rfl, hL, hB, hX⟩ := hrel
    have HB : Hid (PBx w wr p bs a' r' V0.heap.size 27 #[.int .i64 0, .int .i64 0, .int .i64 0, .slice none 0 0, .slice none 0 0, .string ⟨#[]⟩, .int .i64 0] #[.int .i64 x0, .int .i64 x1, .int .i64 x2, .slice b5 n5 c5, .slice none 0 0, .string (strB x4), .int .i64 x3]) := hB
    have HX : Hid (RowP coCal 5 V5.heap.size 49 (.slice b5 n5 c5) wr l css) := hX
    have hle := hL.le
    have hfew := hL.few
    by_cases hgo : i < nI ∧ r' = 0
    · obtain ⟨hi, rfl⟩ := hgo
      have hi2 : (i : Int) < nI := by omega
      have cw := pkWell p bs a' 0 wr hB.rd
      rw [decide_eq_true rfl] at cw
      have c1 := pkNum p bs a' 0 wr hB.rd
      have HNX := hL.next hi
      obtain ⟨y0, e1, s1, hy0⟩ : ∃ x ya yr, rI bs a' 0 = (x, ya, yr) := ⟨_, _, _, rfl⟩
      obtain ⟨y1, e2, s2, hy1⟩ : ∃ x ya yr, rI bs e1 s1 = (x, ya, yr) := ⟨_, _, _, rfl⟩
      obtain ⟨y2, e3, s3, hy2⟩ : ∃ x ya yr, rI bs e2 s2 = (x, ya, yr) := ⟨_, _, _, rfl⟩
      obtain ⟨y3, e4, s4, hy3⟩ : ∃ x ya yr, rAll bs (rVl bs) e3 s3 = (x, ya, yr) := ⟨_, _, _, rfl⟩
      obtain ⟨y4, e5, s5, hy4⟩ : ∃ x ya yr, rAll bs (rVl bs) e4 s4 = (x, ya, yr) := ⟨_, _, _, rfl⟩
      have HY1 : Hid (rI bs e1 s1 = (y1, e2, s2)) := hy1
      have HY2 : Hid (rI bs e2 s2 = (y2, e3, s3)) := hy2
      have HY3 : Hid (rAll bs (rVl bs) e3 s3 = (y3, e4, s4)) := hy3
      have HY4 : Hid (rAll bs (rVl bs) e4 s4 = (y4, e5, s5)) := hy4
      have hri : rCal bs a' 0 = (⟨y0, y1, y2, y3, y4⟩, e5, s5) := by simp only [rCal, hy0, hy1, hy2, hy3, hy4]
      rw [hri] at HNX
      rw [hy0] at c1
      simp only at c1 HNX
      have HNXT : Hid (LoopP (rCal bs) nI aI rI' (i + 1) (l ++ [⟨y0, y1, y2, y3, y4⟩]) e5 s5) := HNX
      have HFW : Hid (l.length ≤ 1048576) := by have := HNI.out; show _ ≤ _; omega
      have HWL : Hid (V5.heap.size ≤ wr.heap.size) := hX.low
      have HPL : Hid (p < V5.heap.size) := by have := HRV.out; have := HUN.out; show _ < _; omega
      clear hL hB hX hle hfew HNX hy0 hy1 hy2 hy3 hy4 hri
      go_wp2_with fail
      refine cw.mono ?_
      clear cw
      rintro e w2 ⟨rfl, rfl⟩
      go_wp2_with fail
      refine c1.mono ?_
      clear c1
      rintro e w3 ⟨rfl, hT3, hG3⟩
      obtain ⟨Y1, hY, hb4, HZ4, hV4⟩ := box1 w3 (.cells #[.int .i64 y0, .int .i64 0, .int .i64 0, .slice none 0 0, .slice none 0 0] 49)
      have HYW1 : Hid (Y1 = w3.alloc (.cells #[.int .i64 y0, .int .i64 0, .int .i64 0, .slice none 0 0, .slice none 0 0] 49)) := hY
      have D1 : Hid (PVx w Y1 p bs e1 s1 V0.heap.size 27 #[.int .i64 0, .int .i64 0, .int .i64 0, .slice none 0 0, .slice none 0 0, .string ⟨#[]⟩, .int .i64 0] #[.int .i64 x0, .int .i64 x1, .int .i64 x2, .slice b5 n5 c5, .slice none 0 0, .string (strB x4), .int .i64 x3] V5.heap.size wr w3.heap.size #[.int .i64 y0, .int .i64 0, .int .i64 0, .slice none 0 0, .slice none 0 0]) := by
        have h1 := HB.out.call hT3 hG3
        exact ⟨h1.below hb4, hV4, fun q hq hlt => (hb4.block q (Nat.lt_of_lt_of_le hlt hG3.size)).trans (hG3.block q hlt (by have := HPL.out; simp; omega)), hG3.size, HUN.out⟩
      clear hT3 hG3 hY hb4 HZ4 hV4
      have c := pkNum p bs e1 s1 Y1 D1.out.B.rd
      rw [HY1.out] at c
      simp only at c
      go_wp2_with fail
      rw [← HYW1.out]
      refine c.mono ?_
      clear c
      rintro e Z1 ⟨rfl, hr1, hg1⟩
      have F1 : Hid (PVx w Z1 p bs e2 s2 V0.heap.size 27 #[.int .i64 0, .int .i64 0, .int .i64 0, .slice none 0 0, .slice none 0 0, .string ⟨#[]⟩, .int .i64 0] #[.int .i64 x0, .int .i64 x1, .int .i64 x2, .slice b5 n5 c5, .slice none 0 0, .string (strB x4), .int .i64 x3] V5.heap.size wr w3.heap.size #[.int .i64 y0, .int .i64 0, .int .i64 0, .slice none 0 0, .slice none 0 0]) := D1.out.call hr1 hg1 HWL.out
      obtain ⟨Y2, hY⟩ : ∃ W, W = Z1.setCell ⟨w3.heap.size, 1, none⟩ (.int .i64 y1) := ⟨_, rfl⟩
      have HYW2 : Hid (Y2 = Z1.setCell ⟨w3.heap.size, 1, none⟩ (.int .i64 y1)) := hY
      have D2 : Hid (PVx w Y2 p bs e2 s2 V0.heap.size 27 #[.int .i64 0, .int .i64 0, .int .i64 0, .slice none 0 0, .slice none 0 0, .string ⟨#[]⟩, .int .i64 0] #[.int .i64 x0, .int .i64 x1, .int .i64 x2, .slice b5 n5 c5, .slice none 0 0, .string (strB x4), .int .i64 x3] V5.heap.size wr w3.heap.size #[.int .i64 y0, .int .i64 y1, .int .i64 0, .slice none 0 0, .slice none 0 0]) := by rw [hY]; exact F1.out.store 1 _ HWL.out
      obtain ⟨p0, p1, p2, p3, p4⟩ := cells5p F1.out.VX
      have fz := cfrozen F1.out.VX 1
      clear hr1 hg1 hY
      have c := pkNum p bs e2 s2 Y2 D2.out.B.rd
      rw [HY2.out] at c
      simp only at c
      go_wp2_with fail
      rw [← HYW2.out]
      refine c.mono ?_
      clear c
      rintro e Z2 ⟨rfl, hr1, hg1⟩
      have F2 : Hid (PVx w Z2 p bs e3 s3 V0.heap.size 27 #[.int .i64 0, .int .i64 0, .int .i64 0, .slice none 0 0, .slice none 0 0, .string ⟨#[]⟩, .int .i64 0] #[.int .i64 x0, .int .i64 x1, .int .i64 x2, .slice b5 n5 c5, .slice none 0 0, .string (strB x4), .int .i64 x3] V5.heap.size wr w3.heap.size #[.int .i64 y0, .int .i64 y1, .int .i64 0, .slice none 0 0, .slice none 0 0]) := D2.out.call hr1 hg1 HWL.out
      obtain ⟨Y3, hY⟩ : ∃ W, W = Z2.setCell ⟨w3.heap.size, 2, none⟩ (.int .i64 y2) := ⟨_, rfl⟩
      have HYW3 : Hid (Y3 = Z2.setCell ⟨w3.heap.size, 2, none⟩ (.int .i64 y2)) := hY
      have D3 : Hid (PVx w Y3 p bs e3 s3 V0.heap.size 27 #[.int .i64 0, .int .i64 0, .int .i64 0, .slice none 0 0, .slice none 0 0, .string ⟨#[]⟩, .int .i64 0] #[.int .i64 x0, .int .i64 x1, .int .i64 x2, .slice b5 n5 c5, .slice none 0 0, .string (strB x4), .int .i64 x3] V5.heap.size wr w3.heap.size #[.int .i64 y0, .int .i64 y1, .int .i64 y2, .slice none 0 0, .slice none 0 0]) := by rw [hY]; exact F2.out.store 2 _ HWL.out
      obtain ⟨p0, p1, p2, p3, p4⟩ := cells5p F2.out.VX
      have fz := cfrozen F2.out.VX 2
      clear hr1 hg1 hY
      have c := pkAll p bs e3 s3 Y3 D3.out.B.rd
      go_wp2_with fail
      rw [← HYW3.out]
      refine c.mono ?_
      clear c
      rintro e Z3 ⟨g3, k3, d3, rfl, -, hv1, hr1, hg1⟩
      rw [HY3.out] at hv1 hr1
      simp only at hv1 hr1
      have F3 : Hid (PVx w Z3 p bs e4 s4 V0.heap.size 27 #[.int .i64 0, .int .i64 0, .int .i64 0, .slice none 0 0, .slice none 0 0, .string ⟨#[]⟩, .int .i64 0] #[.int .i64 x0, .int .i64 x1, .int .i64 x2, .slice b5 n5 c5, .slice none 0 0, .string (strB x4), .int .i64 x3] V5.heap.size wr w3.heap.size #[.int .i64 y0, .int .i64 y1, .int .i64 y2, .slice none 0 0, .slice none 0 0]) := D3.out.call hr1 hg1 HWL.out
      obtain ⟨Y4, hY⟩ : ∃ W, W = Z3.setCell ⟨w3.heap.size, 3, none⟩ (.slice g3 k3 d3) := ⟨_, rfl⟩
      have HYW4 : Hid (Y4 = Z3.setCell ⟨w3.heap.size, 3, none⟩ (.slice g3 k3 d3)) := hY
      have D4 : Hid (PVx w Y4 p bs e4 s4 V0.heap.size 27 #[.int .i64 0, .int .i64 0, .int .i64 0, .slice none 0 0, .slice none 0 0, .string ⟨#[]⟩, .int .i64 0] #[.int .i64 x0, .int .i64 x1, .int .i64 x2, .slice b5 n5 c5, .slice none 0 0, .string (strB x4), .int .i64 x3] V5.heap.size wr w3.heap.size #[.int .i64 y0, .int .i64 y1, .int .i64 y2, .slice g3 k3 d3, .slice none 0 0]) := by rw [hY]; exact F3.out.store 3 _ HWL.out
      have V3 : Hid (valsR (fun q => Y3.heap.size ≤ q) Y4 (.slice g3 k3 d3) y3) := rowIn.kept hv1 (valE_keeps _) (by rw [hY]; simp) fun q hq _ => by rw [hY]; exact heap_setCell_other _ _ _ _ (by have := heap_lt D3.out.VX; simp; omega)
      obtain ⟨p0, p1, p2, p3, p4⟩ := cells5p F3.out.VX
      have fz := cfrozen F3.out.VX 3
      clear hr1 hg1 hY hv1
      have c := pkAll p bs e4 s4 Y4 D4.out.B.rd
      go_wp2_with fail
      rw [← HYW4.out]
      refine c.mono ?_
      clear c
      rintro e Z4 ⟨g4, k4, d4, rfl, -, hv1, hr1, hg1⟩
      rw [HY4.out] at hv1 hr1
      simp only at hv1 hr1
      have F4 : Hid (PVx w Z4 p bs e5 s5 V0.heap.size 27 #[.int .i64 0, .int .i64 0, .int .i64 0, .slice none 0 0, .slice none 0 0, .string ⟨#[]⟩, .int .i64 0] #[.int .i64 x0, .int .i64 x1, .int .i64 x2, .slice b5 n5 c5, .slice none 0 0, .string (strB x4), .int .i64 x3] V5.heap.size wr w3.heap.size #[.int .i64 y0, .int .i64 y1, .int .i64 y2, .slice g3 k3 d3, .slice none 0 0]) := D4.out.call hr1 hg1 HWL.out
      obtain ⟨Y5, hY⟩ : ∃ W, W = Z4.setCell ⟨w3.heap.size, 4, none⟩ (.slice g4 k4 d4) := ⟨_, rfl⟩
      have HYW5 : Hid (Y5 = Z4.setCell ⟨w3.heap.size, 4, none⟩ (.slice g4 k4 d4)) := hY
      have D5 : Hid (PVx w Y5 p bs e5 s5 V0.heap.size 27 #[.int .i64 0, .int .i64 0, .int .i64 0, .slice none 0 0, .slice none 0 0, .string ⟨#[]⟩, .int .i64 0] #[.int .i64 x0, .int .i64 x1, .int .i64 x2, .slice b5 n5 c5, .slice none 0 0, .string (strB x4), .int .i64 x3] V5.heap.size wr w3.heap.size #[.int .i64 y0, .int .i64 y1, .int .i64 y2, .slice g3 k3 d3, .slice g4 k4 d4]) := by rw [hY]; exact F4.out.store 4 _ HWL.out
      have HCO : Hid (coCal (fun b => wr.heap.size ≤ b) Y5 ⟨y0, y1, y2, y3, y4⟩ [.int .i64 y0, .int .i64 y1, .int .i64 y2, .slice g3 k3 d3, .slice g4 k4 d4]) := by
        have h3 := D4.out.hs
        have h4 := heap_lt D4.out.VX
        have h5 := heap_lt D3.out.VX
        have h6 := HPL.out
        have h7 := HWL.out
        refine ⟨g3, k3, d3, g4, k4, d4, rfl, ?_, ?_⟩
        · have i1 := rowIn.kept V3.out (valE_keeps _) hg1.size fun q hq hlt => hg1.block q hlt (by simp; omega)
          have i2 := rowIn.kept (w' := Y5) i1 (valE_keeps _) (by rw [hY]; simp) fun q hq _ => by rw [hY]; exact heap_setCell_other _ _ _ _ (by simp; omega)
          exact rowIn.wide i2 (fun q _ hq => by omega) fun _ _ _ h => h
        · have i2 := rowIn.kept (w' := Y5) hv1 (valE_keeps _) (by rw [hY]; simp) fun q hq _ => by rw [hY]; exact heap_setCell_other _ _ _ _ (by simp; omega)
          exact rowIn.wide i2 (fun q _ hq => by omega) fun _ _ _ h => h
      obtain ⟨p0, p1, p2, p3, p4⟩ := cells5p F4.out.VX
      have fz := cfrozen F4.out.VX 4
      clear hr1 hg1 hY hv1
      obtain ⟨q0, q1, q2, q3, q4⟩ := cells5p D5.out.VX
      have q6 : Y5.cell? ⟨V0.heap.size, 3, none⟩ = some (.slice b5 n5 c5) := (cells7 D5.out.B.X).2.2.2.1
      have hul : V0.heap.size < Y5.heap.size := heap_lt D5.out.B.X
      have hvl : w3.heap.size < Y5.heap.size := heap_lt D5.out.VX
      have HX4 : Hid (RowP coCal 5 V5.heap.size 49 (.slice b5 n5 c5) Y5 l css) := HX.out.keep lawCal (Nat.le_trans D5.out.hs (Nat.le_of_lt hvl)) fun q hq hlt => D5.out.K q hq hlt
      have HSN : Hid (wr.heap.size ≤ Y5.heap.size) := Nat.le_trans D5.out.hs (Nat.le_of_lt hvl)
      go_upto_region 16 with fail
      rw [← HYW5.out]
      clear fz p0 p1 p2 p3 p4
      go_wp2_with (first
        | (at_builtin; refine wpList_append_own_at _ rfl _ _ 24 rfl V5.heap.size 49 iI (.agg #[.int .i64 0, .int .i64 0, .int .i64 0, .slice none 0 0, .slice none 0 0]) 5 72 Tryz.underlying24 hinfI hzI0 hzI1 hzI2 rfl (by decide) _ _ _ rfl (HX4.out.row.alloc _) ⟨Y5.heap.size, 0, none⟩ 1 1 [.int .i64 y0, .int .i64 y1, .int .i64 y2, .slice g3 k3 d3, .slice g4 k4 d4] rfl rfl (rcells_new _ _ _) (by simp [Value.oneCell']) (by have := HFW.out; unfold maxLen; omega) (by have := HFW.out; omega) (by have := HX4.out.low; simp; omega) ?_; intro v' w9 hown9 hgrow9 hnil9 hloc9; have hlk := HX4.out.lowkept (w1 := Y5) rfl (Nat.le_refl _) hgrow9; have HX9 : Hid (RowP coCal 5 V5.heap.size 49 v' w9 (l ++ [⟨y0, y1, y2, y3, y4⟩]) (css ++ [[.int .i64 y0, .int .i64 y1, .int .i64 y2, .slice g3 k3 d3, .slice g4 k4 d4]])) := HX.out.snoc lawCal (w1 := Y5) HSN.out (fun q hq hlt => D5.out.K q hq hlt) HCO.out rfl hown9 hgrow9 hloc9; have HB9 : Hid (PBx w w9 p bs e5 s5 V0.heap.size 27 #[.int .i64 0, .int .i64 0, .int .i64 0, .slice none 0 0, .slice none 0 0, .string ⟨#[]⟩, .int .i64 0] #[.int .i64 x0, .int .i64 x1, .int .i64 x2, .slice b5 n5 c5, .slice none 0 0, .string (strB x4), .int .i64 x3]) := D5.out.B.low HUN.out hlk hgrow9.os hgrow9.tape hgrow9.output (by have := hgrow9.size; simp at this; omega); obtain ⟨b9, n9, c9, rfl⟩ : ∃ b n c, v' = .slice b n c := (by rcases HX9.out.row.2 with ⟨e, -⟩ | ⟨g, cp, cur, e, -⟩; exact ⟨_, _, _, e⟩; exact ⟨_, _, _, e⟩); have q7 : w9.cell? ⟨V0.heap.size, 3, none⟩ = some (.slice b5 n5 c5) := (cells7 HB9.out.X).2.2.2.1; have fz7 := cfrozen HB9.out.X 3; clear hown9 hgrow9 hnil9 hloc9 hlk q0 q1 q2 q3 q4 q6 hul hvl)
        | go_in)
      have HB10 : Hid (PBx w (w9.setCell ⟨V0.heap.size, 3, none⟩ (.slice b9 n9 c9)) p bs e5 s5 V0.heap.size 27 #[.int .i64 0, .int .i64 0, .int .i64 0, .slice none 0 0, .slice none 0 0, .string ⟨#[]⟩, .int .i64 0] #[.int .i64 x0, .int .i64 x1, .int .i64 x2, .slice b9 n9 c9, .slice none 0 0, .string (strB x4), .int .i64 x3]) := HB9.out.store 3 _
      have HX10 : Hid (RowP coCal 5 V5.heap.size 49 (.slice b9 n9 c9) (w9.setCell ⟨V0.heap.size, 3, none⟩ (.slice b9 n9 c9)) (l ++ [⟨y0, y1, y2, y3, y4⟩]) (css ++ [[.int .i64 y0, .int .i64 y1, .int .i64 y2, .slice g3 k3 d3, .slice g4 k4 d4]])) := HX9.out.keep lawCal (by simp) fun q hq _ => heap_setCell_other _ _ _ _ (by have := HUN.out; simp; omega)
      exact ⟨⟨i + 1, _, _, e5, s5, b9, n9, c9, by go_num, HNXT.out, HB10.out, HX10.out⟩, by simp [intOf]; omega⟩
    · have hend : loopR (rCal bs) nI aI rI' = (l, a', r') := by
        by_cases hi : i < nI
        · exact hL.bad fun e => hgo ⟨hi, e⟩
        · obtain rfl : i = nI := by omega
          exact hL.last
      have h9 := HX5.out
      rw [hend] at h9
      obtain ⟨rfl, h10⟩ := Prod.mk.inj h9
      obtain ⟨rfl, rfl⟩ := Prod.mk.inj h10
      have HIN : Hid (calsR (fun b => V5.heap.size ≤ b) wr (.slice b5 n5 c5) l) := hX.rowIn lawCal (E := calE _) fun x cs b o hco hcs => by
        obtain ⟨g1, g2, g3, g4, g5, g6, e, h1, h2⟩ := hco
        subst e
        exact ⟨hcs 0 (by simp), hcs 1 (by simp), hcs 2 (by simp), ⟨_, hcs 3 (by simp), h1⟩, _, hcs 4 (by simp), h2⟩
      have HLOW : Hid (V5.heap.size ≤ wr.heap.size) := hX.low
      have cc := pkCount p bs a' r' wr hB.rd
      rw [HCV.out] at cc
      simp only at cc
      clear hL hX hend h9 h10 HX5 hfew
      by_cases hi : i < nI
      · have hi2 : (i : Int) < nI := by omega
        have cw := pkWell p bs a' r' wr hB.rd
        have hr : r' ≠ 0 := fun e => hgo ⟨hi, e⟩
        rw [decide_eq_false hr] at cw
        clear hgo hr hB
        go_wp2_with fail
        refine cw.mono ?_
        clear cw
        rintro e w2 ⟨rfl, rfl⟩
        go_wp2_with fail
        refine cc.mono ?_
        clear cc
        rintro e V6 ⟨rfl, hr1, hg1⟩
        have C6 : Hid (PBx w V6 p bs aV rV' V0.heap.size 27 #[.int .i64 0, .int .i64 0, .int .i64 0, .slice none 0 0, .slice none 0 0, .string ⟨#[]⟩, .int .i64 0] #[.int .i64 x0, .int .i64 x1, .int .i64 x2, .slice b5 n5 c5, .slice none 0 0, .string (strB x4), .int .i64 x3]) := HB.out.call hr1 hg1
        have HSH6 : Hid (calsR (fun b => V5.heap.size ≤ b) V6 (.slice b5 n5 c5) l) := rowIn.kept HIN.out (calE_keeps _) hg1.size fun q hq hlt => hg1.block q hlt (by have := HRV.out; have := HUN.out; simp; omega)
        have HU6 : Hid (V0.heap.size < V6.heap.size ∧ V5.heap.size ≤ V6.heap.size) := ⟨heap_lt C6.out.X, Nat.le_trans HLOW.out hg1.size⟩
        clear hr1 hg1 HB HX HIN HLOW
        go_wp2
        go_loopw [9] (fun vi wr => ∃ (i : Nat) (m : List Ob) (css : List (List Value)) (a' r' : Nat) (b n c : _), vi = .int .i64 (i : Int) ∧ LoopP (rObj bs) nV aV rV' i m a' r' ∧ PBx w wr p bs a' r' V0.heap.size 27 #[.int .i64 0, .int .i64 0, .int .i64 0, .slice none 0 0, .slice none 0 0, .string ⟨#[]⟩, .int .i64 0] #[.int .i64 x0, .int .i64 x1, .int .i64 x2, .slice b5 n5 c5, .slice b n c, .string (strB x4), .int .i64 x3] ∧ RowP coObF 2 V6.heap.size 51 (.slice b n c) wr m css ∧ Hid (∀ q, wP.heap.size ≤ q → q < V6.heap.size → q ≠ V0.heap.size → wr.heap[q]? = V6.heap[q]?)) (fun vi _ => nV - (intOf vi).toNat)
        case atStart => exact ⟨0, [], [], aV, rV', none, 0, 0, rfl, LoopP.start _ _ _ _, C6.out, RowP.start (Nat.le_refl _), fun q _ _ _ => rfl⟩
        case round =>
          obtain ⟨i2, m, css2, f', t', b6, n6, c6, rfl, hL, hB, hX, HMID⟩ := hrel
          have HB : Hid (PBx w wr p bs f' t' V0.heap.size 27 #[.int .i64 0, .int .i64 0, .int .i64 0, .slice none 0 0, .slice none 0 0, .string ⟨#[]⟩, .int .i64 0] #[.int .i64 x0, .int .i64 x1, .int .i64 x2, .slice b5 n5 c5, .slice b6 n6 c6, .string (strB x4), .int .i64 x3]) := hB
          have HX : Hid (RowP coObF 2 V6.heap.size 51 (.slice b6 n6 c6) wr m css2) := hX
          have hle := hL.le
          have hfew := hL.few
          by_cases hgo : i2 < nV ∧ t' = 0
          · obtain ⟨hi3, rfl⟩ := hgo
            have hi4 : (i2 : Int) < nV := by omega
            have cw := pkWell p bs f' 0 wr hB.rd
            rw [decide_eq_true rfl] at cw
            have c1 := pkText 255 p bs f' 0 wr hB.rd
            have HNX := hL.next hi3
            obtain ⟨y0, e1, s1, hy0⟩ : ∃ x ya yr, rTx 255 bs f' 0 = (x, ya, yr) := ⟨_, _, _, rfl⟩
            obtain ⟨y1, e2, s2, hy1⟩ : ∃ x ya yr, rAll bs (rVl bs) e1 s1 = (x, ya, yr) := ⟨_, _, _, rfl⟩
            have HY1 : Hid (rAll bs (rVl bs) e1 s1 = (y1, e2, s2)) := hy1
            have hri : rObj bs f' 0 = (((y0, y1) : Ob), e2, s2) := by simp only [rObj, hy0, hy1]
            rw [hri] at HNX
            rw [hy0] at c1
            simp only at c1 HNX
            have HNXT : Hid (LoopP (rObj bs) nV aV rV' (i2 + 1) (m ++ [(y0, y1)]) e2 s2) := HNX
            have HFW : Hid (m.length ≤ 1048576) := by have := HNI.out; show _ ≤ _; omega
            have HLOW2 : Hid (V6.heap.size ≤ wr.heap.size) := hX.low
            clear hL hB hX hle hfew HNX hy0 hy1 hri
            go_wp2_with fail
            refine cw.mono ?_
            clear cw
            rintro e w2 ⟨rfl, rfl⟩
            go_wp2_with fail
            refine c1.mono ?_
            clear c1
            rintro e w3 ⟨rfl, hT3, hG3⟩
            have HB3 : Hid (PBx w w3 p bs e1 s1 V0.heap.size 27 #[.int .i64 0, .int .i64 0, .int .i64 0, .slice none 0 0, .slice none 0 0, .string ⟨#[]⟩, .int .i64 0] #[.int .i64 x0, .int .i64 x1, .int .i64 x2, .slice b5 n5 c5, .slice b6 n6 c6, .string (strB x4), .int .i64 x3]) := HB.out.call hT3 hG3
            have HX3 : Hid (RowP coObF 2 V6.heap.size 51 (.slice b6 n6 c6) w3 m css2) := HX.out.keep lawObF hG3.size fun q hq hlt => hG3.block q hlt (by have := HRV.out; have := HU6.out; simp; omega)
            have HM3 : Hid (∀ q, wP.heap.size ≤ q → q < V6.heap.size → q ≠ V0.heap.size → w3.heap[q]? = V6.heap[q]?) := fun q h1 h2 h3 => (hG3.block q (by have := HLOW2.out; omega) (by have := HPS.out; simp; omega)).trans (HMID.out q h1 h2 h3)
            have HW3 : Hid (wr.heap.size ≤ w3.heap.size) := hG3.size
            clear hT3 hG3
            haveI hne : Nonempty (ClsP (fun _ => True)) := ⟨⟨w3, trivial⟩⟩
            have HTd : Hid (PkAt w3.drew p bs e1 s1) := HB3.out.rd.kept rfl
            have q5 : w3.drew.cell? ⟨V0.heap.size, 4, none⟩ = some (.slice b6 n6 c6) := (cells7 HB3.out.X).2.2.2.2.1
            have HC2 := pkAll p bs e1 s1 w3.drew HTd.out
            go_upto_region 22 with fail
            refine mix_begin (n := 10) (S := fun w' => ∃ c' : ClsP (fun _ => True), w' = c'.1) (by kernel_rfl) rfl rfl ?_
            refine mix_seg (fuel := 7) (fuel' := 10) (idx := [0, 2, 3]) (by decide +kernel) rfl rfl rfl (fun _ _ _ _ _ h => h) ⟨⟨w3.drew, trivial⟩, rfl⟩ ?_
            show wpQuiet _ _ _ _ [_, _, _] _
            iterate 3 (go_big_quiet_step (fail))
            refine wpQuiet_nil ?_
            refine cmix_two (fuel := 6) (fuel' := 7) (i := 1) (k := 4) rfl rfl (by decide +kernel) rfl rfl rfl (by rfl) (by rfl) ?_ ?_
            · intro K hK
              go_simp
              refine hK.out _ _ ⟨⟨w3.drew, trivial⟩, rfl⟩ ?_
              clear hK K
              refine mix_loud (fuel := 5) (fuel' := 6) (i := 4) rfl (by decide +kernel) rfl rfl (by rfl) ?_
              intro K hK
              go_simp
              refine HC2.mono ?_
              rintro e z1 ⟨bf, nf, cf, rfl, hfm4, hin4, hT4, hG4⟩
              rw [HY1.out] at hin4 hT4
              simp only at hin4 hT4
              have hG4' : w3.grownBy z1 (some p) := ⟨hG4.os, hG4.tape, hG4.output, hG4.size, hG4.block⟩
              have HBz : Hid (PBx w z1 p bs e2 s2 V0.heap.size 27 #[.int .i64 0, .int .i64 0, .int .i64 0, .slice none 0 0, .slice none 0 0, .string ⟨#[]⟩, .int .i64 0] #[.int .i64 x0, .int .i64 x1, .int .i64 x2, .slice b5 n5 c5, .slice b6 n6 c6, .string (strB x4), .int .i64 x3]) := HB3.out.call hT4 hG4'
              have HXz : Hid (RowP coObF 2 V6.heap.size 51 (.slice b6 n6 c6) z1 m css2) := HX3.out.keep lawObF hG4'.size fun q hq hlt => hG4'.block q hlt (by have := HRV.out; have := HU6.out; simp; omega)
              have HMz : Hid (∀ q, wP.heap.size ≤ q → q < V6.heap.size → q ≠ V0.heap.size → z1.heap[q]? = V6.heap[q]?) := fun q h1 h2 h3 => (hG4'.block q (by have := HLOW2.out; have := HW3.out; omega) (by have := HPS.out; simp; omega)).trans (HM3.out q h1 h2 h3)
              have HCO : Hid (coObF (fun b => w3.heap.size ≤ b) z1 (y0, y1) [.string (strB y0), .slice bf nf cf]) := ⟨bf, nf, cf, rfl, hfm4, hin4⟩
              have HG4 : Hid (w3.grownBy z1 (some p)) := hG4'
              clear hT4 hG4 hG4' hin4 hfm4
              (try go_simp)
              refine hK.out _ _ ⟨⟨z1, trivial⟩, rfl⟩ ?_
              clear hK K
              refine mix_seg (fuel := 4) (fuel' := 5) (idx := [5]) (by decide +kernel) rfl rfl rfl (fun _ _ _ _ _ h => h) ⟨⟨z1, trivial⟩, rfl⟩ ?_
              show wpQuiet _ _ _ _ [_] _
              iterate 1 (go_big_quiet_step (fail))
              refine wpQuiet_nil ?_
              refine mix_loud (fuel := 3) (fuel' := 4) (i := 6) rfl (by decide +kernel) rfl rfl (by rfl) ?_
              intro K hK
              go_simp
              refine hK.out _ _ ⟨⟨_, trivial⟩, rfl⟩ ?_
              clear hK K
              refine mix_law (fuel := 2) (fuel' := 3) (i := 7) rfl (by decide +kernel) rfl rfl (by rfl) ?_
              intro K hK
              refine pstep_append_at (.tmp 77) (.tmp 82) 25 rfl (by rfl) V6.heap.size 51 iV (.agg #[.string ⟨#[]⟩, .slice none 0 0]) 2 40 Tryz.underlying25 hinfV hzV0 hzV1 hzV2 rfl (by decide) _ _ _ rfl (HXz.out.row.alloc _) ⟨z1.heap.size, 0, none⟩ 1 1 [.string (strB y0), .slice bf nf cf] rfl rfl (rcells_new _ _ _) (by simp [Value.oneCell']) (by have := HFW.out; unfold maxLen; omega) (by have := HFW.out; omega) (by have := HXz.out.low; simp; omega) ?_
              intro v' z3 hown9 hgrow9 hloc9
              have hlk := HXz.out.lowkept (w1 := z1) rfl (Nat.le_refl _) hgrow9
              have HX9 : Hid (RowP coObF 2 V6.heap.size 51 v' z3 (m ++ [(y0, y1)]) (css2 ++ [[.string (strB y0), .slice bf nf cf]])) := HX3.out.snoc lawObF (w1 := z1) HG4.out.size (fun q hq hlt => HG4.out.block q hlt (by have := HRV.out; have := HU6.out; simp; omega)) HCO.out rfl hown9 hgrow9 hloc9
              have HB9 : Hid (PBx w z3 p bs e2 s2 V0.heap.size 27 #[.int .i64 0, .int .i64 0, .int .i64 0, .slice none 0 0, .slice none 0 0, .string ⟨#[]⟩, .int .i64 0] #[.int .i64 x0, .int .i64 x1, .int .i64 x2, .slice b5 n5 c5, .slice b6 n6 c6, .string (strB x4), .int .i64 x3]) := HBz.out.low HU6.out.1 hlk hgrow9.os hgrow9.tape hgrow9.output (by have := hgrow9.size; simp at this; omega)
              have HM9 : Hid (∀ q, wP.heap.size ≤ q → q < V6.heap.size → q ≠ V0.heap.size → z3.heap[q]? = V6.heap[q]?) := fun q h1 h2 h3 => (hlk q h2).trans (HMz.out q h1 h2 h3)
              obtain ⟨b9, n9, c9, rfl⟩ : ∃ b n c, v' = .slice b n c := by
                rcases HX9.out.row.2 with ⟨e, -⟩ | ⟨g, cp, cur, e, -⟩
                · exact ⟨_, _, _, e⟩
                · exact ⟨_, _, _, e⟩
              clear hown9 hgrow9 hloc9 hlk
              refine hK.out _ _ ⟨⟨z3, trivial⟩, rfl⟩ ?_
              clear hK K
              simp only [Act.put, List.setIfInBounds_toArray, List.set_cons_zero, List.set_cons_succ]
              refine mix_seg (fuel := 1) (fuel' := 2) (idx := [8]) (by decide +kernel) rfl rfl rfl (fun _ _ _ _ _ h => h) ⟨⟨z3, trivial⟩, rfl⟩ ?_
              show wpQuiet _ _ _ _ [_] _
              iterate 1 (go_big_quiet_step (fail))
              refine wpQuiet_nil ?_
              have q7 : z3.cell? ⟨V0.heap.size, 4, none⟩ = some (.slice b6 n6 c6) := (cells7 HB9.out.X).2.2.2.2.1
              have fz7 := cfrozen HB9.out.X 4
              refine mix_loud (fuel := 0) (fuel' := 1) (i := 9) rfl (by decide +kernel) rfl rfl (by rfl) ?_
              intro K hK
              go_simp
              refine hK.out _ _ ⟨⟨_, trivial⟩, rfl⟩ ?_
              clear hK K q7 fz7
              refine mix_done (by kernel_rfl) ?_
              have HB10 : Hid (PBx w (z3.setCell ⟨V0.heap.size, 4, none⟩ (.slice b9 n9 c9)) p bs e2 s2 V0.heap.size 27 #[.int .i64 0, .int .i64 0, .int .i64 0, .slice none 0 0, .slice none 0 0, .string ⟨#[]⟩, .int .i64 0] #[.int .i64 x0, .int .i64 x1, .int .i64 x2, .slice b5 n5 c5, .slice b9 n9 c9, .string (strB x4), .int .i64 x3]) := HB9.out.store 4 _
              have HX10 : Hid (RowP coObF 2 V6.heap.size 51 (.slice b9 n9 c9) (z3.setCell ⟨V0.heap.size, 4, none⟩ (.slice b9 n9 c9)) (m ++ [(y0, y1)]) (css2 ++ [[.string (strB y0), .slice bf nf cf]])) := HX9.out.keep lawObF (by simp) fun q hq _ => heap_setCell_other _ _ _ _ (by have := HU6.out; simp; omega)
              have HM10 : Hid (∀ q, wP.heap.size ≤ q → q < V6.heap.size → q ≠ V0.heap.size → (z3.setCell ⟨V0.heap.size, 4, none⟩ (.slice b9 n9 c9)).heap[q]? = V6.heap[q]?) := fun q h1 h2 h3 => (heap_setCell_other _ _ _ _ (by simp; omega)).trans (HM9.out q h1 h2 h3)
              go_wp2
              exact ⟨⟨i2 + 1, _, _, e2, s2, b9, n9, c9, by go_num, HNXT.out, HB10.out, HX10.out, HM10⟩, by simp [intOf]; omega⟩
            · intro K hK
              go_simp
              refine HC2.mono ?_
              rintro e z1 ⟨bf, nf, cf, rfl, hfm4, hin4, hT4, hG4⟩
              rw [HY1.out] at hin4 hT4
              simp only at hin4 hT4
              have hG4' : w3.grownBy z1 (some p) := ⟨hG4.os, hG4.tape, hG4.output, hG4.size, hG4.block⟩
              have HBz : Hid (PBx w z1 p bs e2 s2 V0.heap.size 27 #[.int .i64 0, .int .i64 0, .int .i64 0, .slice none 0 0, .slice none 0 0, .string ⟨#[]⟩, .int .i64 0] #[.int .i64 x0, .int .i64 x1, .int .i64 x2, .slice b5 n5 c5, .slice b6 n6 c6, .string (strB x4), .int .i64 x3]) := HB3.out.call hT4 hG4'
              have HXz : Hid (RowP coObF 2 V6.heap.size 51 (.slice b6 n6 c6) z1 m css2) := HX3.out.keep lawObF hG4'.size fun q hq hlt => hG4'.block q hlt (by have := HRV.out; have := HU6.out; simp; omega)
              have HMz : Hid (∀ q, wP.heap.size ≤ q → q < V6.heap.size → q ≠ V0.heap.size → z1.heap[q]? = V6.heap[q]?) := fun q h1 h2 h3 => (hG4'.block q (by have := HLOW2.out; have := HW3.out; omega) (by have := HPS.out; simp; omega)).trans (HM3.out q h1 h2 h3)
              have HCO : Hid (coObF (fun b => w3.heap.size ≤ b) z1 (y0, y1) [.string (strB y0), .slice bf nf cf]) := ⟨bf, nf, cf, rfl, hfm4, hin4⟩
              have HG4 : Hid (w3.grownBy z1 (some p)) := hG4'
              clear hT4 hG4 hG4' hin4 hfm4
              (try go_simp)
              refine hK.out _ _ ⟨⟨z1, trivial⟩, rfl⟩ ?_
              clear hK K
              have q6 : z1.cell? ⟨V0.heap.size, 4, none⟩ = some (.slice b6 n6 c6) := (cells7 HBz.out.X).2.2.2.2.1
              have hul6 : V0.heap.size < z1.heap.size := heap_lt HBz.out.X
              refine mix_seg (fuel := 5) (fuel' := 6) (idx := [5]) (by decide +kernel) rfl rfl rfl (fun _ _ _ _ _ h => h) ⟨⟨z1, trivial⟩, rfl⟩ ?_
              show wpQuiet _ _ _ _ [_] _
              iterate 1 (go_big_quiet_step (fail))
              refine wpQuiet_nil ?_
              refine cmix_two (fuel := 4) (fuel' := 5) (i := 1) (k := 6) rfl rfl (by decide +kernel) rfl rfl rfl (by rfl) (by rfl) ?_ ?_
              · intro K hK
                go_simp
                refine hK.out _ _ ⟨⟨z1, trivial⟩, rfl⟩ ?_
                clear hK K q6 hul6
                refine mix_loud (fuel := 3) (fuel' := 4) (i := 6) rfl (by decide +kernel) rfl rfl (by rfl) ?_
                intro K hK
                go_simp
                refine hK.out _ _ ⟨⟨_, trivial⟩, rfl⟩ ?_
                clear hK K
                refine mix_law (fuel := 2) (fuel' := 3) (i := 7) rfl (by decide +kernel) rfl rfl (by rfl) ?_
                intro K hK
                refine pstep_append_at (.tmp 77) (.tmp 82) 25 rfl (by rfl) V6.heap.size 51 iV (.agg #[.string ⟨#[]⟩, .slice none 0 0]) 2 40 Tryz.underlying25 hinfV hzV0 hzV1 hzV2 rfl (by decide) _ _ _ rfl (HXz.out.row.alloc _) ⟨z1.heap.size, 0, none⟩ 1 1 [.string (strB y0), .slice bf nf cf] rfl rfl (rcells_new _ _ _) (by simp [Value.oneCell']) (by have := HFW.out; unfold maxLen; omega) (by have := HFW.out; omega) (by have := HXz.out.low; simp; omega) ?_
                intro v' z3 hown9 hgrow9 hloc9
                have hlk := HXz.out.lowkept (w1 := z1) rfl (Nat.le_refl _) hgrow9
                have HX9 : Hid (RowP coObF 2 V6.heap.size 51 v' z3 (m ++ [(y0, y1)]) (css2 ++ [[.string (strB y0), .slice bf nf cf]])) := HX3.out.snoc lawObF (w1 := z1) HG4.out.size (fun q hq hlt => HG4.out.block q hlt (by have := HRV.out; have := HU6.out; simp; omega)) HCO.out rfl hown9 hgrow9 hloc9
                have HB9 : Hid (PBx w z3 p bs e2 s2 V0.heap.size 27 #[.int .i64 0, .int .i64 0, .int .i64 0, .slice none 0 0, .slice none 0 0, .string ⟨#[]⟩, .int .i64 0] #[.int .i64 x0, .int .i64 x1, .int .i64 x2, .slice b5 n5 c5, .slice b6 n6 c6, .string (strB x4), .int .i64 x3]) := HBz.out.low HU6.out.1 hlk hgrow9.os hgrow9.tape hgrow9.output (by have := hgrow9.size; simp at this; omega)
                have HM9 : Hid (∀ q, wP.heap.size ≤ q → q < V6.heap.size → q ≠ V0.heap.size → z3.heap[q]? = V6.heap[q]?) := fun q h1 h2 h3 => (hlk q h2).trans (HMz.out q h1 h2 h3)
                obtain ⟨b9, n9, c9, rfl⟩ : ∃ b n c, v' = .slice b n c := by
                  rcases HX9.out.row.2 with ⟨e, -⟩ | ⟨g, cp, cur, e, -⟩
                  · exact ⟨_, _, _, e⟩
                  · exact ⟨_, _, _, e⟩
                clear hown9 hgrow9 hloc9 hlk
                refine hK.out _ _ ⟨⟨z3, trivial⟩, rfl⟩ ?_
                clear hK K
                simp only [Act.put, List.setIfInBounds_toArray, List.set_cons_zero, List.set_cons_succ]
                refine mix_seg (fuel := 1) (fuel' := 2) (idx := [8]) (by decide +kernel) rfl rfl rfl (fun _ _ _ _ _ h => h) ⟨⟨z3, trivial⟩, rfl⟩ ?_
                show wpQuiet _ _ _ _ [_] _
                iterate 1 (go_big_quiet_step (fail))
                refine wpQuiet_nil ?_
                have q7 : z3.cell? ⟨V0.heap.size, 4, none⟩ = some (.slice b6 n6 c6) := (cells7 HB9.out.X).2.2.2.2.1
                have fz7 := cfrozen HB9.out.X 4
                refine mix_loud (fuel := 0) (fuel' := 1) (i := 9) rfl (by decide +kernel) rfl rfl (by rfl) ?_
                intro K hK
                go_simp
                refine hK.out _ _ ⟨⟨_, trivial⟩, rfl⟩ ?_
                clear hK K q7 fz7
                refine mix_done (by kernel_rfl) ?_
                have HB10 : Hid (PBx w (z3.setCell ⟨V0.heap.size, 4, none⟩ (.slice b9 n9 c9)) p bs e2 s2 V0.heap.size 27 #[.int .i64 0, .int .i64 0, .int .i64 0, .slice none 0 0, .slice none 0 0, .string ⟨#[]⟩, .int .i64 0] #[.int .i64 x0, .int .i64 x1, .int .i64 x2, .slice b5 n5 c5, .slice b9 n9 c9, .string (strB x4), .int .i64 x3]) := HB9.out.store 4 _
                have HX10 : Hid (RowP coObF 2 V6.heap.size 51 (.slice b9 n9 c9) (z3.setCell ⟨V0.heap.size, 4, none⟩ (.slice b9 n9 c9)) (m ++ [(y0, y1)]) (css2 ++ [[.string (strB y0), .slice bf nf cf]])) := HX9.out.keep lawObF (by simp) fun q hq _ => heap_setCell_other _ _ _ _ (by have := HU6.out; simp; omega)
                have HM10 : Hid (∀ q, wP.heap.size ≤ q → q < V6.heap.size → q ≠ V0.heap.size → (z3.setCell ⟨V0.heap.size, 4, none⟩ (.slice b9 n9 c9)).heap[q]? = V6.heap[q]?) := fun q h1 h2 h3 => (heap_setCell_other _ _ _ _ (by simp; omega)).trans (HM9.out q h1 h2 h3)
                go_wp2
                exact ⟨⟨i2 + 1, _, _, e2, s2, b9, n9, c9, by go_num, HNXT.out, HB10.out, HX10.out, HM10⟩, by simp [intOf]; omega⟩
              · intro K hK
                go_simp
                refine hK.out _ _ ⟨⟨_, trivial⟩, rfl⟩ ?_
                clear hK K
                refine mix_loud (fuel := 3) (fuel' := 4) (i := 1) rfl (by decide +kernel) rfl rfl (by rfl) ?_
                intro K hK
                go_simp
                refine hK.out _ _ ⟨⟨_, trivial⟩, rfl⟩ ?_
                clear hK K
                clear q6 hul6
                refine mix_law (fuel := 2) (fuel' := 3) (i := 7) rfl (by decide +kernel) rfl rfl (by rfl) ?_
                intro K hK
                refine pstep_append_at (.tmp 77) (.tmp 82) 25 rfl (by rfl) V6.heap.size 51 iV (.agg #[.string ⟨#[]⟩, .slice none 0 0]) 2 40 Tryz.underlying25 hinfV hzV0 hzV1 hzV2 rfl (by decide) _ _ _ rfl (HXz.out.row.alloc _) ⟨z1.heap.size, 0, none⟩ 1 1 [.string (strB y0), .slice bf nf cf] rfl rfl (rcells_new _ _ _) (by simp [Value.oneCell']) (by have := HFW.out; unfold maxLen; omega) (by have := HFW.out; omega) (by have := HXz.out.low; simp; omega) ?_
                intro v' z3 hown9 hgrow9 hloc9
                have hlk := HXz.out.lowkept (w1 := z1) rfl (Nat.le_refl _) hgrow9
                have HX9 : Hid (RowP coObF 2 V6.heap.size 51 v' z3 (m ++ [(y0, y1)]) (css2 ++ [[.string (strB y0), .slice bf nf cf]])) := HX3.out.snoc lawObF (w1 := z1) HG4.out.size (fun q hq hlt => HG4.out.block q hlt (by have := HRV.out; have := HU6.out; simp; omega)) HCO.out rfl hown9 hgrow9 hloc9
                have HB9 : Hid (PBx w z3 p bs e2 s2 V0.heap.size 27 #[.int .i64 0, .int .i64 0, .int .i64 0, .slice none 0 0, .slice none 0 0, .string ⟨#[]⟩, .int .i64 0] #[.int .i64 x0, .int .i64 x1, .int .i64 x2, .slice b5 n5 c5, .slice b6 n6 c6, .string (strB x4), .int .i64 x3]) := HBz.out.low HU6.out.1 hlk hgrow9.os hgrow9.tape hgrow9.output (by have := hgrow9.size; simp at this; omega)
                have HM9 : Hid (∀ q, wP.heap.size ≤ q → q < V6.heap.size → q ≠ V0.heap.size → z3.heap[q]? = V6.heap[q]?) := fun q h1 h2 h3 => (hlk q h2).trans (HMz.out q h1 h2 h3)
                obtain ⟨b9, n9, c9, rfl⟩ : ∃ b n c, v' = .slice b n c := by
                  rcases HX9.out.row.2 with ⟨e, -⟩ | ⟨g, cp, cur, e, -⟩
                  · exact ⟨_, _, _, e⟩
                  · exact ⟨_, _, _, e⟩
                clear hown9 hgrow9 hloc9 hlk
                refine hK.out _ _ ⟨⟨z3, trivial⟩, rfl⟩ ?_
                clear hK K
                simp only [Act.put, List.setIfInBounds_toArray, List.set_cons_zero, List.set_cons_succ]
                refine mix_seg (fuel := 1) (fuel' := 2) (idx := [8]) (by decide +kernel) rfl rfl rfl (fun _ _ _ _ _ h => h) ⟨⟨z3, trivial⟩, rfl⟩ ?_
                show wpQuiet _ _ _ _ [_] _
                iterate 1 (go_big_quiet_step (fail))
                refine wpQuiet_nil ?_
                have q7 : z3.cell? ⟨V0.heap.size, 4, none⟩ = some (.slice b6 n6 c6) := (cells7 HB9.out.X).2.2.2.2.1
                have fz7 := cfrozen HB9.out.X 4
                refine mix_loud (fuel := 0) (fuel' := 1) (i := 9) rfl (by decide +kernel) rfl rfl (by rfl) ?_
                intro K hK
                go_simp
                refine hK.out _ _ ⟨⟨_, trivial⟩, rfl⟩ ?_
                clear hK K q7 fz7
                refine mix_done (by kernel_rfl) ?_
                have HB10 : Hid (PBx w (z3.setCell ⟨V0.heap.size, 4, none⟩ (.slice b9 n9 c9)) p bs e2 s2 V0.heap.size 27 #[.int .i64 0, .int .i64 0, .int .i64 0, .slice none 0 0, .slice none 0 0, .string ⟨#[]⟩, .int .i64 0] #[.int .i64 x0, .int .i64 x1, .int .i64 x2, .slice b5 n5 c5, .slice b9 n9 c9, .string (strB x4), .int .i64 x3]) := HB9.out.store 4 _
                have HX10 : Hid (RowP coObF 2 V6.heap.size 51 (.slice b9 n9 c9) (z3.setCell ⟨V0.heap.size, 4, none⟩ (.slice b9 n9 c9)) (m ++ [(y0, y1)]) (css2 ++ [[.string (strB y0), .slice bf nf cf]])) := HX9.out.keep lawObF (by simp) fun q hq _ => heap_setCell_other _ _ _ _ (by have := HU6.out; simp; omega)
                have HM10 : Hid (∀ q, wP.heap.size ≤ q → q < V6.heap.size → q ≠ V0.heap.size → (z3.setCell ⟨V0.heap.size, 4, none⟩ (.slice b9 n9 c9)).heap[q]? = V6.heap[q]?) := fun q h1 h2 h3 => (heap_setCell_other _ _ _ _ (by simp; omega)).trans (HM9.out q h1 h2 h3)
                go_wp2
                exact ⟨⟨i2 + 1, _, _, e2, s2, b9, n9, c9, by go_num, HNXT.out, HB10.out, HX10.out, HM10⟩, by simp [intOf]; omega⟩
          · have hend : loopR (rObj bs) nV aV rV' = (m, f', t') := by
              by_cases hi : i2 < nV
              · exact hL.bad fun e => hgo ⟨hi, e⟩
              · obtain rfl : i2 = nV := by omega
                exact hL.last
            have h9 := HX6.out
            rw [hend] at h9
            obtain ⟨rfl, h10⟩ := Prod.mk.inj h9
            obtain ⟨rfl, rfl⟩ := Prod.mk.inj h10
            have HUNI : Hid (rowIn (fun b => V6.heap.size ≤ b) wr (.slice b6 n6 c6) 2 (objFE fun b => V6.heap.size ≤ b) m) := hX.rowIn lawObF (E := objFE _) fun x cs b o hco hcs => by
              obtain ⟨g1, g2, g3, e, hfm, hs1⟩ := hco
              subst e
              exact ⟨⟨hcs 0 (by simp), _, hcs 1 (by simp), hs1⟩, _, hcs 1 (by simp), hfm⟩
            have HLOW2 : Hid (V6.heap.size ≤ wr.heap.size) := hX.low
            have HSH7 : Hid (calsR (fun b => V5.heap.size ≤ b ∧ b < V6.heap.size) wr (.slice b5 n5 c5) l) := by
              have i1 := rowIn.wide (S' := fun b => V5.heap.size ≤ b ∧ b < V6.heap.size) HSH6.out (fun q hq hS => ⟨hS, hq⟩) (calE_wide (S' := fun b => V5.heap.size ≤ b ∧ b < V6.heap.size) fun q hq hS => ⟨hS, hq⟩)
              exact rowIn.kept i1 (calE_keeps _) hX.low fun q hq hlt => HMID.out q (by have := hq.1; have := HUN.out; have := HRV.out; omega) hlt (by have := hq.1; have := HUN.out; omega)
            have HC : Hid (∀ W, wr.heap.size ≤ W.heap.size → (∀ q, wP.heap.size ≤ q → q < wr.heap.size → q ≠ V0.heap.size → W.heap[q]? = wr.heap[q]?) → SnIn (fun b => w.heap.size ≤ b) W ⟨x0, x1, x2, l, m, x4, x3⟩ (.slice b5 n5 c5) (.slice b6 n6 c6) ∧ objsF W (.slice b6 n6 c6) m) := fun W hs hk => by
              have hp := HP.out
              have hps := HPS.out
              have h1 := HUN.out
              have h2 := HU6.out
              have h3 := HRV.out
              have i2 := rowIn.kept (w' := W) HUNI.out (objFE_keeps _) hs fun q hq hlt => hk q (by omega) hlt (by omega)
              refine ⟨⟨?_, objFE_R i2 fun q _ hq => by omega⟩, objFE_F i2⟩
              exact rowIn.wide (rowIn.kept HSH7.out (calE_keeps _) hs fun q hq hlt => hk q (by have := hq.1; omega) hlt (by have := hq.1; omega)) (fun q _ hq => by have := hq.1; omega) (calE_wide fun q _ hq => by have := hq.1; omega)
            clear hL hX hend h9 h10 hfew HX6 HMID
            by_cases hi : i2 < nV
            · have hi4 : (i2 : Int) < nV := by omega
              have cw := pkWell p bs f' t' wr hB.rd
              have hr : t' ≠ 0 := fun e => hgo ⟨hi, e⟩
              rw [decide_eq_false hr] at cw
              clear hgo hr hB
              go_wp2_with fail
              refine cw.mono ?_
              clear cw
              rintro e w2 ⟨rfl, rfl⟩
              obtain ⟨ev, hev⟩ : ∃ ev, ev = ldS bs := ⟨_, rfl⟩
              have HEV : Hid (ev = ldS bs) := hev
              have ce : Calls Tryz.prog 37 #[.agg #[.string (strB bs), .int .i64 (f' : Nat), .int .i64 (t' : Nat)]] wr fun e w' => e = .returned (.int .i64 (ev : Nat)) ∧ Below wr.heap.size wr w' := by
                have h9 := refREnd_any (strB bs) f' t' wr
                rw [strB_size] at h9
                rw [hev]
                unfold ldS
                rw [HRES.out]
                exact h9
              obtain ⟨t0, t1, t2⟩ := cells3p HB.out.rd.blk
              clear hev
              go_wp2_with fail
              refine ce.mono ?_
              clear ce t0 t1 t2
              rintro e W9 ⟨rfl, hb9⟩
              have C9 : Hid (PBx w W9 p bs f' t' V0.heap.size 27 #[.int .i64 0, .int .i64 0, .int .i64 0, .slice none 0 0, .slice none 0 0, .string ⟨#[]⟩, .int .i64 0] #[.int .i64 x0, .int .i64 x1, .int .i64 x2, .slice b5 n5 c5, .slice b6 n6 c6, .string (strB x4), .int .i64 x3]) := HB.out.below hb9
              have HK9 : Hid (wr.heap.size ≤ W9.heap.size ∧ ∀ q, wP.heap.size ≤ q → q < wr.heap.size → q ≠ V0.heap.size → W9.heap[q]? = wr.heap[q]?) := ⟨hb9.size, fun q h1 h2 h3 => hb9.block q h2⟩
              clear hb9
              by_cases he0 : ev = 0
              · have HE0 : Hid (ldS bs = 0) := HEV.out.symm.trans he0
                have hn0 : ((ev : Int) != 0) = false := by rw [he0]; rfl
                have hn1 : (ev : Int) = 0 := by omega
                have hsm := okSn_small (ldS_form HE0.out).1
                rw [HRES.out] at hsm
                simp only at hsm
                obtain ⟨R, hR⟩ : ∃ R, R = mayS ⟨x0, x1, x2, l, m, x4, x3⟩ := ⟨_, rfl⟩
                have HRR : Hid (R = mayS (rSn bs 0 0).1) := by rw [HRES.out]; exact hR
                have hcw := HC.out W9 HK9.out.1 HK9.out.2
                have cr : Calls Tryz.prog 26 #[.agg #[.int .i64 x0, .int .i64 x1, .int .i64 x2, .slice b5 n5 c5, .slice b6 n6 c6, .string (strB x4), .int .i64 x3]] W9 fun e w' => e = .returned (.bool R) ∧ Below W9.heap.size W9 w' := by
                  rw [hR]; exact pfMay_any _ ⟨x0, x1, x2, l, m, x4, x3⟩ b5 b6 n5 c5 n6 c6 W9 hcw.1 hsm hcw.2
                obtain ⟨q0, q1, q2, q3, q4, q5, q6⟩ := cells7 C9.out.X
                clear hsm hR he0 hcw hn1
                go_wp2_with fail
                refine cr.mono ?_
                clear cr q0 q1 q2 q3 q4 q5 q6
                rintro e W10 ⟨rfl, hb10⟩
                have C10 : Hid (PBx w W10 p bs f' t' V0.heap.size 27 #[.int .i64 0, .int .i64 0, .int .i64 0, .slice none 0 0, .slice none 0 0, .string ⟨#[]⟩, .int .i64 0] #[.int .i64 x0, .int .i64 x1, .int .i64 x2, .slice b5 n5 c5, .slice b6 n6 c6, .string (strB x4), .int .i64 x3]) := C9.out.below hb10
                have HK10 : Hid (wr.heap.size ≤ W10.heap.size ∧ ∀ q, wP.heap.size ≤ q → q < wr.heap.size → q ≠ V0.heap.size → W10.heap[q]? = wr.heap[q]?) := ⟨Nat.le_trans HK9.out.1 hb10.size, fun q h1 h2 h3 => (hb10.block q (Nat.lt_of_lt_of_le h2 HK9.out.1)).trans (HK9.out.2 q h1 h2 h3)⟩
                clear hb10
                obtain ⟨q0, q1, q2, q3, q4, q5, q6⟩ := cells7 C10.out.X
                obtain ⟨o0, o1, o2, o3, o4, o5, o6⟩ := cells7 C10.out.Y
                have gf := cfrozen C10.out.Y
                have hrl : w.heap.size < W10.heap.size := heap_lt C10.out.Y
                have hne9 : V0.heap.size ≠ w.heap.size := by have := C10.out.ult; omega
                cases R with
                | false =>
                  obtain ⟨WE, hWE⟩ : ∃ WE, WE = (((((((W10.setCell ⟨w.heap.size, 0, none⟩ (.int .i64 0)).setCell ⟨w.heap.size, 1, none⟩ (.int .i64 0)).setCell ⟨w.heap.size, 2, none⟩ (.int .i64 0)).setCell ⟨w.heap.size, 3, none⟩ (.slice none 0 0)).setCell ⟨w.heap.size, 4, none⟩ (.slice none 0 0)).setCell ⟨w.heap.size, 5, none⟩ (.string ⟨#[]⟩)).setCell ⟨w.heap.size, 6, none⟩ (.int .i64 0)) := ⟨_, rfl⟩
                  have HE : Hid (PBx w WE p bs f' t' V0.heap.size 27 #[.int .i64 0, .int .i64 0, .int .i64 0, .slice none 0 0, .slice none 0 0, .string ⟨#[]⟩, .int .i64 0] #[.int .i64 x0, .int .i64 x1, .int .i64 x2, .slice b5 n5 c5, .slice b6 n6 c6, .string (strB x4), .int .i64 x3]) := by rw [hWE]; exact ((((((C10.out.storeY 0 _).storeY 1 _).storeY 2 _).storeY 3 _).storeY 4 _).storeY 5 _).storeY 6 _
                  obtain ⟨z0, z1, z2, z3, z4, z5, z6⟩ := cells7 HE.out.Y
                  have HWE : Hid (WE = (((((((W10.setCell ⟨w.heap.size, 0, none⟩ (.int .i64 0)).setCell ⟨w.heap.size, 1, none⟩ (.int .i64 0)).setCell ⟨w.heap.size, 2, none⟩ (.int .i64 0)).setCell ⟨w.heap.size, 3, none⟩ (.slice none 0 0)).setCell ⟨w.heap.size, 4, none⟩ (.slice none 0 0)).setCell ⟨w.heap.size, 5, none⟩ (.string ⟨#[]⟩)).setCell ⟨w.heap.size, 6, none⟩ (.int .i64 0))) := hWE
                  rw [hWE] at z0 z1 z2 z3 z4 z5 z6
                  clear hWE
                  go_wp2
                  refine bodyPost_ret (v := .tuple #[.agg #[.int .i64 0, .int .i64 0, .int .i64 0, .slice none 0 0, .slice none 0 0, .string ⟨#[]⟩, .int .i64 0], .int .i64 2]) (by simp [results, Tryz.results15, go_sem, z0, z1, z2, z3, z4, z5, z6]) rfl ?_
                  rw [← HWE.out]
                  exact ⟨.inr (.inl ⟨HE0.out, HRR.out.symm, rfl⟩), pgrown_to_below HE.out.G (by have := HP.out; omega)⟩
                | true =>
                  obtain ⟨WE, hWE⟩ : ∃ WE, WE = (((((((W10.setCell ⟨w.heap.size, 0, none⟩ (.int .i64 x0)).setCell ⟨w.heap.size, 1, none⟩ (.int .i64 x1)).setCell ⟨w.heap.size, 2, none⟩ (.int .i64 x2)).setCell ⟨w.heap.size, 3, none⟩ (.slice b5 n5 c5)).setCell ⟨w.heap.size, 4, none⟩ (.slice b6 n6 c6)).setCell ⟨w.heap.size, 5, none⟩ (.string (strB x4))).setCell ⟨w.heap.size, 6, none⟩ (.int .i64 x3)) := ⟨_, rfl⟩
                  have HE : Hid (PBx w WE p bs f' t' V0.heap.size 27 #[.int .i64 x0, .int .i64 x1, .int .i64 x2, .slice b5 n5 c5, .slice b6 n6 c6, .string (strB x4), .int .i64 x3] #[.int .i64 x0, .int .i64 x1, .int .i64 x2, .slice b5 n5 c5, .slice b6 n6 c6, .string (strB x4), .int .i64 x3]) := by rw [hWE]; exact ((((((C10.out.storeY 0 _).storeY 1 _).storeY 2 _).storeY 3 _).storeY 4 _).storeY 5 _).storeY 6 _
                  obtain ⟨z0, z1, z2, z3, z4, z5, z6⟩ := cells7 HE.out.Y
                  have HWE : Hid (WE = (((((((W10.setCell ⟨w.heap.size, 0, none⟩ (.int .i64 x0)).setCell ⟨w.heap.size, 1, none⟩ (.int .i64 x1)).setCell ⟨w.heap.size, 2, none⟩ (.int .i64 x2)).setCell ⟨w.heap.size, 3, none⟩ (.slice b5 n5 c5)).setCell ⟨w.heap.size, 4, none⟩ (.slice b6 n6 c6)).setCell ⟨w.heap.size, 5, none⟩ (.string (strB x4))).setCell ⟨w.heap.size, 6, none⟩ (.int .i64 x3))) := hWE
                  have HCE : Hid (SnIn (fun b => w.heap.size ≤ b) WE ⟨x0, x1, x2, l, m, x4, x3⟩ (.slice b5 n5 c5) (.slice b6 n6 c6)) := (HC.out WE (by rw [hWE]; have := HK10.out.1; simp; omega) fun q h1 h2 h3 => by
                    have hne : q ≠ w.heap.size := by have := HP.out; have := HPS.out; omega
                    rw [hWE, heap_setCell_other _ _ _ _ hne, heap_setCell_other _ _ _ _ hne, heap_setCell_other _ _ _ _ hne, heap_setCell_other _ _ _ _ hne, heap_setCell_other _ _ _ _ hne, heap_setCell_other _ _ _ _ hne, heap_setCell_other _ _ _ _ hne]
                    exact HK10.out.2 q h1 h2 h3).1
                  rw [hWE] at z0 z1 z2 z3 z4 z5 z6
                  clear hWE
                  go_wp2
                  refine bodyPost_ret (v := .tuple #[.agg #[.int .i64 x0, .int .i64 x1, .int .i64 x2, .slice b5 n5 c5, .slice b6 n6 c6, .string (strB x4), .int .i64 x3], .int .i64 0]) (by simp [results, Tryz.results15, go_sem, z0, z1, z2, z3, z4, z5, z6]) rfl ?_
                  rw [← HWE.out]
                  refine ⟨.inr (.inr ⟨HE0.out, HRR.out.symm, b5, n5, c5, b6, n6, c6, by rw [HRES.out], ?_⟩), pgrown_to_below HE.out.G (by have := HP.out; omega)⟩
                  rw [HRES.out]
                  exact HCE.out
              · have HNE : Hid (ldS bs ≠ 0) := fun h => he0 (HEV.out.trans h)
                have hn0 : ((ev : Int) != 0) = true := by rw [bne_iff_ne]; omega
                have hn1 : ¬ (ev : Int) = 0 := by omega
                obtain ⟨o0, o1, o2, o3, o4, o5, o6⟩ := cells7 C9.out.Y
                have gf := cfrozen C9.out.Y
                have hrl : w.heap.size < W9.heap.size := heap_lt C9.out.Y
                obtain ⟨WE, hWE⟩ : ∃ WE, WE = (((((((W9.setCell ⟨w.heap.size, 0, none⟩ (.int .i64 0)).setCell ⟨w.heap.size, 1, none⟩ (.int .i64 0)).setCell ⟨w.heap.size, 2, none⟩ (.int .i64 0)).setCell ⟨w.heap.size, 3, none⟩ (.slice none 0 0)).setCell ⟨w.heap.size, 4, none⟩ (.slice none 0 0)).setCell ⟨w.heap.size, 5, none⟩ (.string ⟨#[]⟩)).setCell ⟨w.heap.size, 6, none⟩ (.int .i64 0)) := ⟨_, rfl⟩
                have HE : Hid (PBx w WE p bs f' t' V0.heap.size 27 #[.int .i64 0, .int .i64 0, .int .i64 0, .slice none 0 0, .slice none 0 0, .string ⟨#[]⟩, .int .i64 0] #[.int .i64 x0, .int .i64 x1, .int .i64 x2, .slice b5 n5 c5, .slice b6 n6 c6, .string (strB x4), .int .i64 x3]) := by rw [hWE]; exact ((((((C9.out.storeY 0 _).storeY 1 _).storeY 2 _).storeY 3 _).storeY 4 _).storeY 5 _).storeY 6 _
                obtain ⟨z0, z1, z2, z3, z4, z5, z6⟩ := cells7 HE.out.Y
                have HWE : Hid (WE = (((((((W9.setCell ⟨w.heap.size, 0, none⟩ (.int .i64 0)).setCell ⟨w.heap.size, 1, none⟩ (.int .i64 0)).setCell ⟨w.heap.size, 2, none⟩ (.int .i64 0)).setCell ⟨w.heap.size, 3, none⟩ (.slice none 0 0)).setCell ⟨w.heap.size, 4, none⟩ (.slice none 0 0)).setCell ⟨w.heap.size, 5, none⟩ (.string ⟨#[]⟩)).setCell ⟨w.heap.size, 6, none⟩ (.int .i64 0))) := hWE
                rw [hWE] at z0 z1 z2 z3 z4 z5 z6
                clear hWE he0
                go_wp2
                refine bodyPost_ret (v := .tuple #[.agg #[.int .i64 0, .int .i64 0, .int .i64 0, .slice none 0 0, .slice none 0 0, .string ⟨#[]⟩, .int .i64 0], .int .i64 (ev : Int)]) (by simp [results, Tryz.results15, go_sem, z0, z1, z2, z3, z4, z5, z6]) rfl ?_
                rw [← HWE.out]
                exact ⟨.inl ⟨HNE.out, by rw [HEV.out]⟩, pgrown_to_below HE.out.G (by have := HP.out; omega)⟩
            · obtain rfl : i2 = nV := by omega
              have hi4 : ¬ (i2 : Int) < i2 := by omega
              clear hgo hi hB
              obtain ⟨ev, hev⟩ : ∃ ev, ev = ldS bs := ⟨_, rfl⟩
              have HEV : Hid (ev = ldS bs) := hev
              have ce : Calls Tryz.prog 37 #[.agg #[.string (strB bs), .int .i64 (f' : Nat), .int .i64 (t' : Nat)]] wr fun e w' => e = .returned (.int .i64 (ev : Nat)) ∧ Below wr.heap.size wr w' := by
                have h9 := refREnd_any (strB bs) f' t' wr
                rw [strB_size] at h9
                rw [hev]
                unfold ldS
                rw [HRES.out]
                exact h9
              obtain ⟨t0, t1, t2⟩ := cells3p HB.out.rd.blk
              clear hev
              go_wp2_with fail
              refine ce.mono ?_
              clear ce t0 t1 t2
              rintro e W9 ⟨rfl, hb9⟩
              have C9 : Hid (PBx w W9 p bs f' t' V0.heap.size 27 #[.int .i64 0, .int .i64 0, .int .i64 0, .slice none 0 0, .slice none 0 0, .string ⟨#[]⟩, .int .i64 0] #[.int .i64 x0, .int .i64 x1, .int .i64 x2, .slice b5 n5 c5, .slice b6 n6 c6, .string (strB x4), .int .i64 x3]) := HB.out.below hb9
              have HK9 : Hid (wr.heap.size ≤ W9.heap.size ∧ ∀ q, wP.heap.size ≤ q → q < wr.heap.size → q ≠ V0.heap.size → W9.heap[q]? = wr.heap[q]?) := ⟨hb9.size, fun q h1 h2 h3 => hb9.block q h2⟩
              clear hb9
              by_cases he0 : ev = 0
              · have HE0 : Hid (ldS bs = 0) := HEV.out.symm.trans he0
                have hn0 : ((ev : Int) != 0) = false := by rw [he0]; rfl
                have hn1 : (ev : Int) = 0 := by omega
                have hsm := okSn_small (ldS_form HE0.out).1
                rw [HRES.out] at hsm
                simp only at hsm
                obtain ⟨R, hR⟩ : ∃ R, R = mayS ⟨x0, x1, x2, l, m, x4, x3⟩ := ⟨_, rfl⟩
                have HRR : Hid (R = mayS (rSn bs 0 0).1) := by rw [HRES.out]; exact hR
                have hcw := HC.out W9 HK9.out.1 HK9.out.2
                have cr : Calls Tryz.prog 26 #[.agg #[.int .i64 x0, .int .i64 x1, .int .i64 x2, .slice b5 n5 c5, .slice b6 n6 c6, .string (strB x4), .int .i64 x3]] W9 fun e w' => e = .returned (.bool R) ∧ Below W9.heap.size W9 w' := by
                  rw [hR]; exact pfMay_any _ ⟨x0, x1, x2, l, m, x4, x3⟩ b5 b6 n5 c5 n6 c6 W9 hcw.1 hsm hcw.2
                obtain ⟨q0, q1, q2, q3, q4, q5, q6⟩ := cells7 C9.out.X
                clear hsm hR he0 hcw hn1
                go_wp2_with fail
                refine cr.mono ?_
                clear cr q0 q1 q2 q3 q4 q5 q6
                rintro e W10 ⟨rfl, hb10⟩
                have C10 : Hid (PBx w W10 p bs f' t' V0.heap.size 27 #[.int .i64 0, .int .i64 0, .int .i64 0, .slice none 0 0, .slice none 0 0, .string ⟨#[]⟩, .int .i64 0] #[.int .i64 x0, .int .i64 x1, .int .i64 x2, .slice b5 n5 c5, .slice b6 n6 c6, .string (strB x4), .int .i64 x3]) := C9.out.below hb10
                have HK10 : Hid (wr.heap.size ≤ W10.heap.size ∧ ∀ q, wP.heap.size ≤ q → q < wr.heap.size → q ≠ V0.heap.size → W10.heap[q]? = wr.heap[q]?) := ⟨Nat.le_trans HK9.out.1 hb10.size, fun q h1 h2 h3 => (hb10.block q (Nat.lt_of_lt_of_le h2 HK9.out.1)).trans (HK9.out.2 q h1 h2 h3)⟩
                clear hb10
                obtain ⟨q0, q1, q2, q3, q4, q5, q6⟩ := cells7 C10.out.X
                obtain ⟨o0, o1, o2, o3, o4, o5, o6⟩ := cells7 C10.out.Y
                have gf := cfrozen C10.out.Y
                have hrl : w.heap.size < W10.heap.size := heap_lt C10.out.Y
                have hne9 : V0.heap.size ≠ w.heap.size := by have := C10.out.ult; omega
                cases R with
                | false =>
                  obtain ⟨WE, hWE⟩ : ∃ WE, WE = (((((((W10.setCell ⟨w.heap.size, 0, none⟩ (.int .i64 0)).setCell ⟨w.heap.size, 1, none⟩ (.int .i64 0)).setCell ⟨w.heap.size, 2, none⟩ (.int .i64 0)).setCell ⟨w.heap.size, 3, none⟩ (.slice none 0 0)).setCell ⟨w.heap.size, 4, none⟩ (.slice none 0 0)).setCell ⟨w.heap.size, 5, none⟩ (.string ⟨#[]⟩)).setCell ⟨w.heap.size, 6, none⟩ (.int .i64 0)) := ⟨_, rfl⟩
                  have HE : Hid (PBx w WE p bs f' t' V0.heap.size 27 #[.int .i64 0, .int .i64 0, .int .i64 0, .slice none 0 0, .slice none 0 0, .string ⟨#[]⟩, .int .i64 0] #[.int .i64 x0, .int .i64 x1, .int .i64 x2, .slice b5 n5 c5, .slice b6 n6 c6, .string (strB x4), .int .i64 x3]) := by rw [hWE]; exact ((((((C10.out.storeY 0 _).storeY 1 _).storeY 2 _).storeY 3 _).storeY 4 _).storeY 5 _).storeY 6 _
                  obtain ⟨z0, z1, z2, z3, z4, z5, z6⟩ := cells7 HE.out.Y
                  have HWE : Hid (WE = (((((((W10.setCell ⟨w.heap.size, 0, none⟩ (.int .i64 0)).setCell ⟨w.heap.size, 1, none⟩ (.int .i64 0)).setCell ⟨w.heap.size, 2, none⟩ (.int .i64 0)).setCell ⟨w.heap.size, 3, none⟩ (.slice none 0 0)).setCell ⟨w.heap.size, 4, none⟩ (.slice none 0 0)).setCell ⟨w.heap.size, 5, none⟩ (.string ⟨#[]⟩)).setCell ⟨w.heap.size, 6, none⟩ (.int .i64 0))) := hWE
                  rw [hWE] at z0 z1 z2 z3 z4 z5 z6
                  clear hWE
                  go_wp2
                  refine bodyPost_ret (v := .tuple #[.agg #[.int .i64 0, .int .i64 0, .int .i64 0, .slice none 0 0, .slice none 0 0, .string ⟨#[]⟩, .int .i64 0], .int .i64 2]) (by simp [results, Tryz.results15, go_sem, z0, z1, z2, z3, z4, z5, z6]) rfl ?_
                  rw [← HWE.out]
                  exact ⟨.inr (.inl ⟨HE0.out, HRR.out.symm, rfl⟩), pgrown_to_below HE.out.G (by have := HP.out; omega)⟩
                | true =>
                  obtain ⟨WE, hWE⟩ : ∃ WE, WE = (((((((W10.setCell ⟨w.heap.size, 0, none⟩ (.int .i64 x0)).setCell ⟨w.heap.size, 1, none⟩ (.int .i64 x1)).setCell ⟨w.heap.size, 2, none⟩ (.int .i64 x2)).setCell ⟨w.heap.size, 3, none⟩ (.slice b5 n5 c5)).setCell ⟨w.heap.size, 4, none⟩ (.slice b6 n6 c6)).setCell ⟨w.heap.size, 5, none⟩ (.string (strB x4))).setCell ⟨w.heap.size, 6, none⟩ (.int .i64 x3)) := ⟨_, rfl⟩
                  have HE : Hid (PBx w WE p bs f' t' V0.heap.size 27 #[.int .i64 x0, .int .i64 x1, .int .i64 x2, .slice b5 n5 c5, .slice b6 n6 c6, .string (strB x4), .int .i64 x3] #[.int .i64 x0, .int .i64 x1, .int .i64 x2, .slice b5 n5 c5, .slice b6 n6 c6, .string (strB x4), .int .i64 x3]) := by rw [hWE]; exact ((((((C10.out.storeY 0 _).storeY 1 _).storeY 2 _).storeY 3 _).storeY 4 _).storeY 5 _).storeY 6 _
                  obtain ⟨z0, z1, z2, z3, z4, z5, z6⟩ := cells7 HE.out.Y
                  have HWE : Hid (WE = (((((((W10.setCell ⟨w.heap.size, 0, none⟩ (.int .i64 x0)).setCell ⟨w.heap.size, 1, none⟩ (.int .i64 x1)).setCell ⟨w.heap.size, 2, none⟩ (.int .i64 x2)).setCell ⟨w.heap.size, 3, none⟩ (.slice b5 n5 c5)).setCell ⟨w.heap.size, 4, none⟩ (.slice b6 n6 c6)).setCell ⟨w.heap.size, 5, none⟩ (.string (strB x4))).setCell ⟨w.heap.size, 6, none⟩ (.int .i64 x3))) := hWE
                  have HCE : Hid (SnIn (fun b => w.heap.size ≤ b) WE ⟨x0, x1, x2, l, m, x4, x3⟩ (.slice b5 n5 c5) (.slice b6 n6 c6)) := (HC.out WE (by rw [hWE]; have := HK10.out.1; simp; omega) fun q h1 h2 h3 => by
                    have hne : q ≠ w.heap.size := by have := HP.out; have := HPS.out; omega
                    rw [hWE, heap_setCell_other _ _ _ _ hne, heap_setCell_other _ _ _ _ hne, heap_setCell_other _ _ _ _ hne, heap_setCell_other _ _ _ _ hne, heap_setCell_other _ _ _ _ hne, heap_setCell_other _ _ _ _ hne, heap_setCell_other _ _ _ _ hne]
                    exact HK10.out.2 q h1 h2 h3).1
                  rw [hWE] at z0 z1 z2 z3 z4 z5 z6
                  clear hWE
                  go_wp2
                  refine bodyPost_ret (v := .tuple #[.agg #[.int .i64 x0, .int .i64 x1, .int .i64 x2, .slice b5 n5 c5, .slice b6 n6 c6, .string (strB x4), .int .i64 x3], .int .i64 0]) (by simp [results, Tryz.results15, go_sem, z0, z1, z2, z3, z4, z5, z6]) rfl ?_
                  rw [← HWE.out]
                  refine ⟨.inr (.inr ⟨HE0.out, HRR.out.symm, b5, n5, c5, b6, n6, c6, by rw [HRES.out], ?_⟩), pgrown_to_below HE.out.G (by have := HP.out; omega)⟩
                  rw [HRES.out]
                  exact HCE.out
              · have HNE : Hid (ldS bs ≠ 0) := fun h => he0 (HEV.out.trans h)
                have hn0 : ((ev : Int) != 0) = true := by rw [bne_iff_ne]; omega
                have hn1 : ¬ (ev : Int) = 0 := by omega
                obtain ⟨o0, o1, o2, o3, o4, o5, o6⟩ := cells7 C9.out.Y
                have gf := cfrozen C9.out.Y
                have hrl : w.heap.size < W9.heap.size := heap_lt C9.out.Y
                obtain ⟨WE, hWE⟩ : ∃ WE, WE = (((((((W9.setCell ⟨w.heap.size, 0, none⟩ (.int .i64 0)).setCell ⟨w.heap.size, 1, none⟩ (.int .i64 0)).setCell ⟨w.heap.size, 2, none⟩ (.int .i64 0)).setCell ⟨w.heap.size, 3, none⟩ (.slice none 0 0)).setCell ⟨w.heap.size, 4, none⟩ (.slice none 0 0)).setCell ⟨w.heap.size, 5, none⟩ (.string ⟨#[]⟩)).setCell ⟨w.heap.size, 6, none⟩ (.int .i64 0)) := ⟨_, rfl⟩
                have HE : Hid (PBx w WE p bs f' t' V0.heap.size 27 #[.int .i64 0, .int .i64 0, .int .i64 0, .slice none 0 0, .slice none 0 0, .string ⟨#[]⟩, .int .i64 0] #[.int .i64 x0, .int .i64 x1, .int .i64 x2, .slice b5 n5 c5, .slice b6 n6 c6, .string (strB x4), .int .i64 x3]) := by rw [hWE]; exact ((((((C9.out.storeY 0 _).storeY 1 _).storeY 2 _).storeY 3 _).storeY 4 _).storeY 5 _).storeY 6 _
                obtain ⟨z0, z1, z2, z3, z4, z5, z6⟩ := cells7 HE.out.Y
                have HWE : Hid (WE = (((((((W9.setCell ⟨w.heap.size, 0, none⟩ (.int .i64 0)).setCell ⟨w.heap.size, 1, none⟩ (.int .i64 0)).setCell ⟨w.heap.size, 2, none⟩ (.int .i64 0)).setCell ⟨w.heap.size, 3, none⟩ (.slice none 0 0)).setCell ⟨w.heap.size, 4, none⟩ (.slice none 0 0)).setCell ⟨w.heap.size, 5, none⟩ (.string ⟨#[]⟩)).setCell ⟨w.heap.size, 6, none⟩ (.int .i64 0))) := hWE
                rw [hWE] at z0 z1 z2 z3 z4 z5 z6
                clear hWE he0
                go_wp2
                refine bodyPost_ret (v := .tuple #[.agg #[.int .i64 0, .int .i64 0, .int .i64 0, .slice none 0 0, .slice none 0 0, .string ⟨#[]⟩, .int .i64 0], .int .i64 (ev : Int)]) (by simp [results, Tryz.results15, go_sem, z0, z1, z2, z3, z4, z5, z6]) rfl ?_
                rw [← HWE.out]
                exact ⟨.inl ⟨HNE.out, by rw [HEV.out]⟩, pgrown_to_below HE.out.G (by have := HP.out; omega)⟩
      · obtain rfl : i = nI := by omega
        have hi2 : ¬ (i : Int) < i := by omega
        clear hgo hi hB
        go_wp2_with fail
        refine cc.mono ?_
        clear cc
        rintro e V6 ⟨rfl, hr1, hg1⟩
        have C6 : Hid (PBx w V6 p bs aV rV' V0.heap.size 27 #[.int .i64 0, .int .i64 0, .int .i64 0, .slice none 0 0, .slice none 0 0, .string ⟨#[]⟩, .int .i64 0] #[.int .i64 x0, .int .i64 x1, .int .i64 x2, .slice b5 n5 c5, .slice none 0 0, .string (strB x4), .int .i64 x3]) := HB.out.call hr1 hg1
        have HSH6 : Hid (calsR (fun b => V5.heap.size ≤ b) V6 (.slice b5 n5 c5) l) := rowIn.kept HIN.out (calE_keeps _) hg1.size fun q hq hlt => hg1.block q hlt (by have := HRV.out; have := HUN.out; simp; omega)
        have HU6 : Hid (V0.heap.size < V6.heap.size ∧ V5.heap.size ≤ V6.heap.size) := ⟨heap_lt C6.out.X, Nat.le_trans HLOW.out hg1.size⟩
        clear hr1 hg1 HB HX HIN HLOW
        go_wp2
        go_loopw [9] (fun vi wr => ∃ (i : Nat) (m : List Ob) (css : List (List Value)) (a' r' : Nat) (b n c : _), vi = .int .i64 (i : Int) ∧ LoopP (rObj bs) nV aV rV' i m a' r' ∧ PBx w wr p bs a' r' V0.heap.size 27 #[.int .i64 0, .int .i64 0, .int .i64 0, .slice none 0 0, .slice none 0 0, .string ⟨#[]⟩, .int .i64 0] #[.int .i64 x0, .int .i64 x1, .int .i64 x2, .slice b5 n5 c5, .slice b n c, .string (strB x4), .int .i64 x3] ∧ RowP coObF 2 V6.heap.size 51 (.slice b n c) wr m css ∧ Hid (∀ q, wP.heap.size ≤ q → q < V6.heap.size → q ≠ V0.heap.size → wr.heap[q]? = V6.heap[q]?)) (fun vi _ => nV - (intOf vi).toNat)
        case atStart => exact ⟨0, [], [], aV, rV', none, 0, 0, rfl, LoopP.start _ _ _ _, C6.out, RowP.start (Nat.le_refl _), fun q _ _ _ => rfl⟩
        case round =>
          obtain ⟨i2, m, css2, f', t', b6, n6, c6, rfl, hL, hB, hX, HMID⟩ := hrel
          have HB : Hid (PBx w wr p bs f' t' V0.heap.size 27 #[.int .i64 0, .int .i64 0, .int .i64 0, .slice none 0 0, .slice none 0 0, .string ⟨#[]⟩, .int .i64 0] #[.int .i64 x0, .int .i64 x1, .int .i64 x2, .slice b5 n5 c5, .slice b6 n6 c6, .string (strB x4), .int .i64 x3]) := hB
          have HX : Hid (RowP coObF 2 V6.heap.size 51 (.slice b6 n6 c6) wr m css2) := hX
          have hle := hL.le
          have hfew := hL.few
          by_cases hgo : i2 < nV ∧ t' = 0
          · obtain ⟨hi3, rfl⟩ := hgo
            have hi4 : (i2 : Int) < nV := by omega
            have cw := pkWell p bs f' 0 wr hB.rd
            rw [decide_eq_true rfl] at cw
            have c1 := pkText 255 p bs f' 0 wr hB.rd
            have HNX := hL.next hi3
            obtain ⟨y0, e1, s1, hy0⟩ : ∃ x ya yr, rTx 255 bs f' 0 = (x, ya, yr) := ⟨_, _, _, rfl⟩
            obtain ⟨y1, e2, s2, hy1⟩ : ∃ x ya yr, rAll bs (rVl bs) e1 s1 = (x, ya, yr) := ⟨_, _, _, rfl⟩
            have HY1 : Hid (rAll bs (rVl bs) e1 s1 = (y1, e2, s2)) := hy1
            have hri : rObj bs f' 0 = (((y0, y1) : Ob), e2, s2) := by simp only [rObj, hy0, hy1]
            rw [hri] at HNX
            rw [hy0] at c1
            simp only at c1 HNX
            have HNXT : Hid (LoopP (rObj bs) nV aV rV' (i2 + 1) (m ++ [(y0, y1)]) e2 s2) := HNX
            have HFW : Hid (m.length ≤ 1048576) := by have := HNI.out; show _ ≤ _; omega
            have HLOW2 : Hid (V6.heap.size ≤ wr.heap.size) := hX.low
            clear hL hB hX hle hfew HNX hy0 hy1 hri
            go_wp2_with fail
            refine cw.mono ?_
            clear cw
            rintro e w2 ⟨rfl, rfl⟩
            go_wp2_with fail
            refine c1.mono ?_
            clear c1
            rintro e w3 ⟨rfl, hT3, hG3⟩
            have HB3 : Hid (PBx w w3 p bs e1 s1 V0.heap.size 27 #[.int .i64 0, .int .i64 0, .int .i64 0, .slice none 0 0, .slice none 0 0, .string ⟨#[]⟩, .int .i64 0] #[.int .i64 x0, .int .i64 x1, .int .i64 x2, .slice b5 n5 c5, .slice b6 n6 c6, .string (strB x4), .int .i64 x3]) := HB.out.call hT3 hG3
            have HX3 : Hid (RowP coObF 2 V6.heap.size 51 (.slice b6 n6 c6) w3 m css2) := HX.out.keep lawObF hG3.size fun q hq hlt => hG3.block q hlt (by have := HRV.out; have := HU6.out; simp; omega)
            have HM3 : Hid (∀ q, wP.heap.size ≤ q → q < V6.heap.size → q ≠ V0.heap.size → w3.heap[q]? = V6.heap[q]?) := fun q h1 h2 h3 => (hG3.block q (by have := HLOW2.out; omega) (by have := HPS.out; simp; omega)).trans (HMID.out q h1 h2 h3)
            have HW3 : Hid (wr.heap.size ≤ w3.heap.size) := hG3.size
            clear hT3 hG3
            haveI hne : Nonempty (ClsP (fun _ => True)) := ⟨⟨w3, trivial⟩⟩
            have HTd : Hid (PkAt w3.drew p bs e1 s1) := HB3.out.rd.kept rfl
            have q5 : w3.drew.cell? ⟨V0.heap.size, 4, none⟩ = some (.slice b6 n6 c6) := (cells7 HB3.out.X).2.2.2.2.1
            have HC2 := pkAll p bs e1 s1 w3.drew HTd.out
            go_upto_region 22 with fail
            refine mix_begin (n := 10) (S := fun w' => ∃ c' : ClsP (fun _ => True), w' = c'.1) (by kernel_rfl) rfl rfl ?_
            refine mix_seg (fuel := 7) (fuel' := 10) (idx := [0, 2, 3]) (by decide +kernel) rfl rfl rfl (fun _ _ _ _ _ h => h) ⟨⟨w3.drew, trivial⟩, rfl⟩ ?_
            show wpQuiet _ _ _ _ [_, _, _] _
            iterate 3 (go_big_quiet_step (fail))
            refine wpQuiet_nil ?_
            refine cmix_two (fuel := 6) (fuel' := 7) (i := 1) (k := 4) rfl rfl (by decide +kernel) rfl rfl rfl (by rfl) (by rfl) ?_ ?_
            · intro K hK
              go_simp
              refine hK.out _ _ ⟨⟨w3.drew, trivial⟩, rfl⟩ ?_
              clear hK K
              refine mix_loud (fuel := 5) (fuel' := 6) (i := 4) rfl (by decide +kernel) rfl rfl (by rfl) ?_
              intro K hK
              go_simp
              refine HC2.mono ?_
              rintro e z1 ⟨bf, nf, cf, rfl, hfm4, hin4, hT4, hG4⟩
              rw [HY1.out] at hin4 hT4
              simp only at hin4 hT4
              have hG4' : w3.grownBy z1 (some p) := ⟨hG4.os, hG4.tape, hG4.output, hG4.size, hG4.block⟩
              have HBz : Hid (PBx w z1 p bs e2 s2 V0.heap.size 27 #[.int .i64 0, .int .i64 0, .int .i64 0, .slice none 0 0, .slice none 0 0, .string ⟨#[]⟩, .int .i64 0] #[.int .i64 x0, .int .i64 x1, .int .i64 x2, .slice b5 n5 c5, .slice b6 n6 c6, .string (strB x4), .int .i64 x3]) := HB3.out.call hT4 hG4'
              have HXz : Hid (RowP coObF 2 V6.heap.size 51 (.slice b6 n6 c6) z1 m css2) := HX3.out.keep lawObF hG4'.size fun q hq hlt => hG4'.block q hlt (by have := HRV.out; have := HU6.out; simp; omega)
              have HMz : Hid (∀ q, wP.heap.size ≤ q → q < V6.heap.size → q ≠ V0.heap.size → z1.heap[q]? = V6.heap[q]?) := fun q h1 h2 h3 => (hG4'.block q (by have := HLOW2.out; have := HW3.out; omega) (by have := HPS.out; simp; omega)).trans (HM3.out q h1 h2 h3)
              have HCO : Hid (coObF (fun b => w3.heap.size ≤ b) z1 (y0, y1) [.string (strB y0), .slice bf nf cf]) := ⟨bf, nf, cf, rfl, hfm4, hin4⟩
              have HG4 : Hid (w3.grownBy z1 (some p)) := hG4'
              clear hT4 hG4 hG4' hin4 hfm4
              (try go_simp)
              refine hK.out _ _ ⟨⟨z1, trivial⟩, rfl⟩ ?_
              clear hK K
              refine mix_seg (fuel := 4) (fuel' := 5) (idx := [5]) (by decide +kernel) rfl rfl rfl (fun _ _ _ _ _ h => h) ⟨⟨z1, trivial⟩, rfl⟩ ?_
              show wpQuiet _ _ _ _ [_] _
              iterate 1 (go_big_quiet_step (fail))
              refine wpQuiet_nil ?_
              refine mix_loud (fuel := 3) (fuel' := 4) (i := 6) rfl (by decide +kernel) rfl rfl (by rfl) ?_
              intro K hK
              go_simp
              refine hK.out _ _ ⟨⟨_, trivial⟩, rfl⟩ ?_
              clear hK K
              refine mix_law (fuel := 2) (fuel' := 3) (i := 7) rfl (by decide +kernel) rfl rfl (by rfl) ?_
              intro K hK
              refine pstep_append_at (.tmp 77) (.tmp 82) 25 rfl (by rfl) V6.heap.size 51 iV (.agg #[.string ⟨#[]⟩, .slice none 0 0]) 2 40 Tryz.underlying25 hinfV hzV0 hzV1 hzV2 rfl (by decide) _ _ _ rfl (HXz.out.row.alloc _) ⟨z1.heap.size, 0, none⟩ 1 1 [.string (strB y0), .slice bf nf cf] rfl rfl (rcells_new _ _ _) (by simp [Value.oneCell']) (by have := HFW.out; unfold maxLen; omega) (by have := HFW.out; omega) (by have := HXz.out.low; simp; omega) ?_
              intro v' z3 hown9 hgrow9 hloc9
              have hlk := HXz.out.lowkept (w1 := z1) rfl (Nat.le_refl _) hgrow9
              have HX9 : Hid (RowP coObF 2 V6.heap.size 51 v' z3 (m ++ [(y0, y1)]) (css2 ++ [[.string (strB y0), .slice bf nf cf]])) := HX3.out.snoc lawObF (w1 := z1) HG4.out.size (fun q hq hlt => HG4.out.block q hlt (by have := HRV.out; have := HU6.out; simp; omega)) HCO.out rfl hown9 hgrow9 hloc9
              have HB9 : Hid (PBx w z3 p bs e2 s2 V0.heap.size 27 #[.int .i64 0, .int .i64 0, .int .i64 0, .slice none 0 0, .slice none 0 0, .string ⟨#[]⟩, .int .i64 0] #[.int .i64 x0, .int .i64 x1, .int .i64 x2, .slice b5 n5 c5, .slice b6 n6 c6, .string (strB x4), .int .i64 x3]) := HBz.out.low HU6.out.1 hlk hgrow9.os hgrow9.tape hgrow9.output (by have := hgrow9.size; simp at this; omega)
              have HM9 : Hid (∀ q, wP.heap.size ≤ q → q < V6.heap.size → q ≠ V0.heap.size → z3.heap[q]? = V6.heap[q]?) := fun q h1 h2 h3 => (hlk q h2).trans (HMz.out q h1 h2 h3)
              obtain ⟨b9, n9, c9, rfl⟩ : ∃ b n c, v' = .slice b n c := by
                rcases HX9.out.row.2 with ⟨e, -⟩ | ⟨g, cp, cur, e, -⟩
                · exact ⟨_, _, _, e⟩
                · exact ⟨_, _, _, e⟩
              clear hown9 hgrow9 hloc9 hlk
              refine hK.out _ _ ⟨⟨z3, trivial⟩, rfl⟩ ?_
              clear hK K
              simp only [Act.put, List.setIfInBounds_toArray, List.set_cons_zero, List.set_cons_succ]
              refine mix_seg (fuel := 1) (fuel' := 2) (idx := [8]) (by decide +kernel) rfl rfl rfl (fun _ _ _ _ _ h => h) ⟨⟨z3, trivial⟩, rfl⟩ ?_
              show wpQuiet _ _ _ _ [_] _
              iterate 1 (go_big_quiet_step (fail))
              refine wpQuiet_nil ?_
              have q7 : z3.cell? ⟨V0.heap.size, 4, none⟩ = some (.slice b6 n6 c6) := (cells7 HB9.out.X).2.2.2.2.1
              have fz7 := cfrozen HB9.out.X 4
              refine mix_loud (fuel := 0) (fuel' := 1) (i := 9) rfl (by decide +kernel) rfl rfl (by rfl) ?_
              intro K hK
              go_simp
              refine hK.out _ _ ⟨⟨_, trivial⟩, rfl⟩ ?_
              clear hK K q7 fz7
              refine mix_done (by kernel_rfl) ?_
              have HB10 : Hid (PBx w (z3.setCell ⟨V0.heap.size, 4, none⟩ (.slice b9 n9 c9)) p bs e2 s2 V0.heap.size 27 #[.int .i64 0, .int .i64 0, .int .i64 0, .slice none 0 0, .slice none 0 0, .string ⟨#[]⟩, .int .i64 0] #[.int .i64 x0, .int .i64 x1, .int .i64 x2, .slice b5 n5 c5, .slice b9 n9 c9, .string (strB x4), .int .i64 x3]) := HB9.out.store 4 _
              have HX10 : Hid (RowP coObF 2 V6.heap.size 51 (.slice b9 n9 c9) (z3.setCell ⟨V0.heap.size, 4, none⟩ (.slice b9 n9 c9)) (m ++ [(y0, y1)]) (css2 ++ [[.string (strB y0), .slice bf nf cf]])) := HX9.out.keep lawObF (by simp) fun q hq _ => heap_setCell_other _ _ _ _ (by have := HU6.out; simp; omega)
              have HM10 : Hid (∀ q, wP.heap.size ≤ q → q < V6.heap.size → q ≠ V0.heap.size → (z3.setCell ⟨V0.heap.size, 4, none⟩ (.slice b9 n9 c9)).heap[q]? = V6.heap[q]?) := fun q h1 h2 h3 => (heap_setCell_other _ _ _ _ (by simp; omega)).trans (HM9.out q h1 h2 h3)
              go_wp2
              exact ⟨⟨i2 + 1, _, _, e2, s2, b9, n9, c9, by go_num, HNXT.out, HB10.out, HX10.out, HM10⟩, by simp [intOf]; omega⟩
            · intro K hK
              go_simp
              refine HC2.mono ?_
              rintro e z1 ⟨bf, nf, cf, rfl, hfm4, hin4, hT4, hG4⟩
              rw [HY1.out] at hin4 hT4
              simp only at hin4 hT4
              have hG4' : w3.grownBy z1 (some p) := ⟨hG4.os, hG4.tape, hG4.output, hG4.size, hG4.block⟩
              have HBz : Hid (PBx w z1 p bs e2 s2 V0.heap.size 27 #[.int .i64 0, .int .i64 0, .int .i64 0, .slice none 0 0, .slice none 0 0, .string ⟨#[]⟩, .int .i64 0] #[.int .i64 x0, .int .i64 x1, .int .i64 x2, .slice b5 n5 c5, .slice b6 n6 c6, .string (strB x4), .int .i64 x3]) := HB3.out.call hT4 hG4'
              have HXz : Hid (RowP coObF 2 V6.heap.size 51 (.slice b6 n6 c6) z1 m css2) := HX3.out.keep lawObF hG4'.size fun q hq hlt => hG4'.block q hlt (by have := HRV.out; have := HU6.out; simp; omega)
              have HMz : Hid (∀ q, wP.heap.size ≤ q → q < V6.heap.size → q ≠ V0.heap.size → z1.heap[q]? = V6.heap[q]?) := fun q h1 h2 h3 => (hG4'.block q (by have := HLOW2.out; have := HW3.out; omega) (by have := HPS.out; simp; omega)).trans (HM3.out q h1 h2 h3)
              have HCO : Hid (coObF (fun b => w3.heap.size ≤ b) z1 (y0, y1) [.string (strB y0), .slice bf nf cf]) := ⟨bf, nf, cf, rfl, hfm4, hin4⟩
              have HG4 : Hid (w3.grownBy z1 (some p)) := hG4'
              clear hT4 hG4 hG4' hin4 hfm4
              (try go_simp)
              refine hK.out _ _ ⟨⟨z1, trivial⟩, rfl⟩ ?_
              clear hK K
              have q6 : z1.cell? ⟨V0.heap.size, 4, none⟩ = some (.slice b6 n6 c6) := (cells7 HBz.out.X).2.2.2.2.1
              have hul6 : V0.heap.size < z1.heap.size := heap_lt HBz.out.X
              refine mix_seg (fuel := 5) (fuel' := 6) (idx := [5]) (by decide +kernel) rfl rfl rfl (fun _ _ _ _ _ h => h) ⟨⟨z1, trivial⟩, rfl⟩ ?_
              show wpQuiet _ _ _ _ [_] _
              iterate 1 (go_big_quiet_step (fail))
              refine wpQuiet_nil ?_
              refine cmix_two (fuel := 4) (fuel' := 5) (i := 1) (k := 6) rfl rfl (by decide +kernel) rfl rfl rfl (by rfl) (by rfl) ?_ ?_
              · intro K hK
                go_simp
                refine hK.out _ _ ⟨⟨z1, trivial⟩, rfl⟩ ?_
                clear hK K q6 hul6
                refine mix_loud (fuel := 3) (fuel' := 4) (i := 6) rfl (by decide +kernel) rfl rfl (by rfl) ?_
                intro K hK
                go_simp
                refine hK.out _ _ ⟨⟨_, trivial⟩, rfl⟩ ?_
                clear hK K
                refine mix_law (fuel := 2) (fuel' := 3) (i := 7) rfl (by decide +kernel) rfl rfl (by rfl) ?_
                intro K hK
                refine pstep_append_at (.tmp 77) (.tmp 82) 25 rfl (by rfl) V6.heap.size 51 iV (.agg #[.string ⟨#[]⟩, .slice none 0 0]) 2 40 Tryz.underlying25 hinfV hzV0 hzV1 hzV2 rfl (by decide) _ _ _ rfl (HXz.out.row.alloc _) ⟨z1.heap.size, 0, none⟩ 1 1 [.string (strB y0), .slice bf nf cf] rfl rfl (rcells_new _ _ _) (by simp [Value.oneCell']) (by have := HFW.out; unfold maxLen; omega) (by have := HFW.out; omega) (by have := HXz.out.low; simp; omega) ?_
                intro v' z3 hown9 hgrow9 hloc9
                have hlk := HXz.out.lowkept (w1 := z1) rfl (Nat.le_refl _) hgrow9
                have HX9 : Hid (RowP coObF 2 V6.heap.size 51 v' z3 (m ++ [(y0, y1)]) (css2 ++ [[.string (strB y0), .slice bf nf cf]])) := HX3.out.snoc lawObF (w1 := z1) HG4.out.size (fun q hq hlt => HG4.out.block q hlt (by have := HRV.out; have := HU6.out; simp; omega)) HCO.out rfl hown9 hgrow9 hloc9
                have HB9 : Hid (PBx w z3 p bs e2 s2 V0.heap.size 27 #[.int .i64 0, .int .i64 0, .int .i64 0, .slice none 0 0, .slice none 0 0, .string ⟨#[]⟩, .int .i64 0] #[.int .i64 x0, .int .i64 x1, .int .i64 x2, .slice b5 n5 c5, .slice b6 n6 c6, .string (strB x4), .int .i64 x3]) := HBz.out.low HU6.out.1 hlk hgrow9.os hgrow9.tape hgrow9.output (by have := hgrow9.size; simp at this; omega)
                have HM9 : Hid (∀ q, wP.heap.size ≤ q → q < V6.heap.size → q ≠ V0.heap.size → z3.heap[q]? = V6.heap[q]?) := fun q h1 h2 h3 => (hlk q h2).trans (HMz.out q h1 h2 h3)
                obtain ⟨b9, n9, c9, rfl⟩ : ∃ b n c, v' = .slice b n c := by
                  rcases HX9.out.row.2 with ⟨e, -⟩ | ⟨g, cp, cur, e, -⟩
                  · exact ⟨_, _, _, e⟩
                  · exact ⟨_, _, _, e⟩
                clear hown9 hgrow9 hloc9 hlk
                refine hK.out _ _ ⟨⟨z3, trivial⟩, rfl⟩ ?_
                clear hK K
                simp only [Act.put, List.setIfInBounds_toArray, List.set_cons_zero, List.set_cons_succ]
                refine mix_seg (fuel := 1) (fuel' := 2) (idx := [8]) (by decide +kernel) rfl rfl rfl (fun _ _ _ _ _ h => h) ⟨⟨z3, trivial⟩, rfl⟩ ?_
                show wpQuiet _ _ _ _ [_] _
                iterate 1 (go_big_quiet_step (fail))
                refine wpQuiet_nil ?_
                have q7 : z3.cell? ⟨V0.heap.size, 4, none⟩ = some (.slice b6 n6 c6) := (cells7 HB9.out.X).2.2.2.2.1
                have fz7 := cfrozen HB9.out.X 4
                refine mix_loud (fuel := 0) (fuel' := 1) (i := 9) rfl (by decide +kernel) rfl rfl (by rfl) ?_
                intro K hK
                go_simp
                refine hK.out _ _ ⟨⟨_, trivial⟩, rfl⟩ ?_
                clear hK K q7 fz7
                refine mix_done (by kernel_rfl) ?_
                have HB10 : Hid (PBx w (z3.setCell ⟨V0.heap.size, 4, none⟩ (.slice b9 n9 c9)) p bs e2 s2 V0.heap.size 27 #[.int .i64 0, .int .i64 0, .int .i64 0, .slice none 0 0, .slice none 0 0, .string ⟨#[]⟩, .int .i64 0] #[.int .i64 x0, .int .i64 x1, .int .i64 x2, .slice b5 n5 c5, .slice b9 n9 c9, .string (strB x4), .int .i64 x3]) := HB9.out.store 4 _
                have HX10 : Hid (RowP coObF 2 V6.heap.size 51 (.slice b9 n9 c9) (z3.setCell ⟨V0.heap.size, 4, none⟩ (.slice b9 n9 c9)) (m ++ [(y0, y1)]) (css2 ++ [[.string (strB y0), .slice bf nf cf]])) := HX9.out.keep lawObF (by simp) fun q hq _ => heap_setCell_other _ _ _ _ (by have := HU6.out; simp; omega)
                have HM10 : Hid (∀ q, wP.heap.size ≤ q → q < V6.heap.size → q ≠ V0.heap.size → (z3.setCell ⟨V0.heap.size, 4, none⟩ (.slice b9 n9 c9)).heap[q]? = V6.heap[q]?) := fun q h1 h2 h3 => (heap_setCell_other _ _ _ _ (by simp; omega)).trans (HM9.out q h1 h2 h3)
                go_wp2
                exact ⟨⟨i2 + 1, _, _, e2, s2, b9, n9, c9, by go_num, HNXT.out, HB10.out, HX10.out, HM10⟩, by simp [intOf]; omega⟩
              · intro K hK
                go_simp
                refine hK.out _ _ ⟨⟨_, trivial⟩, rfl⟩ ?_
                clear hK K
                refine mix_loud (fuel := 3) (fuel' := 4) (i := 1) rfl (by decide +kernel) rfl rfl (by rfl) ?_
                intro K hK
                go_simp
                refine hK.out _ _ ⟨⟨_, trivial⟩, rfl⟩ ?_
                clear hK K
                clear q6 hul6
                refine mix_law (fuel := 2) (fuel' := 3) (i := 7) rfl (by decide +kernel) rfl rfl (by rfl) ?_
                intro K hK
                refine pstep_append_at (.tmp 77) (.tmp 82) 25 rfl (by rfl) V6.heap.size 51 iV (.agg #[.string ⟨#[]⟩, .slice none 0 0]) 2 40 Tryz.underlying25 hinfV hzV0 hzV1 hzV2 rfl (by decide) _ _ _ rfl (HXz.out.row.alloc _) ⟨z1.heap.size, 0, none⟩ 1 1 [.string (strB y0), .slice bf nf cf] rfl rfl (rcells_new _ _ _) (by simp [Value.oneCell']) (by have := HFW.out; unfold maxLen; omega) (by have := HFW.out; omega) (by have := HXz.out.low; simp; omega) ?_
                intro v' z3 hown9 hgrow9 hloc9
                have hlk := HXz.out.lowkept (w1 := z1) rfl (Nat.le_refl _) hgrow9
                have HX9 : Hid (RowP coObF 2 V6.heap.size 51 v' z3 (m ++ [(y0, y1)]) (css2 ++ [[.string (strB y0), .slice bf nf cf]])) := HX3.out.snoc lawObF (w1 := z1) HG4.out.size (fun q hq hlt => HG4.out.block q hlt (by have := HRV.out; have := HU6.out; simp; omega)) HCO.out rfl hown9 hgrow9 hloc9
                have HB9 : Hid (PBx w z3 p bs e2 s2 V0.heap.size 27 #[.int .i64 0, .int .i64 0, .int .i64 0, .slice none 0 0, .slice none 0 0, .string ⟨#[]⟩, .int .i64 0] #[.int .i64 x0, .int .i64 x1, .int .i64 x2, .slice b5 n5 c5, .slice b6 n6 c6, .string (strB x4), .int .i64 x3]) := HBz.out.low HU6.out.1 hlk hgrow9.os hgrow9.tape hgrow9.output (by have := hgrow9.size; simp at this; omega)
                have HM9 : Hid (∀ q, wP.heap.size ≤ q → q < V6.heap.size → q ≠ V0.heap.size → z3.heap[q]? = V6.heap[q]?) := fun q h1 h2 h3 => (hlk q h2).trans (HMz.out q h1 h2 h3)
                obtain ⟨b9, n9, c9, rfl⟩ : ∃ b n c, v' = .slice b n c := by
                  rcases HX9.out.row.2 with ⟨e, -⟩ | ⟨g, cp, cur, e, -⟩
                  · exact ⟨_, _, _, e⟩
                  · exact ⟨_, _, _, e⟩
                clear hown9 hgrow9 hloc9 hlk
                refine hK.out _ _ ⟨⟨z3, trivial⟩, rfl⟩ ?_
                clear hK K
                simp only [Act.put, List.setIfInBounds_toArray, List.set_cons_zero, List.set_cons_succ]
                refine mix_seg (fuel := 1) (fuel' := 2) (idx := [8]) (by decide +kernel) rfl rfl rfl (fun _ _ _ _ _ h => h) ⟨⟨z3, trivial⟩, rfl⟩ ?_
                show wpQuiet _ _ _ _ [_] _
                iterate 1 (go_big_quiet_step (fail))
                refine wpQuiet_nil ?_
                have q7 : z3.cell? ⟨V0.heap.size, 4, none⟩ = some (.slice b6 n6 c6) := (cells7 HB9.out.X).2.2.2.2.1
                have fz7 := cfrozen HB9.out.X 4
                refine mix_loud (fuel := 0) (fuel' := 1) (i := 9) rfl (by decide +kernel) rfl rfl (by rfl) ?_
                intro K hK
                go_simp
                refine hK.out _ _ ⟨⟨_, trivial⟩, rfl⟩ ?_
                clear hK K q7 fz7
                refine mix_done (by kernel_rfl) ?_
                have HB10 : Hid (PBx w (z3.setCell ⟨V0.heap.size, 4, none⟩ (.slice b9 n9 c9)) p bs e2 s2 V0.heap.size 27 #[.int .i64 0, .int .i64 0, .int .i64 0, .slice none 0 0, .slice none 0 0, .string ⟨#[]⟩, .int .i64 0] #[.int .i64 x0, .int .i64 x1, .int .i64 x2, .slice b5 n5 c5, .slice b9 n9 c9, .string (strB x4), .int .i64 x3]) := HB9.out.store 4 _
                have HX10 : Hid (RowP coObF 2 V6.heap.size 51 (.slice b9 n9 c9) (z3.setCell ⟨V0.heap.size, 4, none⟩ (.slice b9 n9 c9)) (m ++ [(y0, y1)]) (css2 ++ [[.string (strB y0), .slice bf nf cf]])) := HX9.out.keep lawObF (by simp) fun q hq _ => heap_setCell_other _ _ _ _ (by have := HU6.out; simp; omega)
                have HM10 : Hid (∀ q, wP.heap.size ≤ q → q < V6.heap.size → q ≠ V0.heap.size → (z3.setCell ⟨V0.heap.size, 4, none⟩ (.slice b9 n9 c9)).heap[q]? = V6.heap[q]?) := fun q h1 h2 h3 => (heap_setCell_other _ _ _ _ (by simp; omega)).trans (HM9.out q h1 h2 h3)
                go_wp2
                exact ⟨⟨i2 + 1, _, _, e2, s2, b9, n9, c9, by go_num, HNXT.out, HB10.out, HX10.out, HM10⟩, by simp [intOf]; omega⟩
          · have hend : loopR (rObj bs) nV aV rV' = (m, f', t') := by
              by_cases hi : i2 < nV
              · exact hL.bad fun e => hgo ⟨hi, e⟩
              · obtain rfl : i2 = nV := by omega
                exact hL.last
            have h9 := HX6.out
            rw [hend] at h9
            obtain ⟨rfl, h10⟩ := Prod.mk.inj h9
            obtain ⟨rfl, rfl⟩ := Prod.mk.inj h10
            have HUNI : Hid (rowIn (fun b => V6.heap.size ≤ b) wr (.slice b6 n6 c6) 2 (objFE fun b => V6.heap.size ≤ b) m) := hX.rowIn lawObF (E := objFE _) fun x cs b o hco hcs => by
              obtain ⟨g1, g2, g3, e, hfm, hs1⟩ := hco
              subst e
              exact ⟨⟨hcs 0 (by simp), _, hcs 1 (by simp), hs1⟩, _, hcs 1 (by simp), hfm⟩
            have HLOW2 : Hid (V6.heap.size ≤ wr.heap.size) := hX.low
            have HSH7 : Hid (calsR (fun b => V5.heap.size ≤ b ∧ b < V6.heap.size) wr (.slice b5 n5 c5) l) := by
              have i1 := rowIn.wide (S' := fun b => V5.heap.size ≤ b ∧ b < V6.heap.size) HSH6.out (fun q hq hS => ⟨hS, hq⟩) (calE_wide (S' := fun b => V5.heap.size ≤ b ∧ b < V6.heap.size) fun q hq hS => ⟨hS, hq⟩)
              exact rowIn.kept i1 (calE_keeps _) hX.low fun q hq hlt => HMID.out q (by have := hq.1; have := HUN.out; have := HRV.out; omega) hlt (by have := hq.1; have := HUN.out; omega)
            have HC : Hid (∀ W, wr.heap.size ≤ W.heap.size → (∀ q, wP.heap.size ≤ q → q < wr.heap.size → q ≠ V0.heap.size → W.heap[q]? = wr.heap[q]?) → SnIn (fun b => w.heap.size ≤ b) W ⟨x0, x1, x2, l, m, x4, x3⟩ (.slice b5 n5 c5) (.slice b6 n6 c6) ∧ objsF W (.slice b6 n6 c6) m) := fun W hs hk => by
              have hp := HP.out
              have hps := HPS.out
              have h1 := HUN.out
              have h2 := HU6.out
              have h3 := HRV.out
              have i2 := rowIn.kept (w' := W) HUNI.out (objFE_keeps _) hs fun q hq hlt => hk q (by omega) hlt (by omega)
              refine ⟨⟨?_, objFE_R i2 fun q _ hq => by omega⟩, objFE_F i2⟩
              exact rowIn.wide (rowIn.kept HSH7.out (calE_keeps _) hs fun q hq hlt => hk q (by have := hq.1; omega) hlt (by have := hq.1; omega)) (fun q _ hq => by have := hq.1; omega) (calE_wide fun q _ hq => by have := hq.1; omega)
            clear hL hX hend h9 h10 hfew HX6 HMID
            by_cases hi : i2 < nV
            · have hi4 : (i2 : Int) < nV := by omega
              have cw := pkWell p bs f' t' wr hB.rd
              have hr : t' ≠ 0 := fun e => hgo ⟨hi, e⟩
              rw [decide_eq_false hr] at cw
              clear hgo hr hB
              go_wp2_with fail
              refine cw.mono ?_
              clear cw
              rintro e w2 ⟨rfl, rfl⟩
              obtain ⟨ev, hev⟩ : ∃ ev, ev = ldS bs := ⟨_, rfl⟩
              have HEV : Hid (ev = ldS bs) := hev
              have ce : Calls Tryz.prog 37 #[.agg #[.string (strB bs), .int .i64 (f' : Nat), .int .i64 (t' : Nat)]] wr fun e w' => e = .returned (.int .i64 (ev : Nat)) ∧ Below wr.heap.size wr w' := by
                have h9 := refREnd_any (strB bs) f' t' wr
                rw [strB_size] at h9
                rw [hev]
                unfold ldS
                rw [HRES.out]
                exact h9
              obtain ⟨t0, t1, t2⟩ := cells3p HB.out.rd.blk
              clear hev
              go_wp2_with fail
              refine ce.mono ?_
              clear ce t0 t1 t2
              rintro e W9 ⟨rfl, hb9⟩
              have C9 : Hid (PBx w W9 p bs f' t' V0.heap.size 27 #[.int .i64 0, .int .i64 0, .int .i64 0, .slice none 0 0, .slice none 0 0, .string ⟨#[]⟩, .int .i64 0] #[.int .i64 x0, .int .i64 x1, .int .i64 x2, .slice b5 n5 c5, .slice b6 n6 c6, .string (strB x4), .int .i64 x3]) := HB.out.below hb9
              have HK9 : Hid (wr.heap.size ≤ W9.heap.size ∧ ∀ q, wP.heap.size ≤ q → q < wr.heap.size → q ≠ V0.heap.size → W9.heap[q]? = wr.heap[q]?) := ⟨hb9.size, fun q h1 h2 h3 => hb9.block q h2⟩
              clear hb9
              by_cases he0 : ev = 0
              · have HE0 : Hid (ldS bs = 0) := HEV.out.symm.trans he0
                have hn0 : ((ev : Int) != 0) = false := by rw [he0]; rfl
                have hn1 : (ev : Int) = 0 := by omega
                have hsm := okSn_small (ldS_form HE0.out).1
                rw [HRES.out] at hsm
                simp only at hsm
                obtain ⟨R, hR⟩ : ∃ R, R = mayS ⟨x0, x1, x2, l, m, x4, x3⟩ := ⟨_, rfl⟩
                have HRR : Hid (R = mayS (rSn bs 0 0).1) := by rw [HRES.out]; exact hR
                have hcw := HC.out W9 HK9.out.1 HK9.out.2
                have cr : Calls Tryz.prog 26 #[.agg #[.int .i64 x0, .int .i64 x1, .int .i64 x2, .slice b5 n5 c5, .slice b6 n6 c6, .string (strB x4), .int .i64 x3]] W9 fun e w' => e = .returned (.bool R) ∧ Below W9.heap.size W9 w' := by
                  rw [hR]; exact pfMay_any _ ⟨x0, x1, x2, l, m, x4, x3⟩ b5 b6 n5 c5 n6 c6 W9 hcw.1 hsm hcw.2
                obtain ⟨q0, q1, q2, q3, q4, q5, q6⟩ := cells7 C9.out.X
                clear hsm hR he0 hcw hn1
                go_wp2_with fail
                refine cr.mono ?_
                clear cr q0 q1 q2 q3 q4 q5 q6
                rintro e W10 ⟨rfl, hb10⟩
                have C10 : Hid (PBx w W10 p bs f' t' V0.heap.size 27 #[.int .i64 0, .int .i64 0, .int .i64 0, .slice none 0 0, .slice none 0 0, .string ⟨#[]⟩, .int .i64 0] #[.int .i64 x0, .int .i64 x1, .int .i64 x2, .slice b5 n5 c5, .slice b6 n6 c6, .string (strB x4), .int .i64 x3]) := C9.out.below hb10
                have HK10 : Hid (wr.heap.size ≤ W10.heap.size ∧ ∀ q, wP.heap.size ≤ q → q < wr.heap.size → q ≠ V0.heap.size → W10.heap[q]? = wr.heap[q]?) := ⟨Nat.le_trans HK9.out.1 hb10.size, fun q h1 h2 h3 => (hb10.block q (Nat.lt_of_lt_of_le h2 HK9.out.1)).trans (HK9.out.2 q h1 h2 h3)⟩
                clear hb10
                obtain ⟨q0, q1, q2, q3, q4, q5, q6⟩ := cells7 C10.out.X
                obtain ⟨o0, o1, o2, o3, o4, o5, o6⟩ := cells7 C10.out.Y
                have gf := cfrozen C10.out.Y
                have hrl : w.heap.size < W10.heap.size := heap_lt C10.out.Y
                have hne9 : V0.heap.size ≠ w.heap.size := by have := C10.out.ult; omega
                cases R with
                | false =>
                  obtain ⟨WE, hWE⟩ : ∃ WE, WE = (((((((W10.setCell ⟨w.heap.size, 0, none⟩ (.int .i64 0)).setCell ⟨w.heap.size, 1, none⟩ (.int .i64 0)).setCell ⟨w.heap.size, 2, none⟩ (.int .i64 0)).setCell ⟨w.heap.size, 3, none⟩ (.slice none 0 0)).setCell ⟨w.heap.size, 4, none⟩ (.slice none 0 0)).setCell ⟨w.heap.size, 5, none⟩ (.string ⟨#[]⟩)).setCell ⟨w.heap.size, 6, none⟩ (.int .i64 0)) := ⟨_, rfl⟩
                  have HE : Hid (PBx w WE p bs f' t' V0.heap.size 27 #[.int .i64 0, .int .i64 0, .int .i64 0, .slice none 0 0, .slice none 0 0, .string ⟨#[]⟩, .int .i64 0] #[.int .i64 x0, .int .i64 x1, .int .i64 x2, .slice b5 n5 c5, .slice b6 n6 c6, .string (strB x4), .int .i64 x3]) := by rw [hWE]; exact ((((((C10.out.storeY 0 _).storeY 1 _).storeY 2 _).storeY 3 _).storeY 4 _).storeY 5 _).storeY 6 _
                  obtain ⟨z0, z1, z2, z3, z4, z5, z6⟩ := cells7 HE.out.Y
                  have HWE : Hid (WE = (((((((W10.setCell ⟨w.heap.size, 0, none⟩ (.int .i64 0)).setCell ⟨w.heap.size, 1, none⟩ (.int .i64 0)).setCell ⟨w.heap.size, 2, none⟩ (.int .i64 0)).setCell ⟨w.heap.size, 3, none⟩ (.slice none 0 0)).setCell ⟨w.heap.size, 4, none⟩ (.slice none 0 0)).setCell ⟨w.heap.size, 5, none⟩ (.string ⟨#[]⟩)).setCell ⟨w.heap.size, 6, none⟩ (.int .i64 0))) := hWE
                  rw [hWE] at z0 z1 z2 z3 z4 z5 z6
                  clear hWE
                  go_wp2
                  refine bodyPost_ret (v := .tuple #[.agg #[.int .i64 0, .int .i64 0, .int .i64 0, .slice none 0 0, .slice none 0 0, .string ⟨#[]⟩, .int .i64 0], .int .i64 2]) (by simp [results, Tryz.results15, go_sem, z0, z1, z2, z3, z4, z5, z6]) rfl ?_
                  rw [← HWE.out]
                  exact ⟨.inr (.inl ⟨HE0.out, HRR.out.symm, rfl⟩), pgrown_to_below HE.out.G (by have := HP.out; omega)⟩
                | true =>
                  obtain ⟨WE, hWE⟩ : ∃ WE, WE = (((((((W10.setCell ⟨w.heap.size, 0, none⟩ (.int .i64 x0)).setCell ⟨w.heap.size, 1, none⟩ (.int .i64 x1)).setCell ⟨w.heap.size, 2, none⟩ (.int .i64 x2)).setCell ⟨w.heap.size, 3, none⟩ (.slice b5 n5 c5)).setCell ⟨w.heap.size, 4, none⟩ (.slice b6 n6 c6)).setCell ⟨w.heap.size, 5, none⟩ (.string (strB x4))).setCell ⟨w.heap.size, 6, none⟩ (.int .i64 x3)) := ⟨_, rfl⟩
                  have HE : Hid (PBx w WE p bs f' t' V0.heap.size 27 #[.int .i64 x0, .int .i64 x1, .int .i64 x2, .slice b5 n5 c5, .slice b6 n6 c6, .string (strB x4), .int .i64 x3] #[.int .i64 x0, .int .i64 x1, .int .i64 x2, .slice b5 n5 c5, .slice b6 n6 c6, .string (strB x4), .int .i64 x3]) := by rw [hWE]; exact ((((((C10.out.storeY 0 _).storeY 1 _).storeY 2 _).storeY 3 _).storeY 4 _).storeY 5 _).storeY 6 _
                  obtain ⟨z0, z1, z2, z3, z4, z5, z6⟩ := cells7 HE.out.Y
                  have HWE : Hid (WE = (((((((W10.setCell ⟨w.heap.size, 0, none⟩ (.int .i64 x0)).setCell ⟨w.heap.size, 1, none⟩ (.int .i64 x1)).setCell ⟨w.heap.size, 2, none⟩ (.int .i64 x2)).setCell ⟨w.heap.size, 3, none⟩ (.slice b5 n5 c5)).setCell ⟨w.heap.size, 4, none⟩ (.slice b6 n6 c6)).setCell ⟨w.heap.size, 5, none⟩ (.string (strB x4))).setCell ⟨w.heap.size, 6, none⟩ (.int .i64 x3))) := hWE
                  have HCE : Hid (SnIn (fun b => w.heap.size ≤ b) WE ⟨x0, x1, x2, l, m, x4, x3⟩ (.slice b5 n5 c5) (.slice b6 n6 c6)) := (HC.out WE (by rw [hWE]; have := HK10.out.1; simp; omega) fun q h1 h2 h3 => by
                    have hne : q ≠ w.heap.size := by have := HP.out; have := HPS.out; omega
                    rw [hWE, heap_setCell_other _ _ _ _ hne, heap_setCell_other _ _ _ _ hne, heap_setCell_other _ _ _ _ hne, heap_setCell_other _ _ _ _ hne, heap_setCell_other _ _ _ _ hne, heap_setCell_other _ _ _ _ hne, heap_setCell_other _ _ _ _ hne]
                    exact HK10.out.2 q h1 h2 h3).1
                  rw [hWE] at z0 z1 z2 z3 z4 z5 z6
                  clear hWE
                  go_wp2
                  refine bodyPost_ret (v := .tuple #[.agg #[.int .i64 x0, .int .i64 x1, .int .i64 x2, .slice b5 n5 c5, .slice b6 n6 c6, .string (strB x4), .int .i64 x3], .int .i64 0]) (by simp [results, Tryz.results15, go_sem, z0, z1, z2, z3, z4, z5, z6]) rfl ?_
                  rw [← HWE.out]
                  refine ⟨.inr (.inr ⟨HE0.out, HRR.out.symm, b5, n5, c5, b6, n6, c6, by rw [HRES.out], ?_⟩), pgrown_to_below HE.out.G (by have := HP.out; omega)⟩
                  rw [HRES.out]
                  exact HCE.out
              · have HNE : Hid (ldS bs ≠ 0) := fun h => he0 (HEV.out.trans h)
                have hn0 : ((ev : Int) != 0) = true := by rw [bne_iff_ne]; omega
                have hn1 : ¬ (ev : Int) = 0 := by omega
                obtain ⟨o0, o1, o2, o3, o4, o5, o6⟩ := cells7 C9.out.Y
                have gf := cfrozen C9.out.Y
                have hrl : w.heap.size < W9.heap.size := heap_lt C9.out.Y
                obtain ⟨WE, hWE⟩ : ∃ WE, WE = (((((((W9.setCell ⟨w.heap.size, 0, none⟩ (.int .i64 0)).setCell ⟨w.heap.size, 1, none⟩ (.int .i64 0)).setCell ⟨w.heap.size, 2, none⟩ (.int .i64 0)).setCell ⟨w.heap.size, 3, none⟩ (.slice none 0 0)).setCell ⟨w.heap.size, 4, none⟩ (.slice none 0 0)).setCell ⟨w.heap.size, 5, none⟩ (.string ⟨#[]⟩)).setCell ⟨w.heap.size, 6, none⟩ (.int .i64 0)) := ⟨_, rfl⟩
                have HE : Hid (PBx w WE p bs f' t' V0.heap.size 27 #[.int .i64 0, .int .i64 0, .int .i64 0, .slice none 0 0, .slice none 0 0, .string ⟨#[]⟩, .int .i64 0] #[.int .i64 x0, .int .i64 x1, .int .i64 x2, .slice b5 n5 c5, .slice b6 n6 c6, .string (strB x4), .int .i64 x3]) := by rw [hWE]; exact ((((((C9.out.storeY 0 _).storeY 1 _).storeY 2 _).storeY 3 _).storeY 4 _).storeY 5 _).storeY 6 _
                obtain ⟨z0, z1, z2, z3, z4, z5, z6⟩ := cells7 HE.out.Y
                have HWE : Hid (WE = (((((((W9.setCell ⟨w.heap.size, 0, none⟩ (.int .i64 0)).setCell ⟨w.heap.size, 1, none⟩ (.int .i64 0)).setCell ⟨w.heap.size, 2, none⟩ (.int .i64 0)).setCell ⟨w.heap.size, 3, none⟩ (.slice none 0 0)).setCell ⟨w.heap.size, 4, none⟩ (.slice none 0 0)).setCell ⟨w.heap.size, 5, none⟩ (.string ⟨#[]⟩)).setCell ⟨w.heap.size, 6, none⟩ (.int .i64 0))) := hWE
                rw [hWE] at z0 z1 z2 z3 z4 z5 z6
                clear hWE he0
                go_wp2
                refine bodyPost_ret (v := .tuple #[.agg #[.int .i64 0, .int .i64 0, .int .i64 0, .slice none 0 0, .slice none 0 0, .string ⟨#[]⟩, .int .i64 0], .int .i64 (ev : Int)]) (by simp [results, Tryz.results15, go_sem, z0, z1, z2, z3, z4, z5, z6]) rfl ?_
                rw [← HWE.out]
                exact ⟨.inl ⟨HNE.out, by rw [HEV.out]⟩, pgrown_to_below HE.out.G (by have := HP.out; omega)⟩
            · obtain rfl : i2 = nV := by omega
              have hi4 : ¬ (i2 : Int) < i2 := by omega
              clear hgo hi hB
              obtain ⟨ev, hev⟩ : ∃ ev, ev = ldS bs := ⟨_, rfl⟩
              have HEV : Hid (ev = ldS bs) := hev
              have ce : Calls Tryz.prog 37 #[.agg #[.string (strB bs), .int .i64 (f' : Nat), .int .i64 (t' : Nat)]] wr fun e w' => e = .returned (.int .i64 (ev : Nat)) ∧ Below wr.heap.size wr w' := by
                have h9 := refREnd_any (strB bs) f' t' wr
                rw [strB_size] at h9
                rw [hev]
                unfold ldS
                rw [HRES.out]
                exact h9
              obtain ⟨t0, t1, t2⟩ := cells3p HB.out.rd.blk
              clear hev
              go_wp2_with fail
              refine ce.mono ?_
              clear ce t0 t1 t2
              rintro e W9 ⟨rfl, hb9⟩
              have C9 : Hid (PBx w W9 p bs f' t' V0.heap.size 27 #[.int .i64 0, .int .i64 0, .int .i64 0, .slice none 0 0, .slice none 0 0, .string ⟨#[]⟩, .int .i64 0] #[.int .i64 x0, .int .i64 x1, .int .i64 x2, .slice b5 n5 c5, .slice b6 n6 c6, .string (strB x4), .int .i64 x3]) := HB.out.below hb9
              have HK9 : Hid (wr.heap.size ≤ W9.heap.size ∧ ∀ q, wP.heap.size ≤ q → q < wr.heap.size → q ≠ V0.heap.size → W9.heap[q]? = wr.heap[q]?) := ⟨hb9.size, fun q h1 h2 h3 => hb9.block q h2⟩
              clear hb9
              by_cases he0 : ev = 0
              · have HE0 : Hid (ldS bs = 0) := HEV.out.symm.trans he0
                have hn0 : ((ev : Int) != 0) = false := by rw [he0]; rfl
                have hn1 : (ev : Int) = 0 := by omega
                have hsm := okSn_small (ldS_form HE0.out).1
                rw [HRES.out] at hsm
                simp only at hsm
                obtain ⟨R, hR⟩ : ∃ R, R = mayS ⟨x0, x1, x2, l, m, x4, x3⟩ := ⟨_, rfl⟩
                have HRR : Hid (R = mayS (rSn bs 0 0).1) := by rw [HRES.out]; exact hR
                have hcw := HC.out W9 HK9.out.1 HK9.out.2
                have cr : Calls Tryz.prog 26 #[.agg #[.int .i64 x0, .int .i64 x1, .int .i64 x2, .slice b5 n5 c5, .slice b6 n6 c6, .string (strB x4), .int .i64 x3]] W9 fun e w' => e = .returned (.bool R) ∧ Below W9.heap.size W9 w' := by
                  rw [hR]; exact pfMay_any _ ⟨x0, x1, x2, l, m, x4, x3⟩ b5 b6 n5 c5 n6 c6 W9 hcw.1 hsm hcw.2
                obtain ⟨q0, q1, q2, q3, q4, q5, q6⟩ := cells7 C9.out.X
                clear hsm hR he0 hcw hn1
                go_wp2_with fail
                refine cr.mono ?_
                clear cr q0 q1 q2 q3 q4 q5 q6
                rintro e W10 ⟨rfl, hb10⟩
                have C10 : Hid (PBx w W10 p bs f' t' V0.heap.size 27 #[.int .i64 0, .int .i64 0, .int .i64 0, .slice none 0 0, .slice none 0 0, .string ⟨#[]⟩, .int .i64 0] #[.int .i64 x0, .int .i64 x1, .int .i64 x2, .slice b5 n5 c5, .slice b6 n6 c6, .string (strB x4), .int .i64 x3]) := C9.out.below hb10
                have HK10 : Hid (wr.heap.size ≤ W10.heap.size ∧ ∀ q, wP.heap.size ≤ q → q < wr.heap.size → q ≠ V0.heap.size → W10.heap[q]? = wr.heap[q]?) := ⟨Nat.le_trans HK9.out.1 hb10.size, fun q h1 h2 h3 => (hb10.block q (Nat.lt_of_lt_of_le h2 HK9.out.1)).trans (HK9.out.2 q h1 h2 h3)⟩
                clear hb10
                obtain ⟨q0, q1, q2, q3, q4, q5, q6⟩ := cells7 C10.out.X
                obtain ⟨o0, o1, o2, o3, o4, o5, o6⟩ := cells7 C10.out.Y
                have gf := cfrozen C10.out.Y
                have hrl : w.heap.size < W10.heap.size := heap_lt C10.out.Y
                have hne9 : V0.heap.size ≠ w.heap.size := by have := C10.out.ult; omega
                cases R with
                | false =>
                  obtain ⟨WE, hWE⟩ : ∃ WE, WE = (((((((W10.setCell ⟨w.heap.size, 0, none⟩ (.int .i64 0)).setCell ⟨w.heap.size, 1, none⟩ (.int .i64 0)).setCell ⟨w.heap.size, 2, none⟩ (.int .i64 0)).setCell ⟨w.heap.size, 3, none⟩ (.slice none 0 0)).setCell ⟨w.heap.size, 4, none⟩ (.slice none 0 0)).setCell ⟨w.heap.size, 5, none⟩ (.string ⟨#[]⟩)).setCell ⟨w.heap.size, 6, none⟩ (.int .i64 0)) := ⟨_, rfl⟩
                  have HE : Hid (PBx w WE p bs f' t' V0.heap.size 27 #[.int .i64 0, .int .i64 0, .int .i64 0, .slice none 0 0, .slice none 0 0, .string ⟨#[]⟩, .int .i64 0] #[.int .i64 x0, .int .i64 x1, .int .i64 x2, .slice b5 n5 c5, .slice b6 n6 c6, .string (strB x4), .int .i64 x3]) := by rw [hWE]; exact ((((((C10.out.storeY 0 _).storeY 1 _).storeY 2 _).storeY 3 _).storeY 4 _).storeY 5 _).storeY 6 _
                  obtain ⟨z0, z1, z2, z3, z4, z5, z6⟩ := cells7 HE.out.Y
                  have HWE : Hid (WE = (((((((W10.setCell ⟨w.heap.size, 0, none⟩ (.int .i64 0)).setCell ⟨w.heap.size, 1, none⟩ (.int .i64 0)).setCell ⟨w.heap.size, 2, none⟩ (.int .i64 0)).setCell ⟨w.heap.size, 3, none⟩ (.slice none 0 0)).setCell ⟨w.heap.size, 4, none⟩ (.slice none 0 0)).setCell ⟨w.heap.size, 5, none⟩ (.string ⟨#[]⟩)).setCell ⟨w.heap.size, 6, none⟩ (.int .i64 0))) := hWE
                  rw [hWE] at z0 z1 z2 z3 z4 z5 z6
                  clear hWE
                  go_wp2
                  refine bodyPost_ret (v := .tuple #[.agg #[.int .i64 0, .int .i64 0, .int .i64 0, .slice none 0 0, .slice none 0 0, .string ⟨#[]⟩, .int .i64 0], .int .i64 2]) (by simp [results, Tryz.results15, go_sem, z0, z1, z2, z3, z4, z5, z6]) rfl ?_
                  rw [← HWE.out]
                  exact ⟨.inr (.inl ⟨HE0.out, HRR.out.symm, rfl⟩), pgrown_to_below HE.out.G (by have := HP.out; omega)⟩
                | true =>
                  obtain ⟨WE, hWE⟩ : ∃ WE, WE = (((((((W10.setCell ⟨w.heap.size, 0, none⟩ (.int .i64 x0)).setCell ⟨w.heap.size, 1, none⟩ (.int .i64 x1)).setCell ⟨w.heap.size, 2, none⟩ (.int .i64 x2)).setCell ⟨w.heap.size, 3, none⟩ (.slice b5 n5 c5)).setCell ⟨w.heap.size, 4, none⟩ (.slice b6 n6 c6)).setCell ⟨w.heap.size, 5, none⟩ (.string (strB x4))).setCell ⟨w.heap.size, 6, none⟩ (.int .i64 x3)) := ⟨_, rfl⟩
                  have HE : Hid (PBx w WE p bs f' t' V0.heap.size 27 #[.int .i64 x0, .int .i64 x1, .int .i64 x2, .slice b5 n5 c5, .slice b6 n6 c6, .string (strB x4), .int .i64 x3] #[.int .i64 x0, .int .i64 x1, .int .i64 x2, .slice b5 n5 c5, .slice b6 n6 c6, .string (strB x4), .int .i64 x3]) := by rw [hWE]; exact ((((((C10.out.storeY 0 _).storeY 1 _).storeY 2 _).storeY 3 _).storeY 4 _).storeY 5 _).storeY 6 _
                  obtain ⟨z0, z1, z2, z3, z4, z5, z6⟩ := cells7 HE.out.Y
                  have HWE : Hid (WE = (((((((W10.setCell ⟨w.heap.size, 0, none⟩ (.int .i64 x0)).setCell ⟨w.heap.size, 1, none⟩ (.int .i64 x1)).setCell ⟨w.heap.size, 2, none⟩ (.int .i64 x2)).setCell ⟨w.heap.size, 3, none⟩ (.slice b5 n5 c5)).setCell ⟨w.heap.size, 4, none⟩ (.slice b6 n6 c6)).setCell ⟨w.heap.size, 5, none⟩ (.string (strB x4))).setCell ⟨w.heap.size, 6, none⟩ (.int .i64 x3))) := hWE
                  have HCE : Hid (SnIn (fun b => w.heap.size ≤ b) WE ⟨x0, x1, x2, l, m, x4, x3⟩ (.slice b5 n5 c5) (.slice b6 n6 c6)) := (HC.out WE (by rw [hWE]; have := HK10.out.1; simp; omega) fun q h1 h2 h3 => by
                    have hne : q ≠ w.heap.size := by have := HP.out; have := HPS.out; omega
                    rw [hWE, heap_setCell_other _ _ _ _ hne, heap_setCell_other _ _ _ _ hne, heap_setCell_other _ _ _ _ hne, heap_setCell_other _ _ _ _ hne, heap_setCell_other _ _ _ _ hne, heap_setCell_other _ _ _ _ hne, heap_setCell_other _ _ _ _ hne]
                    exact HK10.out.2 q h1 h2 h3).1
                  rw [hWE] at z0 z1 z2 z3 z4 z5 z6
                  clear hWE
                  go_wp2
                  refine bodyPost_ret (v := .tuple #[.agg #[.int .i64 x0, .int .i64 x1, .int .i64 x2, .slice b5 n5 c5, .slice b6 n6 c6, .string (strB x4), .int .i64 x3], .int .i64 0]) (by simp [results, Tryz.results15, go_sem, z0, z1, z2, z3, z4, z5, z6]) rfl ?_
                  rw [← HWE.out]
                  refine ⟨.inr (.inr ⟨HE0.out, HRR.out.symm, b5, n5, c5, b6, n6, c6, by rw [HRES.out], ?_⟩), pgrown_to_below HE.out.G (by have := HP.out; omega)⟩
                  rw [HRES.out]
                  exact HCE.out
              · have HNE : Hid (ldS bs ≠ 0) := fun h => he0 (HEV.out.trans h)
                have hn0 : ((ev : Int) != 0) = true := by rw [bne_iff_ne]; omega
                have hn1 : ¬ (ev : Int) = 0 := by omega
                obtain ⟨o0, o1, o2, o3, o4, o5, o6⟩ := cells7 C9.out.Y
                have gf := cfrozen C9.out.Y
                have hrl : w.heap.size < W9.heap.size := heap_lt C9.out.Y
                obtain ⟨WE, hWE⟩ : ∃ WE, WE = (((((((W9.setCell ⟨w.heap.size, 0, none⟩ (.int .i64 0)).setCell ⟨w.heap.size, 1, none⟩ (.int .i64 0)).setCell ⟨w.heap.size, 2, none⟩ (.int .i64 0)).setCell ⟨w.heap.size, 3, none⟩ (.slice none 0 0)).setCell ⟨w.heap.size, 4, none⟩ (.slice none 0 0)).setCell ⟨w.heap.size, 5, none⟩ (.string ⟨#[]⟩)).setCell ⟨w.heap.size, 6, none⟩ (.int .i64 0)) := ⟨_, rfl⟩
                have HE : Hid (PBx w WE p bs f' t' V0.heap.size 27 #[.int .i64 0, .int .i64 0, .int .i64 0, .slice none 0 0, .slice none 0 0, .string ⟨#[]⟩, .int .i64 0] #[.int .i64 x0, .int .i64 x1, .int .i64 x2, .slice b5 n5 c5, .slice b6 n6 c6, .string (strB x4), .int .i64 x3]) := by rw [hWE]; exact ((((((C9.out.storeY 0 _).storeY 1 _).storeY 2 _).storeY 3 _).storeY 4 _).storeY 5 _).storeY 6 _
                obtain ⟨z0, z1, z2, z3, z4, z5, z6⟩ := cells7 HE.out.Y
                have HWE : Hid (WE = (((((((W9.setCell ⟨w.heap.size, 0, none⟩ (.int .i64 0)).setCell ⟨w.heap.size, 1, none⟩ (.int .i64 0)).setCell ⟨w.heap.size, 2, none⟩ (.int .i64 0)).setCell ⟨w.heap.size, 3, none⟩ (.slice none 0 0)).setCell ⟨w.heap.size, 4, none⟩ (.slice none 0 0)).setCell ⟨w.heap.size, 5, none⟩ (.string ⟨#[]⟩)).setCell ⟨w.heap.size, 6, none⟩ (.int .i64 0))) := hWE
                rw [hWE] at z0 z1 z2 z3 z4 z5 z6
                clear hWE he0
                go_wp2
                refine bodyPost_ret (v := .tuple #[.agg #[.int .i64 0, .int .i64 0, .int .i64 0, .slice none 0 0, .slice none 0 0, .string ⟨#[]⟩, .int .i64 0], .int .i64 (ev : Int)]) (by simp [results, Tryz.results15, go_sem, z0, z1, z2, z3, z4, z5, z6]) rfl ?_
                rw [← HWE.out]
                exact ⟨.inl ⟨HNE.out, by rw [HEV.out]⟩, pgrown_to_below HE.out.G (by have := HP.out; omega)⟩
end Go.Proofs.YtbdgniiafdjmiaaGreatDoor
