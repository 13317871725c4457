/- code: the code of bytes. -/
import Derived.Test.YtechkkphbajmoaaGreatDoorME
import Derived.Test.YtechkkphbajmoaaGreatDoorMC
namespace Go.Proofs.YtechkkphbajmoaaGreatDoor
open Go.RowKit Go.Shelf

def rCode (bs : List UInt8) : Cd × Nat × Nat :=
  match rAll bs (rT bs) 0 0 with
  | (x0, a1, r1) =>
  match rAll bs (rSh bs) a1 r1 with
  | (x1, a2, r2) =>
  match rAll bs (rUn bs) a2 r2 with
  | (x2, a3, r3) =>
  match rI bs a3 r3 with
  | (x3, a4, r4) =>
  ((⟨x0, x1, x2, x3⟩ : Cd), a4, r4)
def ldE (bs : List UInt8) : Nat := endR bs.length (rCode bs).2.1 (rCode bs).2.2
/-- What Load answers. -/
def LoadRet (N : Nat) (bs : List UInt8) (e : Ending) (w' : World) : Prop :=
  (ldE bs ≠ 0 ∧ e = .returned (.tuple #[.agg #[.slice none 0 0, .slice none 0 0, .slice none 0 0, .int .i64 0], .int .i64 (ldE bs : Int)])) ∨ (ldE bs = 0 ∧ rightC (rCode bs).1 = false ∧ e = .returned (.tuple #[.agg #[.slice none 0 0, .slice none 0 0, .slice none 0 0, .int .i64 0], .int .i64 2])) ∨
    (ldE bs = 0 ∧ rightC (rCode bs).1 = true ∧ ∃ xs ns cs xh nh ch xu nu cu, e = .returned (.tuple #[cdV (.slice xs ns cs) (.slice xh nh ch) (.slice xu nu cu) (rCode bs).1.main, .int .i64 0]) ∧ CodeIn (fun b => N ≤ b) w' (rCode bs).1 (.slice xs ns cs) (.slice xh nh ch) (.slice xu nu cu))

theorem getT_most (l : List UInt8) : (getT l 255).1.length ≤ 255 := by
  have h := getC_most l 255 (by decide)
  have h2 := getC_nonneg l 255
  unfold getT
  split
  · simp
  · split
    · simp
    · simp only [List.length_take]
      omega
theorem rT_len (bs : List UInt8) (a r : Nat) : (rT bs a r).1.length ≤ 255 := by
  unfold rT stepR
  split
  · simp
  · split
    · simp
    · exact getT_most _
theorem loopR_mem {α : Type} (one : Nat → Nat → α × Nat × Nat) : ∀ (n a r : Nat) (x : α), x ∈ (loopR one n a r).1 → ∃ a' r', x = (one a' r').1
  | 0, _, _, x, h => by cases h
  | n + 1, a, r, x, h => by
    rw [loopR] at h
    split at h
    · cases h
    · rcases List.mem_cons.1 h with rfl | h
      · exact ⟨a, r, rfl⟩
      · exact loopR_mem one n _ _ x h
theorem loopR_len {α : Type} (one : Nat → Nat → α × Nat × Nat) : ∀ (n a r : Nat), (loopR one n a r).1.length ≤ n
  | 0, _, _ => by simp [loopR]
  | n + 1, a, r => by
    rw [loopR]
    split
    · simp
    · simp only [List.length_cons]
      have := loopR_len one n (one a r).2.1 (one a r).2.2
      omega
theorem rAll_mem {α : Type} (bs : List UInt8) (one : Nat → Nat → α × Nat × Nat) (a r : Nat) (x : α) (h : x ∈ (rAll bs one a r).1) : ∃ a' r', x = (one a' r').1 := loopR_mem one _ _ _ x h
theorem rAll_len {α : Type} (bs : List UInt8) (one : Nat → Nat → α × Nat × Nat) (a r : Nat) : (rAll bs one a r).1.length ≤ 1048576 := by
  have h1 := loopR_len one (rC bs a r).1.toNat (rC bs a r).2.1 (rC bs a r).2.2
  have h2 := rC_bound bs a r
  show (loopR _ _ _ _).1.length ≤ _
  omega
theorem rSh_parts (bs : List UInt8) (a r : Nat) : ∃ a' r', (rSh bs a r).1.name = (rT bs a r).1 ∧ (rSh bs a r).1.fields = (rAll bs (rT bs) a' r').1 := by
  obtain ⟨x0, a1, r1, hx0⟩ : ∃ x ya yr, rT bs a r = (x, ya, yr) := ⟨_, _, _, rfl⟩
  obtain ⟨x1, a2, r2, hx1⟩ : ∃ x ya yr, rAll bs (rT bs) a1 r1 = (x, ya, yr) := ⟨_, _, _, rfl⟩
  have e : rSh bs a r = ((⟨x0, x1⟩ : Sh), a2, r2) := by simp only [rSh, hx0, hx1]
  exact ⟨a1, r1, by rw [e, hx0], by rw [e, hx1]⟩
theorem rVar_name (bs : List UInt8) (a r : Nat) : (rVar bs a r).1.name = (rT bs a r).1 := by
  obtain ⟨x0, a1, r1, hx0⟩ : ∃ x ya yr, rT bs a r = (x, ya, yr) := ⟨_, _, _, rfl⟩
  obtain ⟨x1, a2, r2, hx1⟩ : ∃ x ya yr, rI bs a1 r1 = (x, ya, yr) := ⟨_, _, _, rfl⟩
  obtain ⟨x2, a3, r3, hx2⟩ : ∃ x ya yr, rI bs a2 r2 = (x, ya, yr) := ⟨_, _, _, rfl⟩
  obtain ⟨x3, a4, r4, hx3⟩ : ∃ x ya yr, rI bs a3 r3 = (x, ya, yr) := ⟨_, _, _, rfl⟩
  have e : rVar bs a r = ((⟨x0, x1, x2, x3⟩ : Vr), a4, r4) := by simp only [rVar, hx0, hx1, hx2, hx3]
  rw [e, hx0]
theorem rUn_parts (bs : List UInt8) (a r : Nat) : ∃ a' r', (rUn bs a r).1.name = (rT bs a r).1 ∧ (rUn bs a r).1.vars = (rAll bs (rVar bs) a' r').1 := by
  obtain ⟨x0, a1, r1, hx0⟩ : ∃ x ya yr, rT bs a r = (x, ya, yr) := ⟨_, _, _, rfl⟩
  obtain ⟨x1, a2, r2, hx1⟩ : ∃ x ya yr, rI bs a1 r1 = (x, ya, yr) := ⟨_, _, _, rfl⟩
  obtain ⟨x2, a3, r3, hx2⟩ : ∃ x ya yr, rI bs a2 r2 = (x, ya, yr) := ⟨_, _, _, rfl⟩
  obtain ⟨x3, a4, r4, hx3⟩ : ∃ x ya yr, rI bs a3 r3 = (x, ya, yr) := ⟨_, _, _, rfl⟩
  obtain ⟨x4, a5, r5, hx4⟩ : ∃ x ya yr, rB bs a4 r4 = (x, ya, yr) := ⟨_, _, _, rfl⟩
  obtain ⟨x5, a6, r6, hx5⟩ : ∃ x ya yr, rAll bs (rIns bs) a5 r5 = (x, ya, yr) := ⟨_, _, _, rfl⟩
  obtain ⟨x6, a7, r7, hx6⟩ : ∃ x ya yr, rAll bs (rVar bs) a6 r6 = (x, ya, yr) := ⟨_, _, _, rfl⟩
  have e : rUn bs a r = ((⟨x0, x1, x2, x3, x4, x5, x6⟩ : Un), a7, r7) := by simp only [rUn, hx0, hx1, hx2, hx3, hx4, hx5, hx6]
  exact ⟨a6, r6, by rw [e, hx0], by rw [e, hx6]⟩
theorem rCode_parts (bs : List UInt8) : ∃ a1 r1 a2 r2 a3 r3, (rCode bs).1.strs = (rAll bs (rT bs) 0 0).1 ∧ (rCode bs).1.shapes = (rAll bs (rSh bs) a1 r1).1 ∧ (rCode bs).1.units = (rAll bs (rUn bs) a2 r2).1 ∧ (rCode bs).1.main = (rI bs a3 r3).1 := by
  obtain ⟨x0, a1, r1, hx0⟩ : ∃ x ya yr, rAll bs (rT bs) 0 0 = (x, ya, yr) := ⟨_, _, _, rfl⟩
  obtain ⟨x1, a2, r2, hx1⟩ : ∃ x ya yr, rAll bs (rSh bs) a1 r1 = (x, ya, yr) := ⟨_, _, _, rfl⟩
  obtain ⟨x2, a3, r3, hx2⟩ : ∃ x ya yr, rAll bs (rUn bs) a2 r2 = (x, ya, yr) := ⟨_, _, _, rfl⟩
  obtain ⟨x3, a4, r4, hx3⟩ : ∃ x ya yr, rI bs a3 r3 = (x, ya, yr) := ⟨_, _, _, rfl⟩
  have e : rCode bs = ((⟨x0, x1, x2, x3⟩ : Cd), a4, r4) := by simp only [rCode, hx0, hx1, hx2, hx3]
  exact ⟨a1, r1, a2, r2, a3, r3, by rw [e, hx0], by rw [e, hx1], by rw [e, hx2], by rw [e, hx3]⟩
theorem rCode_small (bs : List UInt8) : SmallC (rCode bs).1 := by
  obtain ⟨a1, r1, a2, r2, a3, r3, e0, e1, e2, -⟩ := rCode_parts bs
  have hsh : ∀ x ∈ (rCode bs).1.shapes, x.name.length ≤ 1048576 ∧ ∀ f ∈ x.fields, f.length ≤ 1048576 := fun x hx => by
    rw [e1] at hx
    obtain ⟨a, r, rfl⟩ := rAll_mem bs _ _ _ x hx
    obtain ⟨a', r', h1, h2⟩ := rSh_parts bs a r
    refine ⟨by rw [h1]; exact Nat.le_trans (rT_len bs a r) (by decide), fun f hf => ?_⟩
    rw [h2] at hf
    obtain ⟨a', r', rfl⟩ := rAll_mem bs _ _ _ f hf
    exact Nat.le_trans (rT_len bs a' r') (by decide)
  have hun : ∀ x ∈ (rCode bs).1.units, x.name.length ≤ 1048576 ∧ ∀ f ∈ x.vars, f.name.length ≤ 1048576 := fun x hx => by
    rw [e2] at hx
    obtain ⟨a, r, rfl⟩ := rAll_mem bs _ _ _ x hx
    obtain ⟨a', r', h1, h2⟩ := rUn_parts bs a r
    refine ⟨by rw [h1]; exact Nat.le_trans (rT_len bs a r) (by decide), fun f hf => ?_⟩
    rw [h2] at hf
    obtain ⟨a', r', rfl⟩ := rAll_mem bs _ _ _ f hf
    rw [rVar_name]
    exact Nat.le_trans (rT_len bs a' r') (by decide)
  exact ⟨fun s hs => by
    rw [e0] at hs
    obtain ⟨a, r, rfl⟩ := rAll_mem bs _ _ _ s hs
    exact Nat.le_trans (rT_len bs a r) (by decide), by rw [e0]; exact rAll_len _ _ _ _, by rw [e1]; exact rAll_len _ _ _ _, by rw [e2]; exact rAll_len _ _ _ _, fun x hx => (hsh x hx).1, fun x hx => (hsh x hx).2, fun x hx => (hun x hx).1, fun x hx => (hun x hx).2⟩

theorem CodeIn.wide {S S' : Nat → Prop} {w : World} {c : Cd} {vs vh vu : Value} (h : CodeIn S w c vs vh vu) (hS : ∀ q, S q → S' q) : CodeIn S' w c vs vh vu :=
  ⟨rowIn.wide h.strs (fun q _ hq => hS q hq) fun _ _ _ h => h, rowIn.wide h.shapes (fun q _ hq => hS q hq) fun b o x h => ⟨h.1, by obtain ⟨u, e, h2⟩ := h.2; exact ⟨u, e, rowIn.wide h2 (fun q _ hq => hS q hq) fun _ _ _ h => h⟩⟩,
    rowIn.wide h.units (fun q _ hq => hS q hq) fun b o x h => by
      obtain ⟨e0, e1, e2, e3, e4, ⟨u, e5, h5⟩, u2, e6, h6⟩ := h
      exact ⟨e0, e1, e2, e3, e4, ⟨u, e5, rowIn.wide h5 (fun q _ hq => hS q hq) fun _ _ _ h => h⟩, u2, e6, rowIn.wide h6 (fun q _ hq => hS q hq) fun _ _ _ h => h⟩⟩
/-- The code as it grows in a block of its own, beside a reader that was made behind it. -/
structure LdBox (w W : World) (p : Nat) (base : Option Addr) (cap : Nat) (bs : List UInt8) (a r : Nat) (zer cur : Array Value) : Prop where
  rd : ReaderAt W p base cap bs a r
  X : W.heap[w.heap.size + 1]? = some (.cells cur 26 (0, 0))
  Y : W.heap[w.heap.size]? = some (.cells zer 26 (0, 0))
  G : Below w.heap.size w W
  plt : w.heap.size + 2 ≤ p ∧ p < W.heap.size
  blt : ∀ x, base = some x → w.heap.size + 2 ≤ x.block ∧ x.block < W.heap.size
theorem LdBox.call {w W W1 : World} {p : Nat} {base : Option Addr} {cap : Nat} {bs : List UInt8} {a r a1 r1 : Nat} {zer cur : Array Value} (h : LdBox w W p base cap bs a r zer cur) (hr : ReaderAt W1 p base cap bs a1 r1) (hg : W.grownBy W1 (some p)) : LdBox w W1 p base cap bs a1 r1 zer cur := by
  have hplt := h.plt
  have hx := heap_lt h.X
  have hs := hg.size
  refine ⟨hr, (hg.block _ hx (by simp; omega)).trans h.X, (hg.block _ (by omega) (by simp; omega)).trans h.Y, ⟨hg.os.trans h.G.os, hg.tape.trans h.G.tape, hg.output.trans h.G.output, Nat.le_trans h.G.size hg.size, fun k hk => (hg.block k (by omega) (by simp; omega)).trans (h.G.block k hk)⟩, by omega, fun x e => by have := h.blt x e; omega⟩
theorem LdBox.store {w W : World} {p : Nat} {base : Option Addr} {cap : Nat} {bs : List UInt8} {a r : Nat} {zer cur : Array Value} (h : LdBox w W p base cap bs a r zer cur) (j : Nat) (v : Value) : LdBox w (W.setCell ⟨w.heap.size + 1, j, none⟩ v) p base cap bs a r zer (cur.setIfInBounds j v) := by
  have hplt := h.plt
  have hk : ∀ k, k ≠ w.heap.size + 1 → (W.setCell ⟨w.heap.size + 1, j, none⟩ v).heap[k]? = W.heap[k]? := fun k hk => Below.heap_setCell _ _ _ _ (by simpa using hk)
  refine ⟨h.rd.kept fun k _ hc => hk k ?_, csetCell_block v h.X, (hk _ (by omega)).trans h.Y, h.G.setCell (by simp) _, by simpa using h.plt, fun x e => by simpa using h.blt x e⟩
  rcases hc with rfl | ⟨x, e, rfl⟩
  · omega
  · have := h.blt x e; omega
theorem LdBox.storeY {w W : World} {p : Nat} {base : Option Addr} {cap : Nat} {bs : List UInt8} {a r : Nat} {zer cur : Array Value} (h : LdBox w W p base cap bs a r zer cur) (j : Nat) (v : Value) : LdBox w (W.setCell ⟨w.heap.size, j, none⟩ v) p base cap bs a r (zer.setIfInBounds j v) cur := by
  have hplt := h.plt
  have hk : ∀ k, k ≠ w.heap.size → (W.setCell ⟨w.heap.size, j, none⟩ v).heap[k]? = W.heap[k]? := fun k hk => Below.heap_setCell _ _ _ _ (by simpa using hk)
  refine ⟨h.rd.kept fun k _ hc => hk k ?_, (hk _ (by omega)).trans h.X, csetCell_block v h.Y, h.G.setCell (by simp) _, by simpa using h.plt, fun x e => by simpa using h.blt x e⟩
  rcases hc with rfl | ⟨x, e, rfl⟩
  · omega
  · have := h.blt x e; omega
theorem LdBox.new {w W W1 : World} {p : Nat} {base : Option Addr} {cap : Nat} {bs : List UInt8} {a r : Nat} {zer cur : Array Value} (h : LdBox w W p base cap bs a r zer cur) (hb : Below W.heap.size W W1) : LdBox w W1 p base cap bs a r zer cur := by
  have hplt := h.plt
  have hs := hb.size
  exact ⟨h.rd.below hb (Nat.le_refl _), (hb.block _ (heap_lt h.X)).trans h.X, (hb.block _ (heap_lt h.Y)).trans h.Y, h.G.trans (hb.mono h.G.size), by omega, fun x e => by have := h.blt x e; omega⟩

set_option maxRecDepth 100000 in
set_option maxHeartbeats 8000000 in
theorem cLoad_any (v : Value) (bs : List UInt8) (w : World) (hv : bytesAt w v bs) (hb : bs.length ≤ 140737488355328) (ht : TabsP w) (hot : OpT w) :
    Calls Tryz.prog 18 #[v] w fun e w' => LoadRet w.heap.size bs e w' ∧ Below w.heap.size w w' := by
  obtain ⟨w0, hw0, hb0, HZ0, h0, h1⟩ := box2 w (.cells #[.slice none 0 0, .slice none 0 0, .slice none 0 0, .int .i64 0] 26) (.cells #[.slice none 0 0, .slice none 0 0, .slice none 0 0, .int .i64 0] 26)
  have HW0 : Hid (w0 = (w.alloc (.cells #[.slice none 0 0, .slice none 0 0, .slice none 0 0, .int .i64 0] 26)).alloc (.cells #[.slice none 0 0, .slice none 0 0, .slice none 0 0, .int .i64 0] 26)) := hw0
  have HB0 : Hid (Below w.heap.size w w0) := hb0
  have HY0 : Hid (w0.heap[w.heap.size]? = some (.cells #[.slice none 0 0, .slice none 0 0, .slice none 0 0, .int .i64 0] 26 (0, 0)) ∧ w0.heap[w.heap.size + 1]? = some (.cells #[.slice none 0 0, .slice none 0 0, .slice none 0 0, .int .i64 0] 26 (0, 0))) := ⟨h0, h1⟩
  have cn := newReader_any v bs w0 (bytesAt_below hv hb0 (Nat.le_refl _)) hb
  have HT : Hid (∀ W, Below w.heap.size w W → TabsP W ∧ OpT W) := fun W hW => ⟨ht.below hW (Nat.le_refl _), hot.below hW (Nat.le_refl _)⟩
  obtain ⟨vb, vc, rfl, -⟩ := hv
  obtain ⟨x0, a1, r1, hx0⟩ : ∃ x ya yr, rAll bs (rT bs) 0 0 = (x, ya, yr) := ⟨_, _, _, rfl⟩
  obtain ⟨x1, a2, r2, hx1⟩ : ∃ x ya yr, rAll bs (rSh bs) a1 r1 = (x, ya, yr) := ⟨_, _, _, rfl⟩
  obtain ⟨x2, a3, r3, hx2⟩ : ∃ x ya yr, rAll bs (rUn bs) a2 r2 = (x, ya, yr) := ⟨_, _, _, rfl⟩
  obtain ⟨x3, a4, r4, hx3⟩ : ∃ x ya yr, rI bs a3 r3 = (x, ya, yr) := ⟨_, _, _, rfl⟩
  have HRES : Hid (rCode bs = ((⟨x0, x1, x2, x3⟩ : Cd), a4, r4)) := by
    show _ = _
    simp only [rCode, hx0, hx1, hx2, hx3]
  have HX0 : Hid (rAll bs (rT bs) 0 0 = (x0, a1, r1)) := hx0
  have HX1 : Hid (rAll bs (rSh bs) a1 r1 = (x1, a2, r2)) := hx1
  have HX2 : Hid (rAll bs (rUn bs) a2 r2 = (x2, a3, r3)) := hx2
  have HX3 : Hid (rI bs a3 r3 = (x3, a4, r4)) := hx3
  have HSM : Hid (SmallC ⟨x0, x1, x2, x3⟩) := by have := rCode_small bs; rw [HRES.out] at this; exact this
  clear hw0 hb0 h0 h1 ht hot hx0 hx1 hx2 hx3 hb
  go_enter Tryz.func18, Tryz.ntmps18
  go_wp2_with fail
  rw [← HW0.out]
  refine cn.mono ?_
  clear cn
  rintro e W0 ⟨p, base, cap, rfl, hr0, hp0, hp1, hbl0, hbW⟩
  have B0 : Hid (LdBox w W0 p base cap bs 0 0 #[.slice none 0 0, .slice none 0 0, .slice none 0 0, .int .i64 0] #[.slice none 0 0, .slice none 0 0, .slice none 0 0, .int .i64 0]) := ⟨hr0, (hbW.block _ (by have := HZ0.out; omega)).trans HY0.out.2, (hbW.block _ (by have := HZ0.out; omega)).trans HY0.out.1, HB0.out.trans (hbW.mono HB0.out.size), ⟨by have := HZ0.out; omega, hp1⟩, fun x e => ⟨by have := (hbl0 x e).1; have := HZ0.out; omega, (hbl0 x e).2⟩⟩
  clear hr0 hp0 hp1 hbl0 hbW
  have c := cReadAllStr_any p base cap bs (rT bs) W0 0 0 B0.out.rd B0.out.plt.2 (fun x e => (B0.out.blt x e).2) (fun W a hs hW => (by have _ := hs; exact cReadText_any p base cap bs W a 0 hW))
  rw [HX0.out] at c
  simp only at c
  go_wp2_with fail
  refine c.mono ?_
  clear c
  rintro e V0 ⟨v0, rfl, css, hJ⟩
  obtain ⟨b0, n0, c0, rfl⟩ : ∃ b n c, v0 = .slice b n c := by
    rcases hJ.row.2 with ⟨h, _⟩ | ⟨g, cp, cur, h, _⟩
    · exact ⟨_, _, _, h⟩
    · exact ⟨_, _, _, h⟩
  have HIN0 : Hid (strsIn (fun b => W0.heap.size ≤ b ∧ b ≠ p) V0 (.slice b0 n0 c0) x0) := hJ.rowIn lawStr (fun x cs b o hco hc => by rw [show cs = [.string (strB x)] from hco] at hc; exact hc 0 (by simp))
  have HGV0 : Hid (W0.grownBy V0 (some p)) := hJ.kept
  have A0 : Hid (LdBox w V0 p base cap bs a1 r1 #[.slice none 0 0, .slice none 0 0, .slice none 0 0, .int .i64 0] #[.slice none 0 0, .slice none 0 0, .slice none 0 0, .int .i64 0]) := B0.out.call hJ.rd hJ.kept
  obtain ⟨W1, hW⟩ : ∃ W, W = V0.setCell ⟨w.heap.size + 1, 0, none⟩ (.slice b0 n0 c0) := ⟨_, rfl⟩
  have HW1 : Hid (W1 = V0.setCell ⟨w.heap.size + 1, 0, none⟩ (.slice b0 n0 c0)) := hW
  have B1 : Hid (LdBox w W1 p base cap bs a1 r1 #[.slice none 0 0, .slice none 0 0, .slice none 0 0, .int .i64 0] #[.slice b0 n0 c0, .slice none 0 0, .slice none 0 0, .int .i64 0]) := by rw [hW]; exact A0.out.store 0 _
  obtain ⟨q0, -, -, -⟩ := bcells4 A0.out.X
  have fz := cfrozen A0.out.X 0
  clear hJ hW
  have c := cReadAllShape_any p base cap bs (rSh bs) W1 a1 r1 B1.out.rd B1.out.plt.2 (fun x e => (B1.out.blt x e).2) (fun W a hs hW => (cReadShape_any p base cap bs W a 0 hW (Nat.lt_of_lt_of_le B1.out.plt.2 hs) (fun x e => Nat.lt_of_lt_of_le (B1.out.blt x e).2 hs)))
  rw [HX1.out] at c
  simp only at c
  go_wp2_with fail
  rw [← HW1.out]
  refine c.mono ?_
  clear c
  rintro e V1 ⟨v1, rfl, css, hJ⟩
  obtain ⟨b1, n1, c1, rfl⟩ : ∃ b n c, v1 = .slice b n c := by
    rcases hJ.row.2 with ⟨h, _⟩ | ⟨g, cp, cur, h, _⟩
    · exact ⟨_, _, _, h⟩
    · exact ⟨_, _, _, h⟩
  have HIN1 : Hid (shapesIn (fun b => W1.heap.size ≤ b ∧ b ≠ p) V1 (.slice b1 n1 c1) x1) := hJ.rowIn lawSh (fun x cs b o hco hc => by obtain ⟨b5, n5, c5, rfl, h5⟩ := hco; exact ⟨hc 0 (by simp), _, hc 1 (by simp), h5⟩)
  have HGV1 : Hid (W1.grownBy V1 (some p)) := hJ.kept
  have A1 : Hid (LdBox w V1 p base cap bs a2 r2 #[.slice none 0 0, .slice none 0 0, .slice none 0 0, .int .i64 0] #[.slice b0 n0 c0, .slice none 0 0, .slice none 0 0, .int .i64 0]) := B1.out.call hJ.rd hJ.kept
  obtain ⟨W2, hW⟩ : ∃ W, W = V1.setCell ⟨w.heap.size + 1, 1, none⟩ (.slice b1 n1 c1) := ⟨_, rfl⟩
  have HW2 : Hid (W2 = V1.setCell ⟨w.heap.size + 1, 1, none⟩ (.slice b1 n1 c1)) := hW
  have B2 : Hid (LdBox w W2 p base cap bs a2 r2 #[.slice none 0 0, .slice none 0 0, .slice none 0 0, .int .i64 0] #[.slice b0 n0 c0, .slice b1 n1 c1, .slice none 0 0, .int .i64 0]) := by rw [hW]; exact A1.out.store 1 _
  obtain ⟨-, q1, -, -⟩ := bcells4 A1.out.X
  have fz := cfrozen A1.out.X 1
  clear hJ hW
  have c := cReadAllUnit_any p base cap bs (rUn bs) W2 a2 r2 B2.out.rd B2.out.plt.2 (fun x e => (B2.out.blt x e).2) (fun W a hs hW => (cReadUnit_any p base cap bs W a 0 hW (Nat.lt_of_lt_of_le B2.out.plt.2 hs) (fun x e => Nat.lt_of_lt_of_le (B2.out.blt x e).2 hs)))
  rw [HX2.out] at c
  simp only at c
  go_wp2_with fail
  rw [← HW2.out]
  refine c.mono ?_
  clear c
  rintro e V2 ⟨v2, rfl, css, hJ⟩
  obtain ⟨b2, n2, c2, rfl⟩ : ∃ b n c, v2 = .slice b n c := by
    rcases hJ.row.2 with ⟨h, _⟩ | ⟨g, cp, cur, h, _⟩
    · exact ⟨_, _, _, h⟩
    · exact ⟨_, _, _, h⟩
  have HIN2 : Hid (unitsIn (fun b => W2.heap.size ≤ b ∧ b ≠ p) V2 (.slice b2 n2 c2) x2) := hJ.rowIn lawUn (fun x cs b o hco hc => by obtain ⟨b5, n5, c5, b6, n6, c6, rfl, h5, h6⟩ := hco; exact ⟨hc 0 (by simp), hc 1 (by simp), hc 2 (by simp), hc 3 (by simp), hc 4 (by simp), ⟨_, hc 5 (by simp), h5⟩, _, hc 6 (by simp), h6⟩)
  have HGV2 : Hid (W2.grownBy V2 (some p)) := hJ.kept
  have A2 : Hid (LdBox w V2 p base cap bs a3 r3 #[.slice none 0 0, .slice none 0 0, .slice none 0 0, .int .i64 0] #[.slice b0 n0 c0, .slice b1 n1 c1, .slice none 0 0, .int .i64 0]) := B2.out.call hJ.rd hJ.kept
  obtain ⟨W3, hW⟩ : ∃ W, W = V2.setCell ⟨w.heap.size + 1, 2, none⟩ (.slice b2 n2 c2) := ⟨_, rfl⟩
  have HW3 : Hid (W3 = V2.setCell ⟨w.heap.size + 1, 2, none⟩ (.slice b2 n2 c2)) := hW
  have B3 : Hid (LdBox w W3 p base cap bs a3 r3 #[.slice none 0 0, .slice none 0 0, .slice none 0 0, .int .i64 0] #[.slice b0 n0 c0, .slice b1 n1 c1, .slice b2 n2 c2, .int .i64 0]) := by rw [hW]; exact A2.out.store 2 _
  obtain ⟨-, -, q2, -⟩ := bcells4 A2.out.X
  have fz := cfrozen A2.out.X 2
  clear hJ hW
  have c := int_any B3.out.rd
  rw [show stepR 0 a3 r3 (getI (bs.drop a3)) = (x3, a4, r4) from HX3.out] at c
  simp only at c
  go_wp2_with fail
  rw [← HW3.out]
  refine c.mono ?_
  clear c
  rintro e V3 ⟨rfl, hr1, hg1⟩
  have HGV3 : Hid (W3.grownBy V3 (some p)) := hg1
  have A3 : Hid (LdBox w V3 p base cap bs a4 r4 #[.slice none 0 0, .slice none 0 0, .slice none 0 0, .int .i64 0] #[.slice b0 n0 c0, .slice b1 n1 c1, .slice b2 n2 c2, .int .i64 0]) := B3.out.call hr1 hg1
  obtain ⟨W4, hW⟩ : ∃ W, W = V3.setCell ⟨w.heap.size + 1, 3, none⟩ (.int .i64 x3) := ⟨_, rfl⟩
  have HW4 : Hid (W4 = V3.setCell ⟨w.heap.size + 1, 3, none⟩ (.int .i64 x3)) := hW
  have B4 : Hid (LdBox w W4 p base cap bs a4 r4 #[.slice none 0 0, .slice none 0 0, .slice none 0 0, .int .i64 0] #[.slice b0 n0 c0, .slice b1 n1 c1, .slice b2 n2 c2, .int .i64 x3]) := by rw [hW]; exact A3.out.store 3 _
  obtain ⟨-, -, -, q3⟩ := bcells4 A3.out.X
  have fz := cfrozen A3.out.X 3
  have HCD : Hid (CodeIn (fun b => w.heap.size + 2 ≤ b ∧ b ≠ p) W4 ⟨x0, x1, x2, x3⟩ (.slice b0 n0 c0) (.slice b1 n1 c1) (.slice b2 n2 c2)) := by
    have s0 := heap_lt B0.out.X
    have s1 := heap_lt B1.out.X
    have s2 := heap_lt B2.out.X
    have k1 : ∀ q, w.heap.size + 2 ≤ q ∧ q ≠ p → W1.heap[q]? = V0.heap[q]? := fun q hq => by rw [HW1.out, Below.heap_setCell _ _ _ _ (by simp; omega)]
    have k2 : ∀ q, w.heap.size + 2 ≤ q ∧ q ≠ p → W2.heap[q]? = V1.heap[q]? := fun q hq => by rw [HW2.out, Below.heap_setCell _ _ _ _ (by simp; omega)]
    have k3 : ∀ q, w.heap.size + 2 ≤ q ∧ q ≠ p → W3.heap[q]? = V2.heap[q]? := fun q hq => by rw [HW3.out, Below.heap_setCell _ _ _ _ (by simp; omega)]
    have k4 : ∀ q, w.heap.size + 2 ≤ q ∧ q ≠ p → W4.heap[q]? = V3.heap[q]? := fun q hq => by rw [hW, Below.heap_setCell _ _ _ _ (by simp; omega)]
    have g1 : ∀ q, w.heap.size + 2 ≤ q ∧ q ≠ p → q < W1.heap.size → V1.heap[q]? = W1.heap[q]? := fun q hq hl => HGV1.out.block q hl (by simp; exact hq.2)
    have g2 : ∀ q, w.heap.size + 2 ≤ q ∧ q ≠ p → q < W2.heap.size → V2.heap[q]? = W2.heap[q]? := fun q hq hl => HGV2.out.block q hl (by simp; exact hq.2)
    have g3 : ∀ q, w.heap.size + 2 ≤ q ∧ q ≠ p → q < W3.heap.size → V3.heap[q]? = W3.heap[q]? := fun q hq hl => HGV3.out.block q hl (by simp; exact hq.2)
    have z1 : W1.heap.size = V0.heap.size := by rw [HW1.out]; simp
    have z2 : W2.heap.size = V1.heap.size := by rw [HW2.out]; simp
    have z3 : W3.heap.size = V2.heap.size := by rw [HW3.out]; simp
    have z4 : W4.heap.size = V3.heap.size := by rw [hW]; simp
    have t1 := HGV1.out.size
    have t2 := HGV2.out.size
    have t3 := HGV3.out.size
    have m2 : ∀ q, w.heap.size + 2 ≤ q ∧ q ≠ p → q < V2.heap.size → W4.heap[q]? = V2.heap[q]? := fun q hq hl => (k4 q hq).trans ((g3 q hq (by omega)).trans (k3 q hq))
    have m1 : ∀ q, w.heap.size + 2 ≤ q ∧ q ≠ p → q < V1.heap.size → W4.heap[q]? = V1.heap[q]? := fun q hq hl => (m2 q hq (by omega)).trans ((g2 q hq (by omega)).trans (k2 q hq))
    have m0 : ∀ q, w.heap.size + 2 ≤ q ∧ q ≠ p → q < V0.heap.size → W4.heap[q]? = V0.heap[q]? := fun q hq hl => (m1 q hq (by omega)).trans ((g1 q hq (by omega)).trans (k1 q hq))
    refine ⟨?_, ?_, ?_⟩
    · exact rowIn.kept (rowIn.wide HIN0.out (fun q _ hq => ⟨by have := hq.1; omega, hq.2⟩) fun _ _ _ h => h) (strE_keeps _) (by omega) m0
    · exact rowIn.kept (rowIn.wide HIN1.out (fun q _ hq => ⟨by have := hq.1; omega, hq.2⟩) fun b o x h => ⟨h.1, by obtain ⟨u, e, h2⟩ := h.2; exact ⟨u, e, rowIn.wide h2 (fun q _ hq => ⟨by have := hq.1; omega, hq.2⟩) fun _ _ _ h => h⟩⟩) (shE_keeps _) (by omega) m1
    · exact rowIn.kept (rowIn.wide HIN2.out (fun q _ hq => ⟨by have := hq.1; omega, hq.2⟩) fun b o x h => by
        obtain ⟨e0, e1, e2, e3, e4, ⟨u, e5, h5⟩, u2, e6, h6⟩ := h
        exact ⟨e0, e1, e2, e3, e4, ⟨u, e5, rowIn.wide h5 (fun q _ hq => ⟨by have := hq.1; omega, hq.2⟩) fun _ _ _ h => h⟩, u2, e6, rowIn.wide h6 (fun q _ hq => ⟨by have := hq.1; omega, hq.2⟩) fun _ _ _ h => h⟩) (unE_keeps _) (by omega) m2
  have ce := end_any B4.out.rd
  obtain ⟨E, hE⟩ : ∃ E, E = endR bs.length a4 r4 := ⟨_, rfl⟩
  rw [← hE] at ce
  have HEE : Hid (ldE bs = E) := by show _ = _; rw [hE]; unfold ldE; rw [HRES.out]
  clear hr1 hg1 hW hE
  go_wp2_with fail
  rw [← HW4.out]
  refine ce.mono ?_
  clear ce
  rintro e _ ⟨rfl, k, rfl⟩
  have B5 : Hid (LdBox w (W4.drewN k) p base cap bs a4 r4 #[.slice none 0 0, .slice none 0 0, .slice none 0 0, .int .i64 0] #[.slice b0 n0 c0, .slice b1 n1 c1, .slice b2 n2 c2, .int .i64 x3]) := ⟨B4.out.rd.kept fun _ _ _ => rfl, B4.out.X, B4.out.Y, ⟨B4.out.G.os, B4.out.G.tape, B4.out.G.output, B4.out.G.size, B4.out.G.block⟩, B4.out.plt, B4.out.blt⟩
  have HCD5 : Hid (CodeIn (fun b => w.heap.size + 2 ≤ b ∧ b ≠ p) (W4.drewN k) ⟨x0, x1, x2, x3⟩ (.slice b0 n0 c0) (.slice b1 n1 c1) (.slice b2 n2 c2)) := HCD.out.kept (Nat.le_refl _) fun _ _ _ => rfl
  generalize W4.drewN k = W5 at B5 HCD5 ⊢
  clear fz q0 q1 q2 q3
  by_cases hE0 : E = 0
  · subst hE0
    have ci := cIsRight_any (fun b => w.heap.size + 2 ≤ b ∧ b ≠ p) ⟨x0, x1, x2, x3⟩ b0 b1 b2 n0 c0 n1 c1 n2 c2 W5 HCD5.out HSM.out (HT.out W5 B5.out.G).1 (HT.out W5 B5.out.G).2
    obtain ⟨RC, hRC⟩ : ∃ RC, RC = rightC ⟨x0, x1, x2, x3⟩ := ⟨_, rfl⟩
    rw [← hRC] at ci
    have HRC : Hid (RC = rightC (rCode bs).1) := by rw [HRES.out]; exact hRC
    obtain ⟨d0, d1, d2, d3⟩ := bcells4 B5.out.X
    clear hRC
    go_wp2_with fail
    refine ci.mono ?_
    clear ci d0 d1 d2 d3
    rintro e W6 ⟨rfl, hb6⟩
    have B6 : Hid (LdBox w W6 p base cap bs a4 r4 #[.slice none 0 0, .slice none 0 0, .slice none 0 0, .int .i64 0] #[.slice b0 n0 c0, .slice b1 n1 c1, .slice b2 n2 c2, .int .i64 x3]) := B5.out.new hb6
    have HCD6 : Hid (CodeIn (fun b => w.heap.size + 2 ≤ b ∧ b ≠ p) W6 ⟨x0, x1, x2, x3⟩ (.slice b0 n0 c0) (.slice b1 n1 c1) (.slice b2 n2 c2)) := HCD5.out.below hb6
    obtain ⟨d0, d1, d2, d3⟩ := bcells4 B6.out.X
    obtain ⟨y0, y1, y2, y3⟩ := bcells4 B6.out.Y
    have yf := cfrozen B6.out.Y
    clear hb6
    cases RC with
    | true =>
      have HE : Hid (LdBox w (((((((((W6).setCell ⟨w.heap.size, 0, none⟩ (.slice b0 n0 c0))).setCell ⟨w.heap.size, 1, none⟩ (.slice b1 n1 c1))).setCell ⟨w.heap.size, 2, none⟩ (.slice b2 n2 c2))).setCell ⟨w.heap.size, 3, none⟩ (.int .i64 x3))) p base cap bs a4 r4 #[.slice b0 n0 c0, .slice b1 n1 c1, .slice b2 n2 c2, .int .i64 x3] #[.slice b0 n0 c0, .slice b1 n1 c1, .slice b2 n2 c2, .int .i64 x3]) := ((((B6.out.storeY 0 (.slice b0 n0 c0)).storeY 1 (.slice b1 n1 c1)).storeY 2 (.slice b2 n2 c2)).storeY 3 (.int .i64 x3))
      have HCD7 : Hid (CodeIn (fun b => w.heap.size ≤ b) (((((((((W6).setCell ⟨w.heap.size, 0, none⟩ (.slice b0 n0 c0))).setCell ⟨w.heap.size, 1, none⟩ (.slice b1 n1 c1))).setCell ⟨w.heap.size, 2, none⟩ (.slice b2 n2 c2))).setCell ⟨w.heap.size, 3, none⟩ (.int .i64 x3))) ⟨x0, x1, x2, x3⟩ (.slice b0 n0 c0) (.slice b1 n1 c1) (.slice b2 n2 c2)) := by
        have h7 := HCD6.out.kept (w' := ((((((((W6).setCell ⟨w.heap.size, 0, none⟩ (.slice b0 n0 c0))).setCell ⟨w.heap.size, 1, none⟩ (.slice b1 n1 c1))).setCell ⟨w.heap.size, 2, none⟩ (.slice b2 n2 c2))).setCell ⟨w.heap.size, 3, none⟩ (.int .i64 x3))) (by simp) fun q hq _ => by
          have hq1 := hq.1
          rw [Below.heap_setCell _ _ _ _ (by simp; omega), Below.heap_setCell _ _ _ _ (by simp; omega), Below.heap_setCell _ _ _ _ (by simp; omega), Below.heap_setCell _ _ _ _ (by simp; omega)]
        exact h7.wide fun q hq => by have := hq.1; omega
      obtain ⟨z0, z1, z2, z3⟩ := bcells4 HE.out.Y
      go_wp2
      refine bodyPost_ret (v := .tuple #[.agg #[.slice b0 n0 c0, .slice b1 n1 c1, .slice b2 n2 c2, .int .i64 x3], .int .i64 0]) (by simp [results, Tryz.results18, go_sem, z0, z1, z2, z3]) rfl ?_
      refine ⟨.inr (.inr ⟨HEE.out, HRC.out.symm, b0, n0, c0, b1, n1, c1, b2, n2, c2, ?_, ?_⟩), HE.out.G⟩
      · rw [HRES.out]
      · rw [HRES.out]; exact HCD7.out
    | false =>
      have HE : Hid (LdBox w (((((((((W6).setCell ⟨w.heap.size, 0, none⟩ (.slice none 0 0))).setCell ⟨w.heap.size, 1, none⟩ (.slice none 0 0))).setCell ⟨w.heap.size, 2, none⟩ (.slice none 0 0))).setCell ⟨w.heap.size, 3, none⟩ (.int .i64 0))) p base cap bs a4 r4 #[.slice none 0 0, .slice none 0 0, .slice none 0 0, .int .i64 0] #[.slice b0 n0 c0, .slice b1 n1 c1, .slice b2 n2 c2, .int .i64 x3]) := ((((B6.out.storeY 0 (.slice none 0 0)).storeY 1 (.slice none 0 0)).storeY 2 (.slice none 0 0)).storeY 3 (.int .i64 0))
      obtain ⟨z0, z1, z2, z3⟩ := bcells4 HE.out.Y
      go_wp2
      refine bodyPost_ret (v := .tuple #[.agg #[.slice none 0 0, .slice none 0 0, .slice none 0 0, .int .i64 0], .int .i64 2]) (by simp [results, Tryz.results18, go_sem, z0, z1, z2, z3]) rfl ?_
      exact ⟨.inr (.inl ⟨HEE.out, HRC.out.symm, rfl⟩), HE.out.G⟩
  · have hEb : ((E : Int) == 0) = false := by rw [beq_eq_false_iff_ne]; omega
    have HE0 : Hid (E ≠ 0) := hE0
    obtain ⟨y0, y1, y2, y3⟩ := bcells4 B5.out.Y
    have yf := cfrozen B5.out.Y
    have HE : Hid (LdBox w (((((((((W5).setCell ⟨w.heap.size, 0, none⟩ (.slice none 0 0))).setCell ⟨w.heap.size, 1, none⟩ (.slice none 0 0))).setCell ⟨w.heap.size, 2, none⟩ (.slice none 0 0))).setCell ⟨w.heap.size, 3, none⟩ (.int .i64 0))) p base cap bs a4 r4 #[.slice none 0 0, .slice none 0 0, .slice none 0 0, .int .i64 0] #[.slice b0 n0 c0, .slice b1 n1 c1, .slice b2 n2 c2, .int .i64 x3]) := ((((B5.out.storeY 0 (.slice none 0 0)).storeY 1 (.slice none 0 0)).storeY 2 (.slice none 0 0)).storeY 3 (.int .i64 0))
    obtain ⟨z0, z1, z2, z3⟩ := bcells4 HE.out.Y
    clear hE0
    go_wp2
    refine bodyPost_ret (v := .tuple #[.agg #[.slice none 0 0, .slice none 0 0, .slice none 0 0, .int .i64 0], .int .i64 (E : Int)]) (by simp [results, Tryz.results18, go_sem, z0, z1, z2, z3]) rfl ?_
    exact ⟨.inl ⟨by rw [HEE.out]; exact HE0.out, by rw [HEE.out]⟩, HE.out.G⟩
end Go.Proofs.YtechkkphbajmoaaGreatDoor
