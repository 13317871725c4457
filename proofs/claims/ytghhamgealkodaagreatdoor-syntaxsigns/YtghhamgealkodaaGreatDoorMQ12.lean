import Derived.Test.YtghhamgealkodaaGreatDoorMQ11
import Derived.Deep.DeepCutAuto
import Derived.Deep.RegionHeld3
/- syntax: an expression that is gone on with: what holds between two rounds. -/
namespace Go.Proofs.YtghhamgealkodaaGreatDoor
open Go.RowKit Go.Shelf

theorem LevT.kept {r : Nat} {w w' : World} (h : LevT w) (hk : Kept r w w') (hr : r ≠ 1) : LevT w' := by
  intro i v hi
  exact hk.cell (p := ⟨1, 0 + i, none⟩) (fun e => hr e.symm) (h i v hi)

theorem ExIn.line_eq {S : Nat → Prop} {w : World} {x : Ex} {a b c d : Value} {l : Int} (h : ExIn S w x (.agg #[a, b, c, d, .int .i64 l])) : l = (x.line : Int) := by
  cases h <;> rfl

/-- Between two rounds: the expression e lies in block N; what is left of it is read as p says. -/
def MoreJ (r g N F : Nat) (w : World) (res : PR Ex) (p : Nat → Ex → List Tk → Option (PR Ex)) (wr : World) : Prop :=
  ∃ (e : Ex) (ts : List Tk) (o cap f : Nat) (a : Int) (b : ByteArray) (c : Int) (d0 : Option Addr) (d1 d2 : Nat) (l : Int), f ≤ F ∧ p f e ts = some res ∧ EndsT ts ∧ ts.length ≤ 1099511627776 ∧
    wr.heap[N]? = some (.cells #[.int .i64 a, .string b, .int .i64 c, .slice d0 d1 d2, .int .i64 l] 40 (0, 0)) ∧
    ExIn (fun k => w.heap.size < k ∧ k ≠ N) wr e (.agg #[.int .i64 a, .string b, .int .i64 c, .slice d0 d1 d2, .int .i64 l]) ∧ RdAt r g o cap ts wr ∧ Kept r w wr ∧ wr.heap[w.heap.size]? = some exZ

theorem setCell_block {w : World} {N j : Nat} {c : Array Value} {ty : TypeId} {fr : Nat × Nat} (v : Value) (h : w.heap[N]? = some (.cells c ty fr)) : (w.setCell ⟨N, j, none⟩ v).heap[N]? = some (.cells (c.setIfInBounds j v) ty fr) := by
  unfold World.setCell
  simp [Array.getElem?_modify, h]

theorem set5_block {w : World} {N : Nat} {x0 x1 x2 x3 x4 : Value} {ty : TypeId} (h : w.heap[N]? = some (.cells #[x0, x1, x2, x3, x4] ty (0, 0))) (a b c d e : Value) : (set5 w N a b c d e).heap[N]? = some (.cells #[a, b, c, d, e] ty (0, 0)) :=
  setCell_block e (setCell_block d (setCell_block c (setCell_block b (setCell_block a h))))

theorem cells5 {w : World} {N : Nat} {x0 x1 x2 x3 x4 : Value} {ty : TypeId} (h : w.heap[N]? = some (.cells #[x0, x1, x2, x3, x4] ty (0, 0))) :
    w.cell? ⟨N, 0, none⟩ = some x0 ∧ w.cell? ⟨N, 1, none⟩ = some x1 ∧ w.cell? ⟨N, 2, none⟩ = some x2 ∧ w.cell? ⟨N, 3, none⟩ = some x3 ∧ w.cell? ⟨N, 4, none⟩ = some x4 ∧ ∀ j, w.frozen? ⟨N, j, none⟩ = false := by
  refine ⟨?_, ?_, ?_, ?_, ?_, fun j => ?_⟩
  · simp only [World.cell?, h]; rfl
  · simp only [World.cell?, h]; rfl
  · simp only [World.cell?, h]; rfl
  · simp only [World.cell?, h]; rfl
  · simp only [World.cell?, h]; rfl
  · simp only [World.frozen?, h]; simp

/-- Where the rounds end, the expression is handed back. -/
theorem MoreJ.leave {r g N o cap : Nat} {w wr W : World} {e : Ex} {ts : List Tk} {a : Int} {b : ByteArray} {c : Int} {d0 : Option Addr} {d1 d2 : Nat} {l : Int} (hr : r < w.heap.size) (hg : g < w.heap.size) (hNw : w.heap.size < N) (hk : Kept r w wr)
    (hb : wr.heap[N]? = some (.cells #[.int .i64 a, .string b, .int .i64 c, .slice d0 d1 d2, .int .i64 l] 40 (0, 0))) (hz : wr.heap[w.heap.size]? = some exZ)
    (hx : ExIn (fun k => w.heap.size < k ∧ k ≠ N) wr e (.agg #[.int .i64 a, .string b, .int .i64 c, .slice d0 d1 d2, .int .i64 l])) (hK : Kept r wr W) (hrd : RdAt r g o cap ts W) :
    W.heap[N]? = some (.cells #[.int .i64 a, .string b, .int .i64 c, .slice d0 d1 d2, .int .i64 l] 40 (0, 0)) ∧ W.heap[w.heap.size]? = some exZ ∧
    PostE r g w (.ok (e, ts)) (.returned (.agg #[.int .i64 a, .string b, .int .i64 c, .slice d0 d1 d2, .int .i64 l])) (set5 W w.heap.size (.int .i64 a) (.string b) (.int .i64 c) (.slice d0 d1 d2) (.int .i64 l)) := by
  refine ⟨(hK.block _ (Array.getElem?_eq_some_iff.1 hb).1 (by omega)).trans hb, (hK.block _ (Array.getElem?_eq_some_iff.1 hz).1 (by omega)).trans hz, ?_⟩
  refine PostE.of_set5' (B := w.heap.size + 1) (hk.trans hK) (Nat.le_refl _) hr hg ?_ (Nat.lt_succ_self _) hrd
  exact ExIn.wide (ExIn.kept hx hK.size fun k hk' hlt => hK.block k hlt (by omega)) fun k hk' => hk'.1

/-- The first expression is laid into a block of its own. -/
theorem MoreJ.start {r g F : Nat} {w w0 w1 : World} {res : PR Ex} {p : Nat → Ex → List Tk → Option (PR Ex)} {x : Ex} {us : List Tk} {o cap : Nat} {a : Int} {b : ByteArray} {c : Int} {d0 : Option Addr} {d1 d2 : Nat} {l : Int} (hw0 : w0 = w.alloc exZ) (hr : r < w.heap.size) (hk : Kept r w0 w1)
    (hx : ExAt w0.heap.size w1 x (.agg #[.int .i64 a, .string b, .int .i64 c, .slice d0 d1 d2, .int .i64 l])) (hrd : RdAt r g o cap us w1) (hp : p F x us = some res) (hE : EndsT us) (hN : us.length ≤ 1099511627776) :
    MoreJ r g w1.heap.size F w res p (w1.alloc (.cells #[.int .i64 a, .string b, .int .i64 c, .slice d0 d1 d2, .int .i64 l] 40)) := by
  have hs : w0.heap.size = w.heap.size + 1 := by rw [hw0]; simp
  have hk' : Kept r w w1 := by rw [hw0] at hk; exact ((Kept.refl r w).alloc _).trans hk
  obtain ⟨t, ts, rfl⟩ := hE.cons
  refine ⟨x, t :: ts, o, cap, F, a, b, c, d0, d1, d2, l, Nat.le_refl _, hp, hE, hN, World.alloc_heap_new _ _, ?_, hrd.alloc _, hk'.alloc _, ?_⟩
  · exact ExIn.wide (ExIn.kept (ExIn.low hx) (by simp) fun k hk _ => Below.heap_alloc _ _ _ hk.2) fun k hk => ⟨by omega, by omega⟩
  · rw [Below.heap_alloc _ _ _ (by have := hk.size; omega), hk.block _ (by omega) (by omega), hw0]
    exact World.alloc_heap_new _ _

/-- The next one is laid there. -/
theorem MoreJ.store {r g N F f : Nat} {w w7 : World} {res : PR Ex} {p : Nat → Ex → List Tk → Option (PR Ex)} {x0 x1 x2 x3 x4 : Value} {kids : List Ex} {us : List Tk} {o cap : Nat} {ob : Obj} {d0 : Option Addr} {d1 d2 : Nat} (k : Nat) (s : List UInt8) (n : Int) (line : Nat) (hr : r < w.heap.size) (hg : g < w.heap.size) (hNw : w.heap.size < N)
    (hk : Kept r w w7) (hb : w7.heap[N]? = some (.cells #[x0, x1, x2, x3, x4] 40 (0, 0))) (hrow : RowIn (fun k => w.heap.size < k ∧ k ≠ N) (w7.alloc ob) kids (.slice d0 d1 d2)) (hrd : RdAt r g o cap us w7) (hz : w7.heap[w.heap.size]? = some exZ)
    (hf : f ≤ F) (hp : p f (.mk k s n kids line) us = some res) (hE : EndsT us) (hN : us.length ≤ 1099511627776) :
    MoreJ r g N F w res p (set5 (w7.alloc ob) N (.int .i64 k) (.string (strB s)) (.int .i64 n) (.slice d0 d1 d2) (.int .i64 line)) := by
  have hlt := (Array.getElem?_eq_some_iff.1 hb).1
  obtain ⟨t, ts, rfl⟩ := hE.cons
  have hs := hk.size
  refine ⟨.mk k s n kids line, t :: ts, o, cap, f, k, strB s, n, d0, d1, d2, line, hf, hp, hE, hN, set5_block ((Below.heap_alloc _ _ _ hlt).trans hb) _ _ _ _ _, ?_, ?_, set5_kept (hk.alloc _) (by omega) _ _ _ _ _, ?_⟩
  · exact ExIn.of_row (hrow.kept (w' := set5 (w7.alloc ob) N (.int .i64 k) (.string (strB s)) (.int .i64 n) (.slice d0 d1 d2) (.int .i64 line)) (by simp) fun k hk _ => set5_keep _ _ _ _ _ _ _ hk.2) k s n line
  · exact (hrd.alloc ob).keep (set5_keep _ _ _ _ _ _ _ (by omega)) (set5_keep _ _ _ _ _ _ _ (by omega))
  · rw [set5_keep _ _ _ _ _ _ _ (by omega), Below.heap_alloc _ _ _ (by omega)]; exact hz
end Go.Proofs.YtghhamgealkodaaGreatDoor
/- syntax: signs between two. -/
namespace Go.Proofs.YtghhamgealkodaaGreatDoor
open Go.RowKit Go.Shelf

set_option maxRecDepth 100000 in
set_option maxHeartbeats 8000000 in
theorem rdTightest (r g : Nat) (least : Nat) (w : World) (res : PR Ex) (hr : r < w.heap.size) (hgw : g < w.heap.size) (hl : 6 < least)
    (hb : Calls Tryz.prog 121 #[.pointer (some ⟨r, 0, none⟩)] (w.alloc exZ) (PostE r g (w.alloc exZ) res)) :
    Calls Tryz.prog 77 #[.pointer (some ⟨r, 0, none⟩), .int .i64 least] w (PostE r g w res) := by
  go_enter Tryz.func77, Tryz.ntmps77
  have hl' : (6 : Int) < (least : Int) := by omega
  go_wp2_with fail
  refine hb.mono ?_
  clear hb
  rintro e w1 ⟨hk1, hpost⟩
  have hK : Kept r w w1 := ((Kept.refl r w).alloc _).trans hk1
  rcases res with a | ⟨x, ts⟩
  · obtain rfl := hpost
    exact ⟨rfl, hK, rfl⟩
  · obtain ⟨v, o, cap, rfl, hx, hrd⟩ := hpost
    obtain ⟨a, b, c, d0, d1, d2, e, rfl⟩ := hx.agg
    have hsz : (w.alloc exZ).heap.size = w.heap.size + 1 := by simp
    have p0 : w1.heap[w.heap.size]? = some exZ := (hk1.block w.heap.size (by omega) (by omega)).trans (World.alloc_heap_new w _)
    have q0 : w1.cell? ⟨w.heap.size, 0, none⟩ = some (.int .i64 0) := by simp only [World.cell?, p0]; rfl
    have q1 : w1.cell? ⟨w.heap.size, 1, none⟩ = some (.string ⟨#[]⟩) := by simp only [World.cell?, p0]; rfl
    have q2 : w1.cell? ⟨w.heap.size, 2, none⟩ = some (.int .i64 0) := by simp only [World.cell?, p0]; rfl
    have q3 : w1.cell? ⟨w.heap.size, 3, none⟩ = some (.slice none 0 0) := by simp only [World.cell?, p0]; rfl
    have q4 : w1.cell? ⟨w.heap.size, 4, none⟩ = some (.int .i64 0) := by simp only [World.cell?, p0]; rfl
    have qf : ∀ j, w1.frozen? ⟨w.heap.size, j, none⟩ = false := fun j => by simp only [World.frozen?, p0]; simp
    have HP : Hid (PostE r g w (.ok (x, ts)) (.returned (.agg #[.int .i64 a, .string b, .int .i64 c, .slice d0 d1 d2, .int .i64 e])) (set5 w1 w.heap.size (.int .i64 a) (.string b) (.int .i64 c) (.slice d0 d1 d2) (.int .i64 e))) :=
      PostE.of_set5' hK (Nat.le_refl _) hr hgw hx (by omega) hrd
    obtain ⟨z0, z1, z2, z3, z4⟩ := set5_cells p0 (.int .i64 a) (.string b) (.int .i64 c) (.slice d0 d1 d2) (.int .i64 e)
    clear hk1 hx hrd hK p0
    go_wp2
    exact bodyPost_ret (v := .agg #[.int .i64 a, .string b, .int .i64 c, .slice d0 d1 d2, .int .i64 e]) (by simp [results, Tryz.results77, go_sem, z0, z1, z2, z3, z4]) rfl HP.out
end Go.Proofs.YtghhamgealkodaaGreatDoor
/- syntax: single things: numbers, texts, names. -/
namespace Go.Proofs.YtghhamgealkodaaGreatDoor
open Go.RowKit Go.Shelf

set_option maxRecDepth 100000 in
set_option maxHeartbeats 4000000 in
theorem rdSingleInt (r g o cap : Nat) (t : Tk) (ts : List Tk) (w : World) (h : RdAt r g o cap (t :: ts) w) (hk : t.k = 2) (hne : ts ≠ []) :
    Calls Tryz.prog 177 #[.pointer (some ⟨r, 0, none⟩)] w (PostE r g w (.ok (.mk 1 [] t.n [] t.line, ts))) := by
  have hr := h.lt.1
  have hgw := h.lt.2
  have h0 := h.alloc exZ
  have ch := rdHere r g o cap t ts _ h0
  obtain ⟨w2, hw2⟩ : ∃ w2, w2 = ((w.alloc exZ).alloc (tkO t)).alloc (.cells #[.int .i64 2, .string (strB t.s), .int .i64 t.n, .int .i64 t.line, .int .i64 t.at0] 72) := ⟨_, rfl⟩
  have h2 : RdAt r g o cap (t :: ts) w2 := by rw [hw2]; exact (h0.alloc _).alloc _
  have k2 : Kept r w w2 := by rw [hw2]; exact (((Kept.refl r w).alloc _).alloc _).alloc _
  have n0 : w2.heap[w.heap.size]? = some exZ := by
    rw [hw2, Below.heap_alloc _ _ _ (by simp; omega), Below.heap_alloc _ _ _ (by simp)]
    exact World.alloc_heap_new _ _
  have n2 : w2.heap[w.heap.size + 1 + 1]? = some (.cells #[.int .i64 2, .string (strB t.s), .int .i64 t.n, .int .i64 t.line, .int .i64 t.at0] 72) := by
    have hx := World.alloc_heap_new ((w.alloc exZ).alloc (tkO t)) (.cells #[.int .i64 2, .string (strB t.s), .int .i64 t.n, .int .i64 t.line, .int .i64 t.at0] 72)
    rw [← hw2, show ((w.alloc exZ).alloc (tkO t)).heap.size = w.heap.size + 1 + 1 by simp] at hx
    exact hx
  have hl2 : w.heap.size + 1 + 1 < w2.heap.size := (Array.getElem?_eq_some_iff.1 n2).1
  have HW2 : Hid (w2 = ((w.alloc exZ).alloc (tkO t)).alloc (.cells #[.int .i64 2, .string (strB t.s), .int .i64 t.n, .int .i64 t.line, .int .i64 t.at0] 72)) := hw2
  clear h h0 hw2
  have cs := rdStep r g o cap t ts w2 h2 hne
  go_enter Tryz.func177, Tryz.ntmps177
  go_wp2_with fail
  refine ch.mono ?_
  clear ch
  rintro e w1 ⟨rfl, rfl⟩
  simp only [tkV]
  go_wp2_with fail
  rw [← HW2.out]
  refine cs.mono ?_
  clear cs HW2
  rintro e w3 ⟨rfl, hw3⟩
  have k3 : Kept r w w3 := by rw [hw3]; exact k2.setCell 0 _
  have k23 : Kept r w2 w3 := by rw [hw3]; exact (Kept.refl r w2).setCell 0 _
  have h3 : RdAt r g (o + 5) (cap - 1) ts w3 := by rw [hw3]; exact h2.next
  have p0 := (k23.block _ (Array.getElem?_eq_some_iff.1 n0).1 (by omega)).trans n0
  have p2 := (k23.block _ hl2 (by omega)).trans n2
  obtain ⟨c0, c1, c2, c3, c4, -⟩ := cells5 p2
  obtain ⟨q0, q1, q2, q3, q4, qf⟩ := cells5 p0
  obtain ⟨z0, z1, z2, z3, z4⟩ := set5_cells p0 (.int .i64 1) (.string ⟨#[]⟩) (.int .i64 t.n) (.slice none 0 0) (.int .i64 t.line)
  have HP : Hid (PostE r g w (.ok (.mk 1 [] t.n [] t.line, ts)) (.returned (.agg #[.int .i64 1, (.string ⟨#[]⟩), (.int .i64 t.n), .slice none 0 0, .int .i64 t.line])) (set5 w3 w.heap.size (.int .i64 1) (.string ⟨#[]⟩) (.int .i64 t.n) (.slice none 0 0) (.int .i64 t.line))) :=
    PostE.of_set5 (B := w.heap.size + 1) 1 [] t.n t.line k3 (Nat.le_refl _) hr hgw (.inl ⟨rfl, rfl⟩) (Nat.lt_succ_self _) h3
  clear k3 k23 h3 p0 p2 n0 n2 h2 k2 hw3
  go_wp2
  exact bodyPost_ret (v := .agg #[.int .i64 1, (.string ⟨#[]⟩), (.int .i64 t.n), .slice none 0 0, .int .i64 t.line]) (by simp [results, Tryz.results177, go_sem, z0, z1, z2, z3, z4]) rfl HP.out

set_option maxRecDepth 100000 in
set_option maxHeartbeats 4000000 in
theorem rdSingleStr (r g o cap : Nat) (t : Tk) (ts : List Tk) (w : World) (h : RdAt r g o cap (t :: ts) w) (hk : t.k = 3) (hne : ts ≠ []) :
    Calls Tryz.prog 177 #[.pointer (some ⟨r, 0, none⟩)] w (PostE r g w (.ok (.mk 3 t.s 0 [] t.line, ts))) := by
  have hr := h.lt.1
  have hgw := h.lt.2
  have h0 := h.alloc exZ
  have ch := rdHere r g o cap t ts _ h0
  obtain ⟨w2, hw2⟩ : ∃ w2, w2 = ((w.alloc exZ).alloc (tkO t)).alloc (.cells #[.int .i64 3, .string (strB t.s), .int .i64 t.n, .int .i64 t.line, .int .i64 t.at0] 72) := ⟨_, rfl⟩
  have h2 : RdAt r g o cap (t :: ts) w2 := by rw [hw2]; exact (h0.alloc _).alloc _
  have k2 : Kept r w w2 := by rw [hw2]; exact (((Kept.refl r w).alloc _).alloc _).alloc _
  have n0 : w2.heap[w.heap.size]? = some exZ := by
    rw [hw2, Below.heap_alloc _ _ _ (by simp; omega), Below.heap_alloc _ _ _ (by simp)]
    exact World.alloc_heap_new _ _
  have n2 : w2.heap[w.heap.size + 1 + 1]? = some (.cells #[.int .i64 3, .string (strB t.s), .int .i64 t.n, .int .i64 t.line, .int .i64 t.at0] 72) := by
    have hx := World.alloc_heap_new ((w.alloc exZ).alloc (tkO t)) (.cells #[.int .i64 3, .string (strB t.s), .int .i64 t.n, .int .i64 t.line, .int .i64 t.at0] 72)
    rw [← hw2, show ((w.alloc exZ).alloc (tkO t)).heap.size = w.heap.size + 1 + 1 by simp] at hx
    exact hx
  have hl2 : w.heap.size + 1 + 1 < w2.heap.size := (Array.getElem?_eq_some_iff.1 n2).1
  have HW2 : Hid (w2 = ((w.alloc exZ).alloc (tkO t)).alloc (.cells #[.int .i64 3, .string (strB t.s), .int .i64 t.n, .int .i64 t.line, .int .i64 t.at0] 72)) := hw2
  clear h h0 hw2
  have cs := rdStep r g o cap t ts w2 h2 hne
  go_enter Tryz.func177, Tryz.ntmps177
  go_wp2_with fail
  refine ch.mono ?_
  clear ch
  rintro e w1 ⟨rfl, rfl⟩
  simp only [tkV]
  go_wp2_with fail
  rw [← HW2.out]
  refine cs.mono ?_
  clear cs HW2
  rintro e w3 ⟨rfl, hw3⟩
  have k3 : Kept r w w3 := by rw [hw3]; exact k2.setCell 0 _
  have k23 : Kept r w2 w3 := by rw [hw3]; exact (Kept.refl r w2).setCell 0 _
  have h3 : RdAt r g (o + 5) (cap - 1) ts w3 := by rw [hw3]; exact h2.next
  have p0 := (k23.block _ (Array.getElem?_eq_some_iff.1 n0).1 (by omega)).trans n0
  have p2 := (k23.block _ hl2 (by omega)).trans n2
  obtain ⟨c0, c1, c2, c3, c4, -⟩ := cells5 p2
  obtain ⟨q0, q1, q2, q3, q4, qf⟩ := cells5 p0
  obtain ⟨z0, z1, z2, z3, z4⟩ := set5_cells p0 (.int .i64 3) (.string (strB t.s)) (.int .i64 0) (.slice none 0 0) (.int .i64 t.line)
  have HP : Hid (PostE r g w (.ok (.mk 3 t.s 0 [] t.line, ts)) (.returned (.agg #[.int .i64 3, (.string (strB t.s)), (.int .i64 0), .slice none 0 0, .int .i64 t.line])) (set5 w3 w.heap.size (.int .i64 3) (.string (strB t.s)) (.int .i64 0) (.slice none 0 0) (.int .i64 t.line))) :=
    PostE.of_set5 (B := w.heap.size + 1) 3 t.s 0 t.line k3 (Nat.le_refl _) hr hgw (.inl ⟨rfl, rfl⟩) (Nat.lt_succ_self _) h3
  clear k3 k23 h3 p0 p2 n0 n2 h2 k2 hw3
  go_wp2
  exact bodyPost_ret (v := .agg #[.int .i64 3, (.string (strB t.s)), (.int .i64 0), .slice none 0 0, .int .i64 t.line]) (by simp [results, Tryz.results177, go_sem, z0, z1, z2, z3, z4]) rfl HP.out

set_option maxRecDepth 100000 in
set_option maxHeartbeats 4000000 in
theorem rdSingleName (r g o cap : Nat) (t : Tk) (ts : List Tk) (w : World) (res : PR Ex) (h : RdAt r g o cap (t :: ts) w) (hk : t.k = 1)
    (hn : ∀ w1, RdAt r g o cap (t :: ts) w1 → Kept r w w1 → Calls Tryz.prog 195 #[.pointer (some ⟨r, 0, none⟩)] w1 (PostE r g w1 res)) :
    Calls Tryz.prog 177 #[.pointer (some ⟨r, 0, none⟩)] w (PostE r g w res) := by
  have hr := h.lt.1
  have hgw := h.lt.2
  have h0 := h.alloc exZ
  have ch := rdHere r g o cap t ts _ h0
  obtain ⟨w2, hw2⟩ : ∃ w2, w2 = ((w.alloc exZ).alloc (tkO t)).alloc (.cells #[.int .i64 1, .string (strB t.s), .int .i64 t.n, .int .i64 t.line, .int .i64 t.at0] 72) := ⟨_, rfl⟩
  have h2 : RdAt r g o cap (t :: ts) w2 := by rw [hw2]; exact (h0.alloc _).alloc _
  have k2 : Kept r w w2 := by rw [hw2]; exact (((Kept.refl r w).alloc _).alloc _).alloc _
  have n0 : w2.heap[w.heap.size]? = some exZ := by
    rw [hw2, Below.heap_alloc _ _ _ (by simp; omega), Below.heap_alloc _ _ _ (by simp)]
    exact World.alloc_heap_new _ _
  have n2 : w2.heap[w.heap.size + 1 + 1]? = some (.cells #[.int .i64 1, .string (strB t.s), .int .i64 t.n, .int .i64 t.line, .int .i64 t.at0] 72) := by
    have hx := World.alloc_heap_new ((w.alloc exZ).alloc (tkO t)) (.cells #[.int .i64 1, .string (strB t.s), .int .i64 t.n, .int .i64 t.line, .int .i64 t.at0] 72)
    rw [← hw2, show ((w.alloc exZ).alloc (tkO t)).heap.size = w.heap.size + 1 + 1 by simp] at hx
    exact hx
  have hl2 : w.heap.size + 1 + 1 < w2.heap.size := (Array.getElem?_eq_some_iff.1 n2).1
  have HW2 : Hid (w2 = ((w.alloc exZ).alloc (tkO t)).alloc (.cells #[.int .i64 1, .string (strB t.s), .int .i64 t.n, .int .i64 t.line, .int .i64 t.at0] 72)) := hw2
  clear h h0 hw2
  have cs := hn w2 h2 k2
  clear hn
  go_enter Tryz.func177, Tryz.ntmps177
  go_wp2_with fail
  refine ch.mono ?_
  clear ch
  rintro e w1 ⟨rfl, rfl⟩
  simp only [tkV]
  go_wp2_with fail
  rw [← HW2.out]
  refine cs.mono ?_
  clear cs HW2
  rintro e w3 ⟨hk3, hpost⟩
  have k3 : Kept r w w3 := k2.trans hk3
  rcases res with a | ⟨x, us⟩
  · obtain rfl := hpost
    exact ⟨rfl, k3, rfl⟩
  · obtain ⟨v, o3, cap3, rfl, hx, hrd⟩ := hpost
    obtain ⟨a, b, c, d0, d1, d2, l, rfl⟩ := hx.agg
    have p0 := (hk3.block _ (Array.getElem?_eq_some_iff.1 n0).1 (by omega)).trans n0
    obtain ⟨q0, q1, q2, q3, q4, qf⟩ := cells5 p0
    obtain ⟨z0, z1, z2, z3, z4⟩ := set5_cells p0 (.int .i64 a) (.string b) (.int .i64 c) (.slice d0 d1 d2) (.int .i64 l)
    have HP : Hid (PostE r g w (.ok (x, us)) (.returned (.agg #[.int .i64 a, .string b, .int .i64 c, .slice d0 d1 d2, .int .i64 l])) (set5 w3 w.heap.size (.int .i64 a) (.string b) (.int .i64 c) (.slice d0 d1 d2) (.int .i64 l))) :=
      PostE.of_set5' k3 (Nat.le_refl _) hr hgw hx (by omega) hrd
    clear k3 hk3 p0 n0 n2 h2 k2 hx hrd
    go_wp2
    exact bodyPost_ret (v := .agg #[.int .i64 a, .string b, .int .i64 c, .slice d0 d1 d2, .int .i64 l]) (by simp [results, Tryz.results177, go_sem, z0, z1, z2, z3, z4]) rfl HP.out
end Go.Proofs.YtghhamgealkodaaGreatDoor
/- syntax: single things: true, false, brackets. -/
namespace Go.Proofs.YtghhamgealkodaaGreatDoor
open Go.RowKit Go.Shelf

set_option maxRecDepth 100000 in
set_option maxHeartbeats 4000000 in
theorem rdSingleTrue (r g o cap : Nat) (t : Tk) (ts : List Tk) (w : World) (hi : isTk t [116, 114, 117, 101] = true) (h : RdAt r g o cap (t :: ts) w) (hE : EndsT (t :: ts)) (hk1 : t.k ≠ 1) (hk2 : t.k ≠ 2) (hk3 : t.k ≠ 3)  :
    Calls Tryz.prog 177 #[.pointer (some ⟨r, 0, none⟩)] w (PostE r g w (.ok (.mk 2 [] 1 [] t.line, ts))) := by
  have hr := h.lt.1
  have hgw := h.lt.2
  have h0 := h.alloc exZ
  have ch := rdHere r g o cap t ts _ h0
  obtain ⟨w2, hw2⟩ : ∃ w2, w2 = ((w.alloc exZ).alloc (tkO t)).alloc (tkO t) := ⟨_, rfl⟩
  have h2 : RdAt r g o cap (t :: ts) w2 := by rw [hw2]; exact (h0.alloc _).alloc _
  have k2 : Kept r w w2 := by rw [hw2]; exact (((Kept.refl r w).alloc _).alloc _).alloc _
  have n0 : w2.heap[w.heap.size]? = some exZ := by
    rw [hw2, Below.heap_alloc _ _ _ (by simp; omega), Below.heap_alloc _ _ _ (by simp)]
    exact World.alloc_heap_new _ _
  have n2 : w2.heap[w.heap.size + 1 + 1]? = some (tkO t) := by
    have hx := World.alloc_heap_new ((w.alloc exZ).alloc (tkO t)) (tkO t)
    rw [← hw2, show ((w.alloc exZ).alloc (tkO t)).heap.size = w.heap.size + 1 + 1 by simp] at hx
    exact hx
  have hl2 : w.heap.size + 1 + 1 < w2.heap.size := (Array.getElem?_eq_some_iff.1 n2).1
  have HW2 : Hid (w2 = ((w.alloc exZ).alloc (tkO t)).alloc (tkO t)) := hw2
  have HK2 : Hid (Kept r w w2) := k2
  have HN0 : Hid (w2.heap[w.heap.size]? = some exZ) := n0
  have HN2 : Hid (w2.heap[w.heap.size + 1 + 1]? = some (tkO t)) := n2
  have hk1' : ¬(t.k : Int) = 1 := by omega
  have hk2' : ¬(t.k : Int) = 2 := by omega
  have hk3' : ¬(t.k : Int) = 3 := by omega
  clear h h0 hw2 k2 n0 n2
  go_enter Tryz.func177, Tryz.ntmps177
  go_wp2_with fail
  refine ch.mono ?_
  clear ch
  rintro e w1 ⟨rfl, rfl⟩
  simp only [tkV]
  have HKw2 : Hid (Kept r w2 w2) := Kept.refl r w2
  have HRw2 : Hid (RdAt r g o cap (t :: ts) w2) := h2
  clear h2
  have cs := rdSkip r g o cap t ts [116, 114, 117, 101] w2 HRw2.out (fun hi => (hE.tail (isTk_kind hi)).ne)
  rw [hi] at cs
  go_wp2_with fail
  rw [← HW2.out]
  refine cs.mono ?_
  clear cs
  rintro e w9 ⟨rfl, hkx, hrx⟩
  have k29 : Kept r w2 w9 := HKw2.out.trans hkx
  have hr9 : RdAt r g (o + 5) (cap - 1) ts w9 := by simpa using hrx
  have p0 := (k29.block _ (by omega) (by omega)).trans HN0.out
  have p2 := (k29.block _ hl2 (by omega)).trans HN2.out
  obtain ⟨c0, c1, c2, c3, c4, -⟩ := cells5 p2
  obtain ⟨q0, q1, q2, q3, q4, qf⟩ := cells5 p0
  obtain ⟨z0, z1, z2, z3, z4⟩ := set5_cells p0 (.int .i64 2) (.string ⟨#[]⟩) (.int .i64 1) (.slice none 0 0) (.int .i64 t.line)
  have HP : Hid (PostE r g w (.ok (.mk 2 [] 1 [] t.line, ts)) (.returned (.agg #[.int .i64 2, .string ⟨#[]⟩, .int .i64 1, .slice none 0 0, .int .i64 t.line])) (set5 w9 w.heap.size (.int .i64 2) (.string ⟨#[]⟩) (.int .i64 1) (.slice none 0 0) (.int .i64 t.line))) :=
    PostE.of_set5 (B := w.heap.size + 1) 2 [] 1 t.line (HK2.out.trans k29) (Nat.le_refl _) hr hgw (.inl ⟨rfl, rfl⟩) (Nat.lt_succ_self _) hr9
  clear k29 hr9 p0 p2 hkx hrx
  go_wp2
  exact bodyPost_ret (v := .agg #[.int .i64 2, .string ⟨#[]⟩, .int .i64 1, .slice none 0 0, .int .i64 t.line]) (by simp [results, Tryz.results177, go_sem, z0, z1, z2, z3, z4]) rfl HP.out

set_option maxRecDepth 100000 in
set_option maxHeartbeats 4000000 in
theorem rdSingleFalse (r g o cap : Nat) (t : Tk) (ts : List Tk) (w : World) (hi : isTk t [102, 97, 108, 115, 101] = true) (h : RdAt r g o cap (t :: ts) w) (hE : EndsT (t :: ts)) (hk1 : t.k ≠ 1) (hk2 : t.k ≠ 2) (hk3 : t.k ≠ 3) (hiT : isTk t [116, 114, 117, 101] = false) :
    Calls Tryz.prog 177 #[.pointer (some ⟨r, 0, none⟩)] w (PostE r g w (.ok (.mk 2 [] 0 [] t.line, ts))) := by
  have hr := h.lt.1
  have hgw := h.lt.2
  have h0 := h.alloc exZ
  have ch := rdHere r g o cap t ts _ h0
  obtain ⟨w2, hw2⟩ : ∃ w2, w2 = ((w.alloc exZ).alloc (tkO t)).alloc (tkO t) := ⟨_, rfl⟩
  have h2 : RdAt r g o cap (t :: ts) w2 := by rw [hw2]; exact (h0.alloc _).alloc _
  have k2 : Kept r w w2 := by rw [hw2]; exact (((Kept.refl r w).alloc _).alloc _).alloc _
  have n0 : w2.heap[w.heap.size]? = some exZ := by
    rw [hw2, Below.heap_alloc _ _ _ (by simp; omega), Below.heap_alloc _ _ _ (by simp)]
    exact World.alloc_heap_new _ _
  have n2 : w2.heap[w.heap.size + 1 + 1]? = some (tkO t) := by
    have hx := World.alloc_heap_new ((w.alloc exZ).alloc (tkO t)) (tkO t)
    rw [← hw2, show ((w.alloc exZ).alloc (tkO t)).heap.size = w.heap.size + 1 + 1 by simp] at hx
    exact hx
  have hl2 : w.heap.size + 1 + 1 < w2.heap.size := (Array.getElem?_eq_some_iff.1 n2).1
  have HW2 : Hid (w2 = ((w.alloc exZ).alloc (tkO t)).alloc (tkO t)) := hw2
  have HK2 : Hid (Kept r w w2) := k2
  have HN0 : Hid (w2.heap[w.heap.size]? = some exZ) := n0
  have HN2 : Hid (w2.heap[w.heap.size + 1 + 1]? = some (tkO t)) := n2
  have hk1' : ¬(t.k : Int) = 1 := by omega
  have hk2' : ¬(t.k : Int) = 2 := by omega
  have hk3' : ¬(t.k : Int) = 3 := by omega
  clear h h0 hw2 k2 n0 n2
  go_enter Tryz.func177, Tryz.ntmps177
  go_wp2_with fail
  refine ch.mono ?_
  clear ch
  rintro e w1 ⟨rfl, rfl⟩
  simp only [tkV]
  have HKw2 : Hid (Kept r w2 w2) := Kept.refl r w2
  have HRw2 : Hid (RdAt r g o cap (t :: ts) w2) := h2
  clear h2
  have cs := rdSkip r g o cap t ts [116, 114, 117, 101] w2 HRw2.out (fun hi => (hE.tail (isTk_kind hi)).ne)
  rw [hiT] at cs
  go_wp2_with fail
  rw [← HW2.out]
  refine cs.mono ?_
  clear cs
  rintro e w3 ⟨rfl, hkx, hrx⟩
  have HKw3 : Hid (Kept r w2 w3) := HKw2.out.trans hkx
  have HRw3 : Hid (RdAt r g o cap (t :: ts) w3) := show RdAt _ _ _ _ _ _ by simpa using hrx
  clear hkx hrx HKw2 HRw2
  clear HW2
  have cs := rdSkip r g o cap t ts [102, 97, 108, 115, 101] w3 HRw3.out (fun hi => (hE.tail (isTk_kind hi)).ne)
  rw [hi] at cs
  go_wp2_with fail
  refine cs.mono ?_
  clear cs
  rintro e w9 ⟨rfl, hkx, hrx⟩
  have k29 : Kept r w2 w9 := HKw3.out.trans hkx
  have hr9 : RdAt r g (o + 5) (cap - 1) ts w9 := by simpa using hrx
  have p0 := (k29.block _ (by omega) (by omega)).trans HN0.out
  have p2 := (k29.block _ hl2 (by omega)).trans HN2.out
  obtain ⟨c0, c1, c2, c3, c4, -⟩ := cells5 p2
  obtain ⟨q0, q1, q2, q3, q4, qf⟩ := cells5 p0
  obtain ⟨z0, z1, z2, z3, z4⟩ := set5_cells p0 (.int .i64 2) (.string ⟨#[]⟩) (.int .i64 0) (.slice none 0 0) (.int .i64 t.line)
  have HP : Hid (PostE r g w (.ok (.mk 2 [] 0 [] t.line, ts)) (.returned (.agg #[.int .i64 2, .string ⟨#[]⟩, .int .i64 0, .slice none 0 0, .int .i64 t.line])) (set5 w9 w.heap.size (.int .i64 2) (.string ⟨#[]⟩) (.int .i64 0) (.slice none 0 0) (.int .i64 t.line))) :=
    PostE.of_set5 (B := w.heap.size + 1) 2 [] 0 t.line (HK2.out.trans k29) (Nat.le_refl _) hr hgw (.inl ⟨rfl, rfl⟩) (Nat.lt_succ_self _) hr9
  clear k29 hr9 p0 p2 hkx hrx
  go_wp2
  exact bodyPost_ret (v := .agg #[.int .i64 2, .string ⟨#[]⟩, .int .i64 0, .slice none 0 0, .int .i64 t.line]) (by simp [results, Tryz.results177, go_sem, z0, z1, z2, z3, z4]) rfl HP.out

/-- An expression in brackets, of what stands within. -/
def parenR (t : Tk) (res : PR Ex) : PR Ex :=
  if isTk t [40] = true then
    match res with
    | .error a => .error a
    | .ok (e, us) => if isTk (hdT us) [41] = true then .ok (e, us.tail) else .error (hdT us).at0
  else .error t.at0

set_option maxRecDepth 100000 in
set_option maxHeartbeats 4000000 in
theorem rdSingleParen (r g o cap : Nat) (t : Tk) (ts : List Tk) (w : World) (res : PR Ex) (hEnd : ∀ l us, res = .ok (l, us) → EndsT us) (hex : isTk t [40] = true → ∀ w1 o1 cap1, RdAt r g o1 cap1 ts w1 → Kept r w w1 → Calls Tryz.prog 37 #[.pointer (some ⟨r, 0, none⟩)] w1 (PostE r g w1 res)) (h : RdAt r g o cap (t :: ts) w) (hE : EndsT (t :: ts)) (hk1 : t.k ≠ 1) (hk2 : t.k ≠ 2) (hk3 : t.k ≠ 3) (hiT : isTk t [116, 114, 117, 101] = false) (hiF : isTk t [102, 97, 108, 115, 101] = false) (hiN : isTk t [110, 101, 119] = false) (hiB : isTk t [91] = false) :
    Calls Tryz.prog 177 #[.pointer (some ⟨r, 0, none⟩)] w (PostE r g w (parenR t res)) := by
  generalize hres : parenR t res = R
  have hr := h.lt.1
  have hgw := h.lt.2
  have h0 := h.alloc exZ
  have ch := rdHere r g o cap t ts _ h0
  obtain ⟨w2, hw2⟩ : ∃ w2, w2 = ((w.alloc exZ).alloc (tkO t)).alloc (tkO t) := ⟨_, rfl⟩
  have h2 : RdAt r g o cap (t :: ts) w2 := by rw [hw2]; exact (h0.alloc _).alloc _
  have k2 : Kept r w w2 := by rw [hw2]; exact (((Kept.refl r w).alloc _).alloc _).alloc _
  have n0 : w2.heap[w.heap.size]? = some exZ := by
    rw [hw2, Below.heap_alloc _ _ _ (by simp; omega), Below.heap_alloc _ _ _ (by simp)]
    exact World.alloc_heap_new _ _
  have n2 : w2.heap[w.heap.size + 1 + 1]? = some (tkO t) := by
    have hx := World.alloc_heap_new ((w.alloc exZ).alloc (tkO t)) (tkO t)
    rw [← hw2, show ((w.alloc exZ).alloc (tkO t)).heap.size = w.heap.size + 1 + 1 by simp] at hx
    exact hx
  have hl2 : w.heap.size + 1 + 1 < w2.heap.size := (Array.getElem?_eq_some_iff.1 n2).1
  have HW2 : Hid (w2 = ((w.alloc exZ).alloc (tkO t)).alloc (tkO t)) := hw2
  have HK2 : Hid (Kept r w w2) := k2
  have HN0 : Hid (w2.heap[w.heap.size]? = some exZ) := n0
  have HN2 : Hid (w2.heap[w.heap.size + 1 + 1]? = some (tkO t)) := n2
  have hk1' : ¬(t.k : Int) = 1 := by omega
  have hk2' : ¬(t.k : Int) = 2 := by omega
  have hk3' : ¬(t.k : Int) = 3 := by omega
  clear h h0 hw2 k2 n0 n2
  go_enter Tryz.func177, Tryz.ntmps177
  go_wp2_with fail
  refine ch.mono ?_
  clear ch
  rintro e w1 ⟨rfl, rfl⟩
  simp only [tkV]
  have HKw2 : Hid (Kept r w2 w2) := Kept.refl r w2
  have HRw2 : Hid (RdAt r g o cap (t :: ts) w2) := h2
  clear h2
  have cs := rdSkip r g o cap t ts [116, 114, 117, 101] w2 HRw2.out (fun hi => (hE.tail (isTk_kind hi)).ne)
  rw [hiT] at cs
  go_wp2_with fail
  rw [← HW2.out]
  refine cs.mono ?_
  clear cs
  rintro e w3 ⟨rfl, hkx, hrx⟩
  have HKw3 : Hid (Kept r w2 w3) := HKw2.out.trans hkx
  have HRw3 : Hid (RdAt r g o cap (t :: ts) w3) := show RdAt _ _ _ _ _ _ by simpa using hrx
  clear hkx hrx HKw2 HRw2
  clear HW2
  have cs := rdSkip r g o cap t ts [102, 97, 108, 115, 101] w3 HRw3.out (fun hi => (hE.tail (isTk_kind hi)).ne)
  rw [hiF] at cs
  go_wp2_with fail
  refine cs.mono ?_
  clear cs
  rintro e w4 ⟨rfl, hkx, hrx⟩
  have HKw4 : Hid (Kept r w2 w4) := HKw3.out.trans hkx
  have HRw4 : Hid (RdAt r g o cap (t :: ts) w4) := show RdAt _ _ _ _ _ _ by simpa using hrx
  clear hkx hrx HKw3 HRw3
  have cs := rdSkip r g o cap t ts [110, 101, 119] w4 HRw4.out (fun hi => (hE.tail (isTk_kind hi)).ne)
  rw [hiN] at cs
  go_wp2_with fail
  refine cs.mono ?_
  clear cs
  rintro e w5 ⟨rfl, hkx, hrx⟩
  have HKw5 : Hid (Kept r w2 w5) := HKw4.out.trans hkx
  have HRw5 : Hid (RdAt r g o cap (t :: ts) w5) := show RdAt _ _ _ _ _ _ by simpa using hrx
  clear hkx hrx HKw4 HRw4
  have cs := rdSkip r g o cap t ts [91] w5 HRw5.out (fun hi => (hE.tail (isTk_kind hi)).ne)
  rw [hiB] at cs
  go_wp2_with fail
  refine cs.mono ?_
  clear cs
  rintro e w6 ⟨rfl, hkx, hrx⟩
  have HKw6 : Hid (Kept r w2 w6) := HKw5.out.trans hkx
  have HRw6 : Hid (RdAt r g o cap (t :: ts) w6) := show RdAt _ _ _ _ _ _ by simpa using hrx
  clear hkx hrx HKw5 HRw5
  have cn := rdNeed r g o cap t ts [40] w6 HRw6.out (fun hi => (hE.tail (isTk_kind hi)).ne)
  by_cases hi : isTk t [40] = true
  · simp only [if_pos hi] at cn
    go_wp2_with fail
    refine cn.mono ?_
    clear cn
    rintro e w9 ⟨hkx, rfl, hr9⟩
    have k29 : Kept r w2 w9 := HKw6.out.trans hkx
    have c9 := hex hi w9 _ _ hr9 (HK2.out.trans k29)
    have HK9 : Hid (Kept r w2 w9) := k29
    clear hex hkx hr9 k29 HKw6 HRw6
    go_wp2_with fail
    refine c9.mono ?_
    clear c9
    rintro e w10 ⟨hk10, hpost⟩
    have HK10 : Hid (Kept r w2 w10) := HK9.out.trans hk10
    rcases res with a | ⟨x, us⟩
    · obtain rfl := hpost
      obtain rfl : R = .error a := by rw [← hres]; unfold parenR; rw [if_pos hi]
      exact ⟨rfl, HK2.out.trans HK10.out, rfl⟩
    · obtain ⟨v, o3, cap3, rfl, hx, hrd⟩ := hpost
      obtain ⟨a, b, c, d0, d1, d2, l, rfl⟩ := hx.agg
      have hE3 := hEnd x us rfl
      obtain ⟨t3, ts3, rfl⟩ := hE3.cons
      obtain ⟨w11, hw11⟩ : ∃ w11, w11 = w10.alloc (.cells #[.int .i64 a, .string b, .int .i64 c, .slice d0 d1 d2, .int .i64 l] 40) := ⟨_, rfl⟩
      have h11 : RdAt r g o3 cap3 (t3 :: ts3) w11 := by rw [hw11]; exact hrd.alloc _
      have b11 : w11.heap[w10.heap.size]? = some (.cells #[.int .i64 a, .string b, .int .i64 c, .slice d0 d1 d2, .int .i64 l] 40 (0, 0)) := by rw [hw11]; exact World.alloc_heap_new _ _
      have HK11 : Hid (Kept r w2 w11) := show Kept _ _ _ by rw [hw11]; exact HK10.out.alloc _
      have hx11 : ExAt w9.heap.size w11 x (.agg #[.int .i64 a, .string b, .int .i64 c, .slice d0 d1 d2, .int .i64 l]) := by rw [hw11]; exact ExAt.kept hx (by simp) fun k _ hlt => Below.heap_alloc _ _ _ hlt
      have HX11 : Hid (ExAt w9.heap.size w11 x (.agg #[.int .i64 a, .string b, .int .i64 c, .slice d0 d1 d2, .int .i64 l])) := hx11
      have HB11 : Hid (w11.heap[w10.heap.size]? = some (.cells #[.int .i64 a, .string b, .int .i64 c, .slice d0 d1 d2, .int .i64 l] 40 (0, 0))) := b11
      have cn := rdNeed r g o3 cap3 t3 ts3 [41] w11 h11 (fun hi => (hE3.tail (isTk_kind hi)).ne)
      have HW11 : Hid (w11 = w10.alloc (.cells #[.int .i64 a, .string b, .int .i64 c, .slice d0 d1 d2, .int .i64 l] 40)) := hw11
      have hs9 := HK9.out.size
      have hs10 := hk10.size
      have hlt11 : w10.heap.size < w11.heap.size := (Array.getElem?_eq_some_iff.1 b11).1
      clear hw11 h11 b11 hx11 hx hrd hk10
      by_cases hm : isTk t3 [41] = true
      · simp only [if_pos hm] at cn
        obtain rfl : R = .ok (x, ts3) := by rw [← hres]; unfold parenR; rw [if_pos hi]; simp only [hdT_cons, hm, if_true, List.tail_cons]
        go_wp2_with fail
        rw [← HW11.out]
        refine cn.mono ?_
        clear cn HW11
        rintro e w12 ⟨hk12, rfl, hr12⟩
        have k12 := HK11.out.trans hk12
        have p0 := (k12.block _ (by omega) (by omega)).trans HN0.out
        have pB := (hk12.block _ hlt11 (by omega)).trans HB11.out
        obtain ⟨c0, c1, c2, c3, c4, -⟩ := cells5 pB
        obtain ⟨q0, q1, q2, q3, q4, qf⟩ := cells5 p0
        obtain ⟨z0, z1, z2, z3, z4⟩ := set5_cells p0 (.int .i64 a) (.string b) (.int .i64 c) (.slice d0 d1 d2) (.int .i64 l)
        have hx12 : ExAt w9.heap.size w12 x (.agg #[.int .i64 a, .string b, .int .i64 c, .slice d0 d1 d2, .int .i64 l]) := ExAt.kept HX11.out hk12.size fun k hB hlt => hk12.block k hlt (by omega)
        have HP : Hid (PostE r g w (.ok (x, ts3)) (.returned (.agg #[.int .i64 a, .string b, .int .i64 c, .slice d0 d1 d2, .int .i64 l])) (set5 w12 w.heap.size (.int .i64 a) (.string b) (.int .i64 c) (.slice d0 d1 d2) (.int .i64 l))) :=
          PostE.of_set5' (HK2.out.trans k12) (Nat.le_refl _) hr hgw hx12 (by omega) hr12
        clear k12 hk12 hr12 p0 pB hx12
        go_wp2
        exact bodyPost_ret (v := .agg #[.int .i64 a, .string b, .int .i64 c, .slice d0 d1 d2, .int .i64 l]) (by simp [results, Tryz.results177, go_sem, z0, z1, z2, z3, z4]) rfl HP.out
      · simp only [if_neg hm] at cn
        obtain rfl : R = .error t3.at0 := by rw [← hres]; unfold parenR; rw [if_pos hi]; simp only [hdT_cons, if_neg hm]
        go_wp2_with fail
        rw [← HW11.out]
        refine cn.mono ?_
        clear cn
        rintro e w12 ⟨hk12, rfl⟩
        exact ⟨rfl, HK2.out.trans (HK11.out.trans hk12), rfl⟩
  · simp only [if_neg hi] at cn
    obtain rfl : R = .error t.at0 := by rw [← hres]; unfold parenR; rw [if_neg hi]
    clear hex hEnd
    go_wp2_with fail
    refine cn.mono ?_
    clear cn
    rintro e w9 ⟨hkx, rfl⟩
    exact ⟨rfl, HK2.out.trans (HKw6.out.trans hkx), rfl⟩
end Go.Proofs.YtghhamgealkodaaGreatDoor
/- syntax: single things: a row in brackets. -/
namespace Go.Proofs.YtghhamgealkodaaGreatDoor
open Go.RowKit Go.Shelf

theorem Kept.drew (r : Nat) (w : World) : Kept r w w.drew := ⟨rfl, rfl, rfl, Nat.le_refl _, fun _ _ _ => rfl⟩

/-- An expression was begun in a new block, whose row is l. -/
def NewRel (r g : Nat) (w2 : World) (l : List Ex) (us : List Tk) (x0 x1 x2 x4 : Value) (v : Value) (wx : World) : Prop :=
  ∃ (P : Nat) (d0 : Option Addr) (d1 d2 : Nat), v = .pointer (some ⟨P, 0, none⟩) ∧ wx.heap[P]? = some (.cells #[x0, x1, x2, .slice d0 d1 d2, x4] 40 (0, 0)) ∧ RowIn (fun k => w2.heap.size ≤ k ∧ k ≠ P) wx l (.slice d0 d1 d2) ∧ (∃ o cap, RdAt r g o cap us wx) ∧ Kept r w2 wx ∧ w2.heap.size ≤ P

theorem RowIn.low {S : Nat → Prop} {w : World} {l : List Ex} {v : Value} (h : RowIn S w l v) : RowIn (fun k => S k ∧ k < w.heap.size) w l v := by
  rcases h with h | ⟨g, cap, us, hv, hne, hlen, hB, hg, hc, hm, hcell, hfive, hk⟩
  · exact .inl h
  · exact .inr ⟨g, cap, us, hv, hne, hlen, ⟨hB, hg⟩, hg, hc, hm, hcell, hfive, fun j x c hx hc' => ExIn.low (hk j x c hx hc')⟩

theorem NewRel.alloc {r g : Nat} {w2 W w7 : World} {l : List Ex} {t : Tk} {us : List Tk} {d0 : Option Addr} {d1 d2 : Nat} (x0 x1 x2 x4 : Value) (hW : Kept r w2 W) (hk : Kept r W w7) (hrow : RowAt W.heap.size w7 l (.slice d0 d1 d2)) (hrd : ∃ o cap, RdAt r g o cap (t :: us) w7) :
    NewRel r g w2 l (t :: us) x0 x1 x2 x4 (.pointer (some ⟨w7.heap.size, 0, none⟩)) (w7.alloc (.cells #[x0, x1, x2, .slice d0 d1 d2, x4] 40)) := by
  obtain ⟨o, cap, hrd⟩ := hrd
  have h1 := hW.size
  have h2 := hk.size
  refine ⟨w7.heap.size, d0, d1, d2, rfl, World.alloc_heap_new _ _, ?_, ⟨o, cap, hrd.alloc _⟩, (hW.trans hk).alloc _, by omega⟩
  exact RowIn.wide (RowIn.kept (RowIn.low hrow) (by simp) fun k hk' _ => Below.heap_alloc _ _ _ hk'.2) fun k hk' => ⟨by omega, by omega⟩

theorem NewRel.set {r g P : Nat} {w2 W w7 : World} {l : List Ex} {t : Tk} {us : List Tk} {d0 : Option Addr} {d1 d2 : Nat} (x0 x1 x2 x4 : Value) (hW : Kept r w2 W) (hk : Kept r W w7) (hrow : RowAt W.heap.size w7 l (.slice d0 d1 d2)) (hrd : ∃ o cap, RdAt r g o cap (t :: us) w7)
    (hr : r < w2.heap.size) (hg : g < w2.heap.size) (hP : w2.heap.size ≤ P) (hPW : P < W.heap.size) (hb : w7.heap[P]? = some exZ) :
    NewRel r g w2 l (t :: us) x0 x1 x2 x4 (.pointer (some ⟨P, 0, none⟩)) (set5 w7 P x0 x1 x2 (.slice d0 d1 d2) x4) := by
  obtain ⟨o, cap, hrd⟩ := hrd
  refine ⟨P, d0, d1, d2, rfl, set5_block hb _ _ _ _ _, ?_, ⟨o, cap, hrd.keep (set5_keep _ _ _ _ _ _ _ (by omega)) (set5_keep _ _ _ _ _ _ _ (by omega))⟩, set5_kept (hW.trans hk) hP _ _ _ _ _, hP⟩
  exact RowIn.wide (RowIn.kept hrow (w' := set5 w7 P x0 x1 x2 (.slice d0 d1 d2) x4) (by simp) fun k hk' _ => set5_keep _ _ _ _ _ _ _ (by omega)) fun k hk' => ⟨by have := hW.size; omega, by omega⟩

/-- A row in brackets, of what stands within. -/
def arrayR (t : Tk) (res : PR (List Ex)) : PR Ex :=
  match res with
  | .error a => .error a
  | .ok (l, us) => if isTk (hdT us) [93] = true then .ok (.mk 10 [] 0 l t.line, us.tail) else .error (hdT us).at0

set_option maxRecDepth 100000 in
set_option maxHeartbeats 4000000 in
theorem rdSingleArray (r g o cap : Nat) (t : Tk) (ts : List Tk) (w : World) (res : PR (List Ex)) (hi : isTk t [91] = true) (hEnd : ∀ l us, res = .ok (l, us) → EndsT us) (hex : ∀ w1 o1 cap1, RdAt r g o1 cap1 ts w1 → Kept r w w1 → Calls Tryz.prog 197 #[.pointer (some ⟨r, 0, none⟩), .func (.func 37) #[.pointer (some ⟨r, 0, none⟩)] #[]] w1 (PostL r g w1 res)) (h : RdAt r g o cap (t :: ts) w) (hE : EndsT (t :: ts)) (hk1 : t.k ≠ 1) (hk2 : t.k ≠ 2) (hk3 : t.k ≠ 3) (hiT : isTk t [116, 114, 117, 101] = false) (hiF : isTk t [102, 97, 108, 115, 101] = false) (hiN : isTk t [110, 101, 119] = false) :
    Calls Tryz.prog 177 #[.pointer (some ⟨r, 0, none⟩)] w (PostE r g w (arrayR t res)) := by
  generalize hres : arrayR t res = R
  have hmf : ∀ (fn : Fn) (first cap : Array Value) (w : World), (Instr.makeFunc fn first cap).run Tryz.prog w = .ok (.func fn first cap) w := fun _ _ _ _ => rfl
  have hr := h.lt.1
  have hgw := h.lt.2
  have h0 := h.alloc exZ
  have ch := rdHere r g o cap t ts _ h0
  obtain ⟨w2, hw2⟩ : ∃ w2, w2 = ((w.alloc exZ).alloc (tkO t)).alloc (tkO t) := ⟨_, rfl⟩
  have h2 : RdAt r g o cap (t :: ts) w2 := by rw [hw2]; exact (h0.alloc _).alloc _
  have k2 : Kept r w w2 := by rw [hw2]; exact (((Kept.refl r w).alloc _).alloc _).alloc _
  have n0 : w2.heap[w.heap.size]? = some exZ := by
    rw [hw2, Below.heap_alloc _ _ _ (by simp; omega), Below.heap_alloc _ _ _ (by simp)]
    exact World.alloc_heap_new _ _
  have n2 : w2.heap[w.heap.size + 1 + 1]? = some (tkO t) := by
    have hx := World.alloc_heap_new ((w.alloc exZ).alloc (tkO t)) (tkO t)
    rw [← hw2, show ((w.alloc exZ).alloc (tkO t)).heap.size = w.heap.size + 1 + 1 by simp] at hx
    exact hx
  have hl2 : w.heap.size + 1 + 1 < w2.heap.size := (Array.getElem?_eq_some_iff.1 n2).1
  have HW2 : Hid (w2 = ((w.alloc exZ).alloc (tkO t)).alloc (tkO t)) := hw2
  have HK2 : Hid (Kept r w w2) := k2
  have HN0 : Hid (w2.heap[w.heap.size]? = some exZ) := n0
  have HN2 : Hid (w2.heap[w.heap.size + 1 + 1]? = some (tkO t)) := n2
  have hk1' : ¬(t.k : Int) = 1 := by omega
  have hk2' : ¬(t.k : Int) = 2 := by omega
  have hk3' : ¬(t.k : Int) = 3 := by omega
  clear h h0 hw2 k2 n0 n2
  go_enter Tryz.func177, Tryz.ntmps177
  go_wp2_with fail
  refine ch.mono ?_
  clear ch
  rintro e w1 ⟨rfl, rfl⟩
  simp only [tkV]
  have HKw2 : Hid (Kept r w2 w2) := Kept.refl r w2
  have HRw2 : Hid (RdAt r g o cap (t :: ts) w2) := h2
  clear h2
  have cs := rdSkip r g o cap t ts [116, 114, 117, 101] w2 HRw2.out (fun hi => (hE.tail (isTk_kind hi)).ne)
  rw [hiT] at cs
  go_wp2_with fail
  rw [← HW2.out]
  refine cs.mono ?_
  clear cs
  rintro e w3 ⟨rfl, hkx, hrx⟩
  have HKw3 : Hid (Kept r w2 w3) := HKw2.out.trans hkx
  have HRw3 : Hid (RdAt r g o cap (t :: ts) w3) := show RdAt _ _ _ _ _ _ by simpa using hrx
  clear hkx hrx HKw2 HRw2
  clear HW2
  have cs := rdSkip r g o cap t ts [102, 97, 108, 115, 101] w3 HRw3.out (fun hi => (hE.tail (isTk_kind hi)).ne)
  rw [hiF] at cs
  go_wp2_with fail
  refine cs.mono ?_
  clear cs
  rintro e w4 ⟨rfl, hkx, hrx⟩
  have HKw4 : Hid (Kept r w2 w4) := HKw3.out.trans hkx
  have HRw4 : Hid (RdAt r g o cap (t :: ts) w4) := show RdAt _ _ _ _ _ _ by simpa using hrx
  clear hkx hrx HKw3 HRw3
  have cs := rdSkip r g o cap t ts [110, 101, 119] w4 HRw4.out (fun hi => (hE.tail (isTk_kind hi)).ne)
  rw [hiN] at cs
  go_wp2_with fail
  refine cs.mono ?_
  clear cs
  rintro e w5 ⟨rfl, hkx, hrx⟩
  have HKw5 : Hid (Kept r w2 w5) := HKw4.out.trans hkx
  have HRw5 : Hid (RdAt r g o cap (t :: ts) w5) := show RdAt _ _ _ _ _ _ by simpa using hrx
  clear hkx hrx HKw4 HRw4
  have cs := rdSkip r g o cap t ts [91] w5 HRw5.out (fun hi => (hE.tail (isTk_kind hi)).ne)
  rw [hi] at cs
  go_wp2_with fail
  refine cs.mono ?_
  clear cs
  rintro e w6 ⟨rfl, hkx, hrx⟩
  have k26 : Kept r w2 w6 := HKw5.out.trans hkx
  have hr6 : RdAt r g (o + 5) (cap - 1) ts w6 := by simpa using hrx
  have hE6 := hE.tail (isTk_kind hi)
  obtain ⟨t6, ts6, rfl⟩ := hE6.cons
  have p2 := (k26.block _ hl2 (by omega)).trans HN2.out
  obtain ⟨-, -, -, c3, -, -⟩ := cells5 p2
  have c3' := cell_al c3
  have hs6 := k26.size
  have HK6 : Hid (Kept r w2 w6) := k26
  have HP2 : Hid (w6.heap[w.heap.size + 1 + 1]? = some (tkO t)) := p2
  have cb : ∀ W : World, Kept r w6 W → RdAt r g (o + 5) (cap - 1) (t6 :: ts6) W → Calls Tryz.prog 197 #[.pointer (some ⟨r, 0, none⟩), .func (.func 37) #[.pointer (some ⟨r, 0, none⟩)] #[]] W fun e w' => Kept r W w' ∧ PostL r g W res e w' := fun W hK hR =>
    (hex W _ _ hR (HK2.out.trans (HK6.out.trans hK))).mono fun e w' h => ⟨h.1, h⟩
  have HR6 : Hid (RdAt r g (o + 5) (cap - 1) (t6 :: ts6) w6) := hr6
  clear hex hkx hrx k26 hr6 p2 HKw5 HRw5
  rcases res with a | ⟨l, us⟩
  · obtain rfl : R = .error a := by rw [← hres]; unfold arrayR; rfl
    have cu' : ∀ W : World, Kept r w6 W → RdAt r g (o + 5) (cap - 1) (t6 :: ts6) W → Calls Tryz.prog 197 #[.pointer (some ⟨r, 0, none⟩), .func (.func 37) #[.pointer (some ⟨r, 0, none⟩)] #[]] W fun e w' => e = gaveUp a ∧ Kept r w w' := fun W hK hR => (cb W hK hR).mono fun e w' h => ⟨h.2.2, HK2.out.trans (HK6.out.trans (hK.trans h.1))⟩
    clear cb
    go_wp2_with fail
    go_region_dies
    all_goals
      go_wp2_with fail
      refine (cu' _ ?_ ?_).mono ?_
      · first | exact Kept.drew r w6 | exact ((Kept.refl r w6).alloc _).trans (Kept.drew _ _)
      · first | exact HR6.out.keep rfl rfl | exact (HR6.out.alloc _).keep rfl rfl
      · rintro e w4 ⟨rfl, hk4⟩; exact ⟨rfl, hk4, rfl⟩
  · have hE3 := hEnd l us rfl
    obtain ⟨t3, ts3, rfl⟩ := hE3.cons
    have cu' : ∀ W : World, Kept r w6 W → RdAt r g (o + 5) (cap - 1) (t6 :: ts6) W → Calls Tryz.prog 197 #[.pointer (some ⟨r, 0, none⟩), .func (.func 37) #[.pointer (some ⟨r, 0, none⟩)] #[]] W fun e w' => ∃ (d0 : Option Addr) (d1 d2 : Nat), e = .returned (.slice d0 d1 d2) ∧ w'.cell? ⟨w.heap.size + 1 + 1, 3, none⟩ = some (.int .i64 t.line) ∧ W.heap.size ≤ w'.heap.size ∧ (W.heap[w6.heap.size]? = some exZ → w'.heap[w6.heap.size]? = some exZ) ∧
        Hid (Kept r w2 W ∧ Kept r W w' ∧ RowAt W.heap.size w' l (.slice d0 d1 d2) ∧ ∃ o cap, RdAt r g o cap (t3 :: ts3) w') := fun W hK hR => (cb W hK hR).mono fun e w' h => by
      obtain ⟨hk4, -, v, o4, cap4, rfl, hrow, hrd⟩ := h
      obtain ⟨d0, d1, d2, rfl⟩ : ∃ d0 d1 d2, v = .slice d0 d1 d2 := by
        rcases hrow with ⟨-, rfl⟩ | ⟨_, _, _, rfl, _⟩
        · exact ⟨_, _, _, rfl⟩
        · exact ⟨_, _, _, rfl⟩
      refine ⟨d0, d1, d2, rfl, hk4.cell (p := ⟨w.heap.size + 1 + 1, 3, none⟩) (by simp; omega) (hK.cell (p := ⟨w.heap.size + 1 + 1, 3, none⟩) (by simp; omega) c3), hk4.size, fun hz => ?_, HK6.out.trans hK, hk4, hrow, o4, cap4, hrd⟩
      exact (hk4.block _ (Array.getElem?_eq_some_iff.1 hz).1 (by omega)).trans hz
    clear cb
    go_wp2_with fail
    go_cut [5] (fun v wx => NewRel r g w2 l (t3 :: ts3) (.int .i64 10) (.string ⟨#[]⟩) (.int .i64 0) (.int .i64 t.line) v wx)
    case first =>
      go_region_held3 (fun W => W.cell? ⟨w.heap.size + 1 + 1, 3, none⟩ = some (.int .i64 t.line)) (first | go_keep | exact set5_far _ _ _ _ _ (by omega) m3 | exact set5_far _ _ _ _ _ (by omega) (m3' _)) (first | (go_at_call 197; refine (cu' _ (by first | exact Kept.drew r w6 | exact ((Kept.refl r w6).alloc _).trans (Kept.drew _ _)) (by first | exact HR6.out.keep rfl rfl | exact (HR6.out.alloc _).keep rfl rfl)).mono ?_; rintro e' w7 ⟨d0, d1, d2, rfl, m3, hs7, hz7, H7⟩; have m3' := cell_al m3; first | (have p6 := hz7 (World.alloc_heap_new w6 _); obtain ⟨q0, q1, q2, q3, q4, qf⟩ := cells5 p6) | skip))
      all_goals (obtain ⟨hkW, hk7, hrow7, hrd7⟩ := H7.out)
      all_goals first
        | (have HN : Hid (NewRel r g w2 l (t3 :: ts3) (.int .i64 10) (.string ⟨#[]⟩) (.int .i64 0) (.int .i64 t.line) (.pointer (some ⟨w6.heap.size, 0, none⟩)) (set5 w7 w6.heap.size (.int .i64 10) (.string ⟨#[]⟩) (.int .i64 0) (.slice d0 d1 d2) (.int .i64 t.line))) := NewRel.set _ _ _ _ hkW hk7 hrow7 hrd7 (by omega) (by omega) (by omega) (by simp) p6
           clear cu' H7 hkW hk7 hrow7 hrd7 hz7
           go_wp2_with fail
           go_meet
           exact HN.out)
        | (have HN : Hid (NewRel r g w2 l (t3 :: ts3) (.int .i64 10) (.string ⟨#[]⟩) (.int .i64 0) (.int .i64 t.line) (.pointer (some ⟨w7.heap.size, 0, none⟩)) (w7.alloc (.cells #[.int .i64 10, .string ⟨#[]⟩, .int .i64 0, .slice d0 d1 d2, .int .i64 t.line] 40))) := NewRel.alloc _ _ _ _ hkW hk7 hrow7 hrd7
           clear cu' H7 hkW hk7 hrow7 hrd7 hz7
           go_wp2_with fail
           go_meet
           exact HN.out)
    case rest =>
      obtain ⟨P, d0, d1, d2, rfl, hP, hrow, ⟨o3, cap3, hrd⟩, hk, hle⟩ := hcut
      have hs : w2.heap.size ≤ wc.heap.size := hk.size
      have hPlt : P < wc.heap.size := (Array.getElem?_eq_some_iff.1 hP).1
      have cn := rdNeed r g o3 cap3 t3 ts3 [93] wc hrd (fun hi => (hE3.tail (isTk_kind hi)).ne)
      have HKC : Hid (Kept r w2 wc) := hk
      have HPC : Hid (wc.heap[P]? = some (.cells #[.int .i64 10, .string ⟨#[]⟩, .int .i64 0, .slice d0 d1 d2, .int .i64 t.line] 40 (0, 0))) := hP
      have HROW : Hid (RowIn (fun k => w2.heap.size ≤ k ∧ k ≠ P) wc l (.slice d0 d1 d2)) := hrow
      clear hP hrow hrd hk cu'
      by_cases hm : isTk t3 [93] = true
      · simp only [if_pos hm] at cn
        obtain rfl : R = .ok (.mk 10 [] 0 l t.line, ts3) := by rw [← hres]; unfold arrayR; simp only [hdT_cons, hm, if_true, List.tail_cons]
        go_wp2_with fail
        refine cn.mono ?_
        clear cn
        rintro e w12 ⟨hk12, rfl, hr12⟩
        have k12 := HKC.out.trans hk12
        have p0 := (k12.block _ (by omega) (by omega)).trans HN0.out
        have pB := (hk12.block _ hPlt (by omega)).trans HPC.out
        obtain ⟨e0, e1, e2, e3, e4, -⟩ := cells5 pB
        obtain ⟨q0, q1, q2, q3, q4, qf⟩ := cells5 p0
        obtain ⟨z0, z1, z2, z3, z4⟩ := set5_cells p0 (.int .i64 10) (.string ⟨#[]⟩) (.int .i64 0) (.slice d0 d1 d2) (.int .i64 t.line)
        have hrow12 : RowAt w2.heap.size w12 l (.slice d0 d1 d2) := RowIn.wide (RowIn.kept HROW.out hk12.size fun k hk' hlt => hk12.block k hlt (by omega)) fun k hk' => hk'.1
        have HP : Hid (PostE r g w (.ok (.mk 10 [] 0 l t.line, ts3)) (.returned (.agg #[.int .i64 10, .string ⟨#[]⟩, .int .i64 0, .slice d0 d1 d2, .int .i64 t.line])) (set5 w12 w.heap.size (.int .i64 10) (.string ⟨#[]⟩) (.int .i64 0) (.slice d0 d1 d2) (.int .i64 t.line))) :=
          PostE.of_set5 (B := w2.heap.size) 10 [] 0 t.line (HK2.out.trans k12) (Nat.le_refl _) hr hgw hrow12 (by omega) hr12
        clear k12 hk12 hr12 p0 pB hrow12
        go_wp2
        exact bodyPost_ret (v := .agg #[.int .i64 10, .string ⟨#[]⟩, .int .i64 0, .slice d0 d1 d2, .int .i64 t.line]) (by simp [results, Tryz.results177, go_sem, z0, z1, z2, z3, z4]) rfl HP.out
      · simp only [if_neg hm] at cn
        obtain rfl : R = .error t3.at0 := by rw [← hres]; unfold arrayR; simp only [hdT_cons, if_neg hm]
        go_wp2_with fail
        refine cn.mono ?_
        clear cn
        rintro e w12 ⟨hk12, rfl⟩
        exact ⟨rfl, HK2.out.trans (HKC.out.trans hk12), rfl⟩
end Go.Proofs.YtghhamgealkodaaGreatDoor
