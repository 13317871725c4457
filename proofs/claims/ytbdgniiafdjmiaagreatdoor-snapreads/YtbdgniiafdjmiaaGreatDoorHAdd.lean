/- heap: an object is put behind all others. -/
import Derived.Test.YtbdgniiafdjmiaaGreatDoorHAnew
import Derived.Test.YtbdgniiafdjmiaaGreatDoorWAll
import Derived.Deep.RegionLaw
import Derived.Deep.DeepCutAuto
import Derived.BigRegion
namespace Go.Proofs.YtbdgniiafdjmiaaGreatDoor
open Go.RowKit Go.Shelf

theorem step_append_at {P : Program} {ops : Array Oper} {o : Oper} {a : Act} {w : World} {K : Act → World → Prop} {Q : Exit → Act → World → Prop} {E : Prop} (s x : Operand) (t : TypeId)
    (ho : o.op = .call { callee := .builtin .append, args := #[s, x], argTypes := #[t, t] }) (hw : Region.wanted o (yielded ops a.tmps) = true)
    (base : Nat) (e : TypeId) (i : TypeInfo) (z : Value) (size bytes : Nat) (ht : P.underlying t = some (.slice e)) (hi : P.info? e = some i) (hz : i.zero = some z)
    (hsize : i.size = size) (hby : i.bytes = bytes) (hzs : z.cells.size = size) (hsz : 0 < size)
    (v : Value) (n : Nat) (xs : List Value) (hs : a.eval s = v) (hown : w.ownsRow base e size v n xs)
    (ad : Addr) (m c : Nat) (news : List Value) (hx : a.eval x = .slice (some ad) m c) (hl : news.length = m * size) (hnews : ∀ j u, news[j]? = some u → w.cell? (ad.add j) = some u) (h1 : ∀ u ∈ news, u.oneCell' = true)
    (h63 : n + m ≤ maxLen) (hbytes : (n + m) * bytes ≤ 140737488355328) (hbase : base ≤ w.heap.size)
    (h : ∀ v' w', w'.ownsRow base e size v' (n + m) (xs ++ news) → w.grownBy w' v.ownBlock → (v'.ownBlock = v.ownBlock ∨ v'.ownBlock = some w.heap.size) → K (a.put o.dst v') w') :
    if Region.wanted o (yielded ops a.tmps) = true then Oper.wp P o a w K Q else E := by
  rw [if_pos hw]
  obtain ⟨v', w', hrun, g1, g2, -, g4⟩ := run_append_own_at (P := P) w base t o.type e i z size bytes ht hi hz hsize hby hzs hsz v n xs hown ad m c news hl hnews h1 h63 hbytes hbase
  unfold Oper.wp
  simp [execOp, ho, resolve, invoke, builtin, hs, hx, hrun, Result.andThen]
  exact h v' w' g1 g2 g4

theorem own_type {w : World} {B e sz n k : Nat} {v : Value} {xs : List Value} (h : w.ownsRow B e sz v n xs) (hk : v.ownBlock = some k) : ∃ cur, w.heap[k]? = some (.cells cur e (0, 0)) := by
  rcases h.2 with ⟨rfl, _⟩ | ⟨g, cap, cur, rfl, _, hh, _⟩
  · simp [Value.ownBlock] at hk
  · simp [Value.ownBlock] at hk
    subst hk
    exact ⟨cur, hh⟩

theorem HpIn.apart {S : Nat → Prop} {w : World} {most : Nat} {os : List Ob} {h : Nat} {vo vc : Value} (H : HpIn S w most os h vo vc) : vo.ownBlock ≠ some h ∧ vc.ownBlock ≠ some h ∧ ∀ k, vo.ownBlock = some k → vc.ownBlock ≠ some k := by
  refine ⟨fun e => ?_, fun e => ?_, fun k e e' => ?_⟩
  · obtain ⟨cur, hc⟩ := own_type H.objs e
    rw [H.blk] at hc
    simp at hc
  · obtain ⟨cur, hc⟩ := own_type H.cells e
    rw [H.blk] at hc
    simp at hc
  · obtain ⟨cur, hc⟩ := own_type H.objs e
    obtain ⟨cur', hc'⟩ := own_type H.cells e'
    rw [hc] at hc'
    simp at hc'

/-- The heap at h while an object is put: its cells are there, it is not. -/
def AddMid (S : Nat → Prop) (w : World) (most : Nat) (os : List Ob) (h : Nat) (vo : Value) (tag : List UInt8) (vl : Value) (l : List Vl) (vc : Value) (wx : World) : Prop :=
  wx.heap[h]? = some (.cells #[.bool true, .int .i64 (most : Int), vo, vc] 153 (0, 0)) ∧ wx.ownsRow 0 167 3 vo os.length (objC 0 os) ∧ wx.ownsRow 0 54 3 vc ((allV os).length + l.length) (vlC (allV os) ++ vlC l) ∧
    wx.heap[w.heap.size]? = some (.cells #[.string (strB tag), vl] 51 (0, 0)) ∧ KeptS S w wx ∧ ∀ k, vc.ownBlock = some k → S k ∨ w.heap.size ≤ k

theorem AddMid.mk {S : Nat → Prop} {w w1 w2 w3 : World} {most : Nat} {os : List Ob} {h : Nat} {vo vc vc' : Value} {tag : List UInt8} {vl : Value} {l : List Vl} (hb1 : Below w.heap.size w w1) (hz : w1.heap.size = w.heap.size + 1) (hh : h < w.heap.size)
    (hblk1 : w1.heap[w.heap.size]? = some (.cells #[.string (strB tag), vl] 51 (0, 0))) (H2 : HpIn S w2 most os h vo vc) (hb2 : Below w1.heap.size w1 w2) (hown : w3.ownsRow 0 54 3 vc' ((allV os).length + l.length) (vlC (allV os) ++ vlC l))
    (hg : w2.grownBy w3 vc.ownBlock) (hat : vc'.ownBlock = vc.ownBlock ∨ vc'.ownBlock = some w2.heap.size) : AddMid S w most os h vo tag vl l vc' (w3.setCell ⟨h, 3, none⟩ vc') := by
  have hap := H2.apart
  have hs2 : w1.heap.size ≤ w2.heap.size := hb2.size
  have k3 : KeptS S w w3 := (KeptS.of (hb1.trans (hb2.mono (by omega)))).grown hg fun k e _ => H2.sc k e
  have hne : ∀ k, vc'.ownBlock = some k → k ≠ h := fun k e e' => by
    subst e'
    rcases hat with h9 | h9
    · exact hap.2.1 (h9.symm.trans e)
    · rw [e] at h9
      have := Option.some.inj h9
      omega
  have hw : w.heap.size ≠ h := by omega
  refine ⟨?_, ?_, ?_, ?_, k3.set _ (fun _ => H2.sh), fun k e => ?_⟩
  · exact setCellH_block _ ((hg.block h H2.lt fun e => hap.2.1 e.symm).trans H2.blk)
  · refine own_blocks (w := w3) (own_blocks H2.objs fun k e hk => hg.block k hk fun e' => hap.2.2 k e e'.symm) fun k e _ => Below.heap_setCell _ _ _ _ (by intro e'; simp only at e'; subst e'; exact hap.1 e)
  · exact own_blocks hown fun k e _ => Below.heap_setCell _ _ _ _ (hne k e)
  · rw [Below.heap_setCell _ _ _ _ (by simpa using hw), hg.block _ (by omega) (fun e => ?_), hb2.block _ (by omega)]
    · exact hblk1
    · obtain ⟨cur, hc⟩ := own_type H2.cells e.symm
      rw [hb2.block _ (by omega), hblk1] at hc
      simp at hc
  · rcases hat with h9 | h9
    · exact .inl (H2.sc k (h9.symm.trans e))
    · rw [e] at h9
      have := Option.some.inj h9
      right; omega

/-- .. and then it is. -/
theorem AddMid.done {S : Nat → Prop} {w wc w2 w3 : World} {most : Nat} {os : List Ob} {h : Nat} {vo vo' vc : Value} {tag : List UInt8} {vl : Value} {l : List Vl} (hM : AddMid S w most os h vo tag vl l vc wc) (hh : h < w.heap.size) (hSh : S h) (hso : ∀ k, vo.ownBlock = some k → S k) (hb2 : Below wc.heap.size wc w2)
    (hown : (w3.ownsRow 0 167 3 vo' (os.length + 1) (objC 0 os ++ [.string (strB tag), .int .i64 ((allV os).length : Int), .int .i64 ((allV os).length + l.length : Int)])))
    (o : Obj) (hg : (w2.alloc o).grownBy w3 vo.ownBlock) (hat : vo'.ownBlock = vo.ownBlock ∨ vo'.ownBlock = some (w2.alloc o).heap.size) (hok : ∀ o ∈ os ++ [(tag, l)], obB o (os ++ [(tag, l)]).length = true ∧ smallO o) (hu : os.length + (allV os).length + 1 + l.length ≤ most) (hmay : most ≤ 4096) :
    KeptS S w (w3.setCell ⟨h, 2, none⟩ vo') ∧ HpIn (fun k => S k ∨ w.heap.size ≤ k) (w3.setCell ⟨h, 2, none⟩ vo') most (os ++ [(tag, l)]) h vo' vc := by
  obtain ⟨m1, m2, m3, m4, m5, m6⟩ := hM
  have hsw := m5.size
  have hs2 := hb2.size
  have hsa : (w2.alloc o).heap.size = w2.heap.size + 1 := by simp
  have hlt : h < wc.heap.size := (Array.getElem?_eq_some_iff.1 m1).1
  have hoh : vo.ownBlock ≠ some h := fun e => by
    obtain ⟨cur, hc⟩ := own_type m2 e
    rw [m1] at hc; simp at hc
  have hch : vc.ownBlock ≠ some h := fun e => by
    obtain ⟨cur, hc⟩ := own_type m3 e
    rw [m1] at hc; simp at hc
  have hoc : ∀ k, vc.ownBlock = some k → vo.ownBlock ≠ some k := fun k e e' => by
    obtain ⟨cur, hc⟩ := own_type m2 e'
    obtain ⟨cur', hc'⟩ := own_type m3 e
    rw [hc] at hc'; simp at hc'
  have hat' : ∀ k, vo'.ownBlock = some k → vo.ownBlock = some k ∨ wc.heap.size ≤ k := fun k e => by
    rcases hat with h9 | h9
    · exact .inl (h9.symm.trans e)
    · rw [e] at h9
      have := Option.some.inj h9
      right; omega
  have hkeep : ∀ k, k < wc.heap.size → vo.ownBlock ≠ some k → w3.heap[k]? = wc.heap[k]? := fun k hk hne => by
    rw [hg.block k (by omega) (fun e => hne e.symm), Below.heap_alloc _ _ _ (by omega), hb2.block k hk]
  have k3 : KeptS S w w3 := (m5.trans (KeptS.of (S := S) hb2) fun _ _ h => h).alloc o |>.grown hg fun k e _ => hso k e
  refine ⟨k3.set _ (fun _ => hSh), ?_⟩
  refine ⟨?_, ?_, ?_, .inl hSh, fun k e => ?_, fun k e => m6 k e, hok, ?_, hmay⟩
  · exact setCellH_block _ ((hkeep h hlt hoh).trans m1)
  · rw [objC_snoc, List.length_append]
    refine own_blocks (w := w3) ?_ fun k e _ => Below.heap_setCell _ _ _ _ (fun e' => ?_)
    · simpa using hown
    · simp only at e'
      subst e'
      rcases hat' k e with h9 | h9
      · exact hoh h9
      · omega
  · rw [allV_snoc, List.length_append, vlC_app]
    exact own_blocks m3 fun k e hk => (Below.heap_setCell _ _ _ _ (fun e' => hch (by simp only at e'; rw [e, e']))).trans (hkeep k hk (hoc k e))
  · rcases hat' k e with h9 | h9
    · exact .inl (hso k h9)
    · right; omega
  · rw [allV_snoc, List.length_append, List.length_append, List.length_singleton]; simp only; omega

set_option maxRecDepth 100000 in
set_option maxHeartbeats 8000000 in
theorem add_any (S T : Nat → Prop) (most : Nat) (os : List Ob) (h : Nat) (vo vc : Value) (o : Ob) (vl : Value) (w : World) (H : HpIn S w most os h vo vc) (hv : valsIn T w vl o.2) (ho : smallO o) (hok : obB o (os.length + 1 : Nat) = true) (hu : os.length + (allV os).length + 1 + o.2.length ≤ most) :
    Calls Tryz.prog 107 #[.pointer (some ⟨h, 0, none⟩), .agg #[.string (strB o.1), vl]] w fun e w' => e = .returned (.tuple #[]) ∧ KeptS S w w' ∧ ∃ vo' vc', HpIn (fun k => S k ∨ w.heap.size ≤ k) w' most (os ++ [o]) h vo' vc' := by
  obtain ⟨i0, hi0, hz0, hz1, hz2⟩ := info_parts info_val
  obtain ⟨j0, hj0, hy0, hy1, hy2⟩ := info_parts info_obj
  obtain ⟨tag, l⟩ := o
  obtain ⟨htg, hsm⟩ := ho
  simp only at htg hsm hv hu
  have hmay := H.may
  obtain ⟨w1, hw1⟩ : ∃ w1, w1 = w.alloc (.cells #[.string (strB tag), vl] 51) := ⟨_, rfl⟩
  have hb1 : Below w.heap.size w w1 := by rw [hw1]; exact (Below.refl _ w).alloc (Nat.le_refl _) _
  have hz1' : w1.heap.size = w.heap.size + 1 := by rw [hw1]; simp
  have hblk1 : w1.heap[w.heap.size]? = some (.cells #[.string (strB tag), vl] 51 (0, 0)) := by rw [hw1]; exact World.alloc_heap_new _ _
  have H1 : HpIn S w1 most os h vo vc := H.below hb1
  obtain ⟨ob, oc, hvo, ho1, ho2⟩ := own_val H1.objs
  obtain ⟨cb, cc, hvc, hc1, hc2⟩ := own_val H1.cells
  subst hvo hvc
  obtain ⟨c0, c1, c2, c3, cf⟩ := cells4 H1.blk
  have cf2 := cf 2
  have cf3 := cf 3
  obtain ⟨q0, q1, -⟩ := cellsH2 hblk1
  have hv1 : valsIn T w1 vl l := hv.kept hb1.size fun k _ hk => hb1.block k hk
  have hap := H1.apart
  have hlt1 := H1.lt
  have ca : ∀ W : World, Below w1.heap.size w1 W → Calls Tryz.prog 119 #[vl] W fun e w2 => ∃ g2 cap2, e = .returned (.slice (some ⟨g2, 0, none⟩) l.length cap2) ∧ w2.cell? ⟨h, 3, none⟩ = some (.slice cb (allV os).length cc) ∧
      Hid (HpIn S w2 most os h (.slice ob os.length oc) (.slice cb (allV os).length cc)) ∧ Hid (∀ j u, (vlC l)[j]? = some u → w2.cell? ((⟨g2, 0, none⟩ : Addr).add j) = some u) ∧ Hid (Below w1.heap.size w1 w2) := fun W hW => by
    refine (allAnew_any T l vl W (hv1.kept hW.size fun k _ hk => hW.block k hk) hsm (by omega)).mono ?_
    rintro e w2 ⟨g2, cap2, rfl, ho2, hb2⟩
    have hb : Below w1.heap.size w1 w2 := hW.trans (hb2.mono hW.size)
    exact ⟨g2, cap2, rfl, (below_cell hb hlt1).trans c3, H1.below hb, ho2.cells rfl, hb⟩
  have HB1 : Hid (Below w.heap.size w w1) := hb1
  have hBd : Below w1.heap.size w1 w1.drew := (Below.refl _ _).drew
  have HAP : Hid ((Value.slice cb (allV os).length cc).ownBlock ≠ some h) := hap.2.1
  have hw1' := hw1.symm
  have hhw : h < w.heap.size := H.lt
  have HSH : Hid (S h) := H.sh
  have HSO : Hid (∀ k, (Value.slice ob os.length oc).ownBlock = some k → S k) := H.so
  have HOK : Hid (∀ o ∈ os ++ [(tag, l)], obB o (os ++ [(tag, l)]).length = true ∧ smallO o) := fun o ho => by
    rw [List.length_append, List.length_singleton]
    rcases List.mem_append.1 ho with h9 | h9
    · exact ⟨obB_mono (H.ok o h9).1 (by omega), (H.ok o h9).2⟩
    · rw [List.mem_singleton] at h9
      subst h9
      exact ⟨hok, htg, hsm⟩
  clear hv hv1 hb1 H H1 hap hw1 hok
  go_enter Tryz.func107, Tryz.ntmps107
  go_upto_region 2 with fail
  go_cut [0] (fun p wx => p = .pointer (some ⟨h, 0, none⟩) ∧ ∃ cb3 cc3, AddMid S w most os h (.slice ob os.length oc) tag vl l (.slice cb3 ((allV os).length + l.length) cc3) wx)
  case first =>
    go_region_law (first
      | (refine step_append_at (.tmp 14) (.tmp 17) 47 rfl (by rfl) 0 54 i0 _ 3 32 Tryz.underlying47 hi0 hz0 hz1 hz2 rfl (by decide) _ (allV os).length _ rfl H2.out.cells ⟨g2, 0, none⟩ l.length cap2 (vlC l) rfl (by rw [vlC_len]) HN2.out (vl_one l) (by unfold maxLen; omega) (by omega) (Nat.zero_le _) ?_
         intro v3 w3 hown3 hg3 hat3
         obtain ⟨cb3, cc3, rfl, hc31, hc32⟩ := own_val hown3
         have f3 : w3.frozen? ⟨h, 3, none⟩ = false := (World.frozen?_of_block (hg3.block h H2.out.lt (fun e => HAP.out e.symm))).trans ((cells4 H2.out.blk).2.2.2.2 3)
         have d3 : w3.cell? ⟨h, 3, none⟩ = some (.slice cb (allV os).length cc) := (World.cell?_of_block (hg3.block h H2.out.lt (fun e => HAP.out e.symm))).trans e3
         have HM : Hid (AddMid S w most os h (.slice ob os.length oc) tag vl l (.slice cb3 ((allV os).length + l.length) cc3) (w3.setCell ⟨h, 3, none⟩ (.slice cb3 ((allV os).length + l.length) cc3))) := AddMid.mk HB1.out hz1' hhw hblk1 H2.out HB2.out hown3 hg3 hat3
         clear hown3 hg3 hat3)
      | (go_simp
         go_at_call 119
         refine (ca _ hBd).mono ?_
         rintro e w2 ⟨g2, cap2, rfl, e3, H2, HN2, HB2⟩))
    all_goals (go_wp2_with fail; go_meet)
    all_goals exact ⟨rfl, cb3, cc3, HM.out⟩
  case rest =>
    obtain ⟨rfl, cb3, cc3, hM⟩ := hcut
    have HM : Hid (AddMid S w most os h (.slice ob os.length oc) tag vl l (.slice cb3 ((allV os).length + l.length) cc3) wc) := hM
    obtain ⟨m1, m2, -, m4, -, -⟩ := hM
    clear c0 c1 c2 c3 cf cf2 cf3 q0 q1 ca hBd
    obtain ⟨-, -, c2, c3, cf⟩ := cells4 m1
    obtain ⟨q0, q1, -⟩ := cellsH2 m4
    have hlc : h < wc.heap.size := (Array.getElem?_eq_some_iff.1 m1).1
    have hoh : (Value.slice ob os.length oc).ownBlock ≠ some h := fun e => by
      obtain ⟨cur, hc⟩ := own_type m2 e
      rw [m1] at hc; simp at hc
    have ca : ∀ W : World, Below wc.heap.size wc W → Calls Tryz.prog 120 #[.string (strB tag)] W fun e w2 => e = .returned (.string (strB tag)) ∧ w2.cell? ⟨h, 2, none⟩ = some (.slice ob os.length oc) ∧ (∀ o, (w2.alloc o).cell? ⟨h, 2, none⟩ = some (.slice ob os.length oc)) ∧ w2.cell? ⟨h, 3, none⟩ = some (.slice cb3 ((allV os).length + l.length) cc3) ∧
        Hid (w2.heap[h]? = some (.cells #[.bool true, .int .i64 (most : Int), .slice ob os.length oc, .slice cb3 ((allV os).length + l.length) cc3] 153 (0, 0))) ∧ Hid (w2.ownsRow 0 167 3 (.slice ob os.length oc) os.length (objC 0 os)) ∧ Hid (Below wc.heap.size wc w2) := fun W hW => by
      refine (clone_str tag W (by omega)).mono ?_
      rintro e w2 ⟨rfl, hb2⟩
      have hb : Below wc.heap.size wc w2 := hW.trans (hb2.mono hW.size)
      exact ⟨rfl, (below_cell hb hlc).trans c2, fun o => Lib.cell?_alloc_some o ((below_cell hb hlc).trans c2), (below_cell hb hlc).trans c3, (hb.block h hlc).trans m1, own_blocks m2 fun k _ hk => hb.block k hk, hb⟩
    have hBd : Below wc.heap.size wc wc.drew := (Below.refl _ _).drew
    have HOH : Hid ((Value.slice ob os.length oc).ownBlock ≠ some h) := hoh
    clear m1 m2 m4 hoh cf
    go_wp2_with fail
    go_region_law (first
      | (refine step_append_at (.tmp 25) (.tmp 36) 151 rfl (by rfl) 0 167 j0 _ 3 32 Tryz.underlying151 hj0 hy0 hy1 hy2 rfl (by decide) _ os.length _ rfl (H2.out.alloc _) ⟨w2.heap.size, 0, none⟩ 1 1 [.string (strB tag), .int .i64 ((allV os).length : Int), .int .i64 ((allV os).length + l.length : Int)] rfl rfl (cells_new _ _ _) (by simp [Value.oneCell']) (by unfold maxLen; omega) (by omega) (Nat.zero_le _) ?_
         intro v3 w3 hown3 hg3 hat3
         obtain ⟨cb5, cc5, rfl, hc51, hc52⟩ := own_val hown3
         have hbk : w3.heap[h]? = some (.cells #[.bool true, .int .i64 (most : Int), .slice ob os.length oc, .slice cb3 ((allV os).length + l.length) cc3] 153 (0, 0)) := (hg3.block h (by have := HB2.out.size; simp; omega) (fun e => HOH.out e.symm)).trans ((Below.heap_alloc _ _ _ (by have := HB2.out.size; omega)).trans HK2.out)
         have f3 : w3.frozen? ⟨h, 2, none⟩ = false := (cells4 hbk).2.2.2.2 2
         have d3 : w3.cell? ⟨h, 2, none⟩ = some (.slice ob os.length oc) := (cells4 hbk).2.2.1
         have HD := AddMid.done HM.out hhw HSH.out HSO.out HB2.out hown3 _ hg3 hat3 HOK.out hu hmay
         clear hown3 hg3 hat3 hbk)
      | (go_simp
         go_at_call 120
         refine (ca _ hBd).mono ?_
         rintro e w2 ⟨rfl, e2, e2', e3, HK2, H2, HB2⟩))
    all_goals
      go_wp2
      go_end0
      exact ⟨rfl, HD.1, _, _, HD.2⟩
end Go.Proofs.YtbdgniiafdjmiaaGreatDoor
