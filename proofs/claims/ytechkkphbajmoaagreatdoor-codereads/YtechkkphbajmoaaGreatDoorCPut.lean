/- code: pieces put behind bytes of one's own. -/
import Derived.Test.YtechkkphbajmoaaGreatDoorCBox
import Derived.Test.YtechkkphbajmoaaGreatDoorCUnit
import Derived.Maps.AppendAt
namespace Go.Proofs.YtechkkphbajmoaaGreatDoor
open Go.RowKit Go.Shelf

/-- Bytes of one's own that have grown: all else is as it was. -/
structure OwnTo (B : Nat) (w : World) (v : Value) (w' : World) (v' : Value) (us' : List UInt8) : Prop where
  row : w'.ownsRow B 5 1 v' us'.length (Lib.byteCells us')
  grown : w.grownBy w' v.ownBlock
  loc : v'.ownBlock = v.ownBlock ∨ ∃ k, v'.ownBlock = some k ∧ w.heap.size ≤ k
theorem OwnTo.refl {B : Nat} {w : World} {v : Value} {us : List UInt8} (h : w.ownsRow B 5 1 v us.length (Lib.byteCells us)) : OwnTo B w v w v us := ⟨h, grownBy_refl _ _, .inl rfl⟩
theorem OwnTo.trans {B : Nat} {w w1 w2 : World} {v v1 v2 : Value} {us1 us2 : List UInt8} (h : OwnTo B w v w1 v1 us1) (h2 : OwnTo B w1 v1 w2 v2 us2) : OwnTo B w v w2 v2 us2 := by
  refine ⟨h2.row, ⟨h2.grown.os.trans h.grown.os, h2.grown.tape.trans h.grown.tape, h2.grown.output.trans h.grown.output, Nat.le_trans h.grown.size h2.grown.size, fun k hk hne => ?_⟩, ?_⟩
  · refine (h2.grown.block k (Nat.lt_of_lt_of_le hk h.grown.size) fun e => ?_).trans (h.grown.block k hk hne)
    rcases h.loc with e1 | ⟨q, e1, hq⟩
    · exact hne (e.trans e1)
    · rw [e1] at e; cases e; omega
  · rcases h2.loc with e2 | ⟨q, e2, hq⟩
    · rcases h.loc with e1 | ⟨q, e1, hq⟩
      · exact .inl (e2.trans e1)
      · exact .inr ⟨q, e2.trans e1, hq⟩
    · exact .inr ⟨q, e2, Nat.le_trans h.grown.size hq⟩
/-- Behind new memory. -/
theorem OwnTo.behind {B : Nat} {w w1 w2 : World} {v v2 : Value} {us2 : List UInt8} (hb : Below w.heap.size w w1) (h2 : OwnTo B w1 v w2 v2 us2) : OwnTo B w v w2 v2 us2 := by
  refine ⟨h2.row, ⟨h2.grown.os.trans hb.os, h2.grown.tape.trans hb.tape, h2.grown.output.trans hb.output, Nat.le_trans hb.size h2.grown.size, fun k hk hne => (h2.grown.block k (Nat.lt_of_lt_of_le hk hb.size) hne).trans (hb.block k hk)⟩, ?_⟩
  rcases h2.loc with e | ⟨q, e, hq⟩
  · exact .inl e
  · exact .inr ⟨q, e, Nat.le_trans hb.size hq⟩
theorem bown_type {w : World} {B e sz n k : Nat} {v : Value} {xs : List Value} (h : w.ownsRow B e sz v n xs) (hk : v.ownBlock = some k) : ∃ cur, w.heap[k]? = some (.cells cur e (0, 0)) := by
  rcases h.2 with ⟨rfl, _⟩ | ⟨g, cap, cur, rfl, _, hh, _⟩
  · simp [Value.ownBlock] at hk
  · simp [Value.ownBlock] at hk
    subst hk
    exact ⟨cur, hh⟩
/-- A block of another type is kept. -/
theorem OwnTo.other {B : Nat} {w w' : World} {v v' : Value} {us us' : List UInt8} (h : OwnTo B w v w' v' us') (ho : w.ownsRow B 5 1 v us.length (Lib.byteCells us)) {q : Nat} {xs : Array Value} {ty : TypeId} {z : Nat × Nat} (hq : w.heap[q]? = some (.cells xs ty z)) (hne : ty ≠ 5) : w'.heap[q]? = some (.cells xs ty z) := by
  refine (h.grown.block q (heap_lt hq) fun e => ?_).trans hq
  obtain ⟨cur, hc⟩ := bown_type ho e.symm
  rw [hq] at hc
  cases hc
  exact hne rfl
theorem OwnTo.low {B : Nat} {w w' : World} {v v' : Value} {us us' : List UInt8} (h : OwnTo B w v w' v' us') (ho : w.ownsRow B 5 1 v us.length (Lib.byteCells us)) (hB : B ≤ w.heap.size) : Below B w w' :=
  ⟨h.grown.os, h.grown.tape, h.grown.output, h.grown.size, fun k hk => h.grown.block k (by omega) fun e => by have := (ho.lt k e.symm).1; omega⟩
theorem own_stay {w w' : World} {B e n : Nat} {v : Value} {xs : List Value} (h : w.ownsRow B e 1 v n xs) (hb : Below w.heap.size w w') : w'.ownsRow B e 1 v n xs := by
  obtain ⟨h1, h2⟩ := h
  refine ⟨h1, ?_⟩
  rcases h2 with h2 | ⟨g, cap, cur, hv, hg, hh, h3⟩
  · exact .inl h2
  · exact .inr ⟨g, cap, cur, hv, hg, (hb.block g (heap_lt hh)).trans hh, h3⟩
theorem own_form0 {w : World} {B e n : Nat} {v : Value} {xs : List Value} (h : w.ownsRow B e 1 v n xs) : ∃ base cap, v = .slice base n cap := by
  rcases h.2 with ⟨rfl, h2⟩ | ⟨g, cap, cur, rfl, _⟩
  · exact ⟨none, 0, by rw [h2]⟩
  · exact ⟨_, _, rfl⟩
theorem bytesAt_block {w w' : World} {v : Value} {bs : List UInt8} (h : bytesAt w v bs) (hb : ∀ a n c, v = .slice (some a) n c → w'.heap[a.block]? = w.heap[a.block]?) : bytesAt w' v bs := by
  obtain ⟨base, cap, rfl, hn, h1, h2, hc⟩ := h
  refine ⟨base, cap, rfl, hn, h1, h2, fun a ha j u hj => ?_⟩
  have h3 := hc a ha j u hj
  subst ha
  have hblk : (a.add j).block = a.block := by unfold Addr.add; split <;> rfl
  exact (World.cell?_of_block (by rw [hblk]; exact hb a _ _ rfl)).trans h3

set_option maxRecDepth 100000 in
theorem append_bytes_at {ops : Array Oper} {rest : List Oper} {o : Oper} {a : Act} {w : World} {Q : Exit → Act → World → Prop} (hgd : o.guard = none) (s x : Operand)
    (ho : o.op = .call { callee := .builtin .append, args := #[s, x], argTypes := #[39, 39] })
    (B : Nat) (v : Value) (us : List UInt8) (hs : a.eval s = v) (hown : w.ownsRow B 5 1 v us.length (Lib.byteCells us)) (xv : Value) (bs : List UInt8) (hx : a.eval x = xv) (hv : bytesAt w xv bs)
    (hb : us.length + bs.length ≤ 140737488355328) (hB : B ≤ w.heap.size)
    (h : ∀ v' w', OwnTo B w v w' v' (us ++ bs) → wpList Tryz.prog ops Q rest (a.put o.dst v') w') : wpList Tryz.prog ops Q (o :: rest) a w := by
  obtain ⟨i0, hi, hz0, hz1, hz2⟩ := info_parts info_u8
  obtain ⟨base, cap, rfl, hn, h1, h2, hc⟩ := hv
  cases base with
  | none =>
    obtain ⟨rfl, rfl⟩ := hn rfl
    refine wpList_append_own_none hgd s x 39 ho B 5 i0 1 Tryz.underlying39 hi v us.length _ hs hown hx ?_
    refine h v w ?_
    rw [List.append_nil]; exact OwnTo.refl hown
  | some ad =>
    refine wpList_append_own_at _ hgd s x 39 ho B 5 i0 (.int .u8 0) 1 1 Tryz.underlying39 hi hz0 hz1 hz2 rfl (by decide) v us.length _ hs hown ad bs.length cap (Lib.byteCells bs) hx (by rw [Lib.byteCells_length, Nat.mul_one]) (hc ad rfl) (bytes_one bs) (by unfold maxLen; omega) (by omega) hB ?_
    intro v' w' ho' hg' _ hloc
    refine h v' w' ⟨?_, hg', hloc.imp id fun e => ⟨_, e, Nat.le_refl _⟩⟩
    rw [List.length_append, Lib.byteCells_append]
    exact ho'

/-- A text with its length ahead. -/
def txB (s : List UInt8) : List UInt8 := numB s.length ++ s
theorem txB_eq (s : List UInt8) : textB (strB s) = txB s := rfl

set_option maxRecDepth 100000 in
set_option maxHeartbeats 2000000 in
theorem cNumber_any (n : Int) (h0 : -9223372036854775808 ≤ n) (h1 : n ≤ 9223372036854775807) (w : World) :
    Calls Tryz.prog 36 #[.int .i64 n] w fun e w' => ∃ v, e = .returned v ∧ w'.ownsRow w.heap.size 5 1 v (numB n).length (Lib.byteCells (numB n)) ∧ Below w.heap.size w w' := by
  have c := putInt_any (.slice none 0 0) [] n h0 h1 w (bytesAt_nil w) (by simp)
  rw [List.nil_append] at c
  clear h0 h1
  obtain ⟨L, hL⟩ : ∃ L, L = numB n := ⟨_, rfl⟩
  rw [← hL] at c ⊢
  clear hL
  go_enter Tryz.func36, Tryz.ntmps36
  go_wp2_with fail
  refine c.mono ?_
  clear c
  rintro e w1 ⟨v, rfl, ho, hb⟩
  have HO : Hid (w1.ownsRow w.heap.size 5 1 v L.length (Lib.byteCells L)) := ho
  have HB : Hid (Below w.heap.size w w1) := hb
  clear ho hb
  go_wp2
  go_ret
  exact ⟨_, rfl, HO.out, HB.out⟩

set_option maxRecDepth 100000 in
set_option maxHeartbeats 2000000 in
theorem cText_any (s : List UInt8) (hl : s.length ≤ 1048576) (w : World) :
    Calls Tryz.prog 31 #[.string (strB s)] w fun e w' => ∃ v, e = .returned v ∧ w'.ownsRow w.heap.size 5 1 v (txB s).length (Lib.byteCells (txB s)) ∧ Below w.heap.size w w' := by
  have c := putText_any (.slice none 0 0) [] (strB s) w (bytesAt_nil w) (by rw [strB_size]; simp; omega)
  rw [List.nil_append, txB_eq] at c
  clear hl
  obtain ⟨L, hL⟩ : ∃ L, L = txB s := ⟨_, rfl⟩
  rw [← hL] at c ⊢
  clear hL
  go_enter Tryz.func31, Tryz.ntmps31
  go_wp2_with fail
  refine c.mono ?_
  clear c
  rintro e w1 ⟨v, rfl, ho, hb⟩
  have HO : Hid (w1.ownsRow w.heap.size 5 1 v L.length (Lib.byteCells L)) := ho
  have HB : Hid (Below w.heap.size w w1) := hb
  clear ho hb
  go_wp2
  go_ret
  exact ⟨_, rfl, HO.out, HB.out⟩

set_option maxRecDepth 100000 in
set_option maxHeartbeats 4000000 in
theorem cPut_any (B : Nat) (v : Value) (us : List UInt8) (g c : Nat) (ps : List (Value × List UInt8)) (arr : Array Value) (w : World) (hown : w.ownsRow B 5 1 v us.length (Lib.byteCells us)) (hB : B ≤ w.heap.size)
    (hcell : ∀ j p, ps[j]? = some p → w.cell? ⟨g, j, none⟩ = some p.1) (hg : w.heap[g]? = some (.cells arr 39 (0, 0))) (hby : ∀ p ∈ ps, bytesAt w p.1 p.2) (hap : ∀ p ∈ ps, ∀ a n c', p.1 = .slice (some a) n c' → v.ownBlock ≠ some a.block ∧ a.block < w.heap.size)
    (hm : ps.length ≤ 1000) (hb : us.length + (catB ps ps.length).length ≤ 140737488355328) :
    Calls Tryz.prog 30 #[v, .slice (some ⟨g, 0, none⟩) ps.length c] w fun e w' => ∃ v', e = .returned v' ∧ OwnTo B w v w' v' (us ++ catB ps ps.length) := by
  obtain ⟨m, hml⟩ : ∃ m, m = ps.length := ⟨_, rfl⟩
  have HM : Hid (m = ps.length) := hml
  rw [← hml] at hm hb ⊢
  have hle := fun k => catB_le ps k
  rw [← hml] at hle
  have HLE : Hid (∀ k, (catB ps k).length ≤ (catB ps m).length) := hle
  have HBB : Hid (us.length + (catB ps m).length ≤ 140737488355328) := hb
  have HOWN : Hid (w.ownsRow B 5 1 v us.length (Lib.byteCells us)) := hown
  have HCELL : Hid (∀ j p, ps[j]? = some p → w.cell? ⟨g, j, none⟩ = some p.1) := hcell
  have HG : Hid (w.heap[g]? = some (.cells arr 39 (0, 0))) := hg
  have HBY : Hid (∀ p ∈ ps, bytesAt w p.1 p.2) := hby
  have HAP : Hid (∀ p ∈ ps, ∀ a n c', p.1 = .slice (some a) n c' → v.ownBlock ≠ some a.block ∧ a.block < w.heap.size) := hap
  have hmi : (m : Int) ≤ 1000 := by omega
  clear hml hle hb hown hcell hg hby hap
  go_enter Tryz.func30, Tryz.ntmps30
  go_wp2
  go_loopw [0, 9] (fun v0 vi wr => ∃ k : Nat, k ≤ m ∧ vi = .int .i64 k ∧ OwnTo B w v wr v0 (us ++ catB ps k)) (fun _ vi _ => m - (intOf vi).toNat)
  case atStart => exact ⟨0, Nat.zero_le _, rfl, by rw [catB_zero, List.append_nil]; exact OwnTo.refl HOWN.out⟩
  case round =>
    obtain ⟨k, hk, rfl, hJ⟩ := hrel
    have HJ : Hid (OwnTo B w v wr u0 (us ++ catB ps k)) := hJ
    by_cases hlt : k < m
    · have hlt2 : (k : Int) < m := by omega
      have hkl : k < ps.length := by rw [← HM.out]; exact hlt
      have hc1 := HCELL.out k ps[k] (List.getElem?_eq_getElem hkl)
      have hpm := List.getElem_mem hkl
      have hby := HBY.out ps[k] hpm
      have hwg := hJ.other HOWN.out HG.out (by decide)
      have hc2 : wr.cell? ⟨g, k, none⟩ = some (ps[k]).1 := (World.cell?_of_block (a := ⟨g, k, none⟩) (hwg.trans HG.out.symm)).trans hc1
      have hby2 : bytesAt wr (ps[k]).1 (ps[k]).2 := bytesAt_block hby fun a n c e => by
        obtain ⟨h1, h2⟩ := HAP.out ps[k] hpm a n c e
        exact hJ.grown.block a.block h2 fun e2 => h1 e2.symm
      obtain ⟨pv, hpv⟩ : ∃ pv, pv = (ps[k]).1 := ⟨_, rfl⟩
      obtain ⟨pb, hpb⟩ : ∃ pb, pb = (ps[k]).2 := ⟨_, rfl⟩
      rw [← hpv] at hc2 hby2
      rw [← hpb] at hby2
      have HBY2 : Hid (bytesAt wr pv pb) := hby2
      obtain ⟨pbase, pcap, rfl, -⟩ := hby2
      have HS : Hid (catB ps (k + 1) = catB ps k ++ pb) := by rw [hpb]; exact catB_succ ps k hkl
      have hsz : Hid ((us ++ catB ps k).length + pb.length ≤ 140737488355328) := by
        have h1 := HLE.out (k + 1)
        have h2 := HBB.out
        rw [HS.out, List.length_append] at h1
        show _ ≤ _
        rw [List.length_append]
        omega
      have hBr : Hid (B ≤ wr.heap.size) := Nat.le_trans hB hJ.grown.size
      clear hJ hc1 hpm hby hwg hpv hpb
      go_wp2_with (first
        | (at_builtin; refine append_bytes_at rfl _ _ rfl B _ (us ++ catB ps k) rfl HJ.out.row _ pb rfl HBY2.out hsz.out hBr.out ?_; intro v' w9 h9)
        | go_in)
      go_roundw
      case rel => exact ⟨k + 1, by omega, by go_num, by rw [HS.out, ← List.append_assoc]; exact HJ.out.trans h9⟩
      case measure => simp [intOf]; omega
    · obtain rfl : k = m := by omega
      have hi2 : ¬ (k : Int) < k := by omega
      clear hJ
      go_wp2
      go_ret
      exact ⟨_, rfl, HJ.out⟩
end Go.Proofs.YtechkkphbajmoaaGreatDoor
