/- snap: pieces put behind bytes of one's own. -/
import Derived.Test.YtbdgniiafdjmiaaGreatDoorPModel
namespace Go.Proofs.YtbdgniiafdjmiaaGreatDoor
open Go.RowKit Go.Shelf

set_option maxRecDepth 100000 in
set_option maxHeartbeats 2000000 in
theorem pNumber_any (n : Int) (h0 : -9223372036854775808 ≤ n) (h1 : n ≤ 9223372036854775807) (w : World) :
    Calls Tryz.prog 18 #[.int .i64 n] w fun e w' => ∃ v, e = .returned v ∧ w'.ownsRow w.heap.size 5 1 v (numB n).length (Lib.byteCells (numB n)) ∧ Below w.heap.size w w' := by
  have c := putInt_any (.slice none 0 0) [] n h0 h1 w (bytesAt_nil w) (by simp)
  rw [List.nil_append] at c
  clear h0 h1
  obtain ⟨L, hL⟩ : ∃ L, L = numB n := ⟨_, rfl⟩
  rw [← hL] at c ⊢
  clear hL
  go_enter Tryz.func18, Tryz.ntmps18
  go_wp2_with fail
  refine c.mono ?_
  clear c
  rintro e w1 ⟨v, rfl, ho, hb⟩
  have HO : Hid (w1.ownsRow w.heap.size 5 1 v L.length (Lib.byteCells L)) := ho
  have HB : Hid (Below w.heap.size w w1) := hb
  clear ho hb
  go_wp2
  go_ret
  exact ⟨_, rfl, HO.out, HB.out⟩

set_option maxRecDepth 100000 in
set_option maxHeartbeats 2000000 in
theorem pNumberS_any (n : Int) (h0 : -9223372036854775808 ≤ n) (h1 : n ≤ 9223372036854775807) (w : World) :
    Calls Tryz.prog 19 #[.int .i64 n] w fun e w' => ∃ v, e = .returned v ∧ w'.ownsRow w.heap.size 5 1 v (numB n).length (Lib.byteCells (numB n)) ∧ Below w.heap.size w w' := by
  have c := putInt_any (.slice none 0 0) [] n h0 h1 w (bytesAt_nil w) (by simp)
  rw [List.nil_append] at c
  clear h0 h1
  obtain ⟨L, hL⟩ : ∃ L, L = numB n := ⟨_, rfl⟩
  rw [← hL] at c ⊢
  clear hL
  go_enter Tryz.func19, Tryz.ntmps19
  go_wp2_with fail
  refine c.mono ?_
  clear c
  rintro e w1 ⟨v, rfl, ho, hb⟩
  have HO : Hid (w1.ownsRow w.heap.size 5 1 v L.length (Lib.byteCells L)) := ho
  have HB : Hid (Below w.heap.size w w1) := hb
  clear ho hb
  go_wp2
  go_ret
  exact ⟨_, rfl, HO.out, HB.out⟩

set_option maxRecDepth 100000 in
set_option maxHeartbeats 2000000 in
theorem pNumberF_any (n : Int) (h0 : -9223372036854775808 ≤ n) (h1 : n ≤ 9223372036854775807) (w : World) :
    Calls Tryz.prog 20 #[.int .i64 n] w fun e w' => ∃ v, e = .returned v ∧ w'.ownsRow w.heap.size 5 1 v (numB n).length (Lib.byteCells (numB n)) ∧ Below w.heap.size w w' := by
  have c := putInt_any (.slice none 0 0) [] n h0 h1 w (bytesAt_nil w) (by simp)
  rw [List.nil_append] at c
  clear h0 h1
  obtain ⟨L, hL⟩ : ∃ L, L = numB n := ⟨_, rfl⟩
  rw [← hL] at c ⊢
  clear hL
  go_enter Tryz.func20, Tryz.ntmps20
  go_wp2_with fail
  refine c.mono ?_
  clear c
  rintro e w1 ⟨v, rfl, ho, hb⟩
  have HO : Hid (w1.ownsRow w.heap.size 5 1 v L.length (Lib.byteCells L)) := ho
  have HB : Hid (Below w.heap.size w w1) := hb
  clear ho hb
  go_wp2
  go_ret
  exact ⟨_, rfl, HO.out, HB.out⟩

set_option maxRecDepth 100000 in
set_option maxHeartbeats 2000000 in
theorem pNumberK_any (n : Int) (h0 : -9223372036854775808 ≤ n) (h1 : n ≤ 9223372036854775807) (w : World) :
    Calls Tryz.prog 71 #[.int .i64 n] w fun e w' => ∃ v, e = .returned v ∧ w'.ownsRow w.heap.size 5 1 v (numB n).length (Lib.byteCells (numB n)) ∧ Below w.heap.size w w' := by
  have c := putInt_any (.slice none 0 0) [] n h0 h1 w (bytesAt_nil w) (by simp)
  rw [List.nil_append] at c
  clear h0 h1
  obtain ⟨L, hL⟩ : ∃ L, L = numB n := ⟨_, rfl⟩
  rw [← hL] at c ⊢
  clear hL
  go_enter Tryz.func71, Tryz.ntmps71
  go_wp2_with fail
  refine c.mono ?_
  clear c
  rintro e w1 ⟨v, rfl, ho, hb⟩
  have HO : Hid (w1.ownsRow w.heap.size 5 1 v L.length (Lib.byteCells L)) := ho
  have HB : Hid (Below w.heap.size w w1) := hb
  clear ho hb
  go_wp2
  go_ret
  exact ⟨_, rfl, HO.out, HB.out⟩

set_option maxRecDepth 100000 in
set_option maxHeartbeats 2000000 in
theorem pText_any (s : List UInt8) (hl : s.length ≤ 1048576) (w : World) :
    Calls Tryz.prog 21 #[.string (strB s)] w fun e w' => ∃ v, e = .returned v ∧ w'.ownsRow w.heap.size 5 1 v (txB s).length (Lib.byteCells (txB s)) ∧ Below w.heap.size w w' := by
  have c := putText_any (.slice none 0 0) [] (strB s) w (bytesAt_nil w) (by rw [strB_size]; simp; omega)
  rw [List.nil_append, txB_eq] at c
  clear hl
  obtain ⟨L, hL⟩ : ∃ L, L = txB s := ⟨_, rfl⟩
  rw [← hL] at c ⊢
  clear hL
  go_enter Tryz.func21, Tryz.ntmps21
  go_wp2_with fail
  refine c.mono ?_
  clear c
  rintro e w1 ⟨v, rfl, ho, hb⟩
  have HO : Hid (w1.ownsRow w.heap.size 5 1 v L.length (Lib.byteCells L)) := ho
  have HB : Hid (Below w.heap.size w w1) := hb
  clear ho hb
  go_wp2
  go_ret
  exact ⟨_, rfl, HO.out, HB.out⟩

set_option maxRecDepth 100000 in
set_option maxHeartbeats 4000000 in
theorem pPut_any (B : Nat) (v : Value) (us : List UInt8) (g c : Nat) (ps : List (Value × List UInt8)) (arr : Array Value) (w : World) (hown : w.ownsRow B 5 1 v us.length (Lib.byteCells us)) (hB : B ≤ w.heap.size)
    (hcell : ∀ j p, ps[j]? = some p → w.cell? ⟨g, j, none⟩ = some p.1) (hg : w.heap[g]? = some (.cells arr 30 (0, 0))) (hby : ∀ p ∈ ps, bytesAt w p.1 p.2) (hap : ∀ p ∈ ps, ∀ a n c', p.1 = .slice (some a) n c' → v.ownBlock ≠ some a.block ∧ a.block < w.heap.size)
    (hm : ps.length ≤ 1000) (hb : us.length + (catB ps ps.length).length ≤ 140737488355328) :
    Calls Tryz.prog 17 #[v, .slice (some ⟨g, 0, none⟩) ps.length c] w fun e w' => ∃ v', e = .returned v' ∧ OwnTo B w v w' v' (us ++ catB ps ps.length) := by
  obtain ⟨m, hml⟩ : ∃ m, m = ps.length := ⟨_, rfl⟩
  have HM : Hid (m = ps.length) := hml
  rw [← hml] at hm hb ⊢
  have hle := fun k => catB_le ps k
  rw [← hml] at hle
  have HLE : Hid (∀ k, (catB ps k).length ≤ (catB ps m).length) := hle
  have HBB : Hid (us.length + (catB ps m).length ≤ 140737488355328) := hb
  have HOWN : Hid (w.ownsRow B 5 1 v us.length (Lib.byteCells us)) := hown
  have HCELL : Hid (∀ j p, ps[j]? = some p → w.cell? ⟨g, j, none⟩ = some p.1) := hcell
  have HG : Hid (w.heap[g]? = some (.cells arr 30 (0, 0))) := hg
  have HBY : Hid (∀ p ∈ ps, bytesAt w p.1 p.2) := hby
  have HAP : Hid (∀ p ∈ ps, ∀ a n c', p.1 = .slice (some a) n c' → v.ownBlock ≠ some a.block ∧ a.block < w.heap.size) := hap
  have hmi : (m : Int) ≤ 1000 := by omega
  clear hml hle hb hown hcell hg hby hap
  go_enter Tryz.func17, Tryz.ntmps17
  go_wp2
  go_loopw [0, 9] (fun v0 vi wr => ∃ k : Nat, k ≤ m ∧ vi = .int .i64 k ∧ OwnTo B w v wr v0 (us ++ catB ps k)) (fun _ vi _ => m - (intOf vi).toNat)
  case atStart => exact ⟨0, Nat.zero_le _, rfl, by rw [catB_zero, List.append_nil]; exact OwnTo.refl HOWN.out⟩
  case round =>
    obtain ⟨k, hk, rfl, hJ⟩ := hrel
    have HJ : Hid (OwnTo B w v wr u0 (us ++ catB ps k)) := hJ
    by_cases hlt : k < m
    · have hlt2 : (k : Int) < m := by omega
      have hkl : k < ps.length := by rw [← HM.out]; exact hlt
      have hc1 := HCELL.out k ps[k] (List.getElem?_eq_getElem hkl)
      have hpm := List.getElem_mem hkl
      have hby := HBY.out ps[k] hpm
      have hwg := hJ.other HOWN.out HG.out (by decide)
      have hc2 : wr.cell? ⟨g, k, none⟩ = some (ps[k]).1 := (World.cell?_of_block (a := ⟨g, k, none⟩) (hwg.trans HG.out.symm)).trans hc1
      have hby2 : bytesAt wr (ps[k]).1 (ps[k]).2 := bytesAt_block hby fun a n c e => by
        obtain ⟨h1, h2⟩ := HAP.out ps[k] hpm a n c e
        exact hJ.grown.block a.block h2 fun e2 => h1 e2.symm
      obtain ⟨pv, hpv⟩ : ∃ pv, pv = (ps[k]).1 := ⟨_, rfl⟩
      obtain ⟨pb, hpb⟩ : ∃ pb, pb = (ps[k]).2 := ⟨_, rfl⟩
      rw [← hpv] at hc2 hby2
      rw [← hpb] at hby2
      have HBY2 : Hid (bytesAt wr pv pb) := hby2
      obtain ⟨pbase, pcap, rfl, -⟩ := hby2
      have HS : Hid (catB ps (k + 1) = catB ps k ++ pb) := by rw [hpb]; exact catB_succ ps k hkl
      have hsz : Hid ((us ++ catB ps k).length + pb.length ≤ 140737488355328) := by
        have h1 := HLE.out (k + 1)
        have h2 := HBB.out
        rw [HS.out, List.length_append] at h1
        show _ ≤ _
        rw [List.length_append]
        omega
      have hBr : Hid (B ≤ wr.heap.size) := Nat.le_trans hB hJ.grown.size
      clear hJ hc1 hpm hby hwg hpv hpb
      go_wp2_with (first
        | (at_builtin; refine append_bytes_at rfl _ _ rfl B _ (us ++ catB ps k) rfl HJ.out.row _ pb rfl HBY2.out hsz.out hBr.out ?_; intro v' w9 h9)
        | go_in)
      go_roundw
      case rel => exact ⟨k + 1, by omega, by go_num, by rw [HS.out, ← List.append_assoc]; exact HJ.out.trans h9⟩
      case measure => simp [intOf]; omega
    · obtain rfl : k = m := by omega
      have hi2 : ¬ (k : Int) < k := by omega
      clear hJ
      go_wp2
      go_ret
      exact ⟨_, rfl, HJ.out⟩

theorem pPutOwn_any (B : Nat) (v : Value) (us : List UInt8) (g c : Nat) (ps : List (Value × List UInt8)) (w0 W : World) (hown : w0.ownsRow B 5 1 v us.length (Lib.byteCells us)) (hB : B ≤ w0.heap.size) (hW : Below w0.heap.size w0 W)
    (hg : W.heap[g]? = some (.cells (ps.map (fun p => p.1)).toArray 30 (0, 0))) (hps : ∀ p ∈ ps, W.ownsRow w0.heap.size 5 1 p.1 p.2.length (Lib.byteCells p.2))
    (hm : ps.length ≤ 1000) (hb : us.length + (flatP ps).length ≤ 140737488355328) :
    Calls Tryz.prog 17 #[v, .slice (some ⟨g, 0, none⟩) ps.length c] W fun e w' => ∃ v', e = .returned v' ∧ OwnTo B W v w' v' (us ++ flatP ps) := by
  have h := pPut_any B v us g c ps _ W (own_stay hown hW) (Nat.le_trans hB hW.size) (fun j p hj => ?_) hg (fun p hp => bytesAt_own (hps p hp)) (fun p hp a n c' e => ?_) hm (by rw [catB_flat]; exact hb)
  · rw [catB_flat] at h
    exact h
  · have hj2 : j < ps.length := (List.getElem?_eq_some_iff.1 hj).1
    have : ((ps.map (fun p => p.1)).toArray)[j]? = some p.1 := by
      rw [List.getElem?_toArray, List.getElem?_map, hj]; rfl
    simp only [World.cell?, hg]
    simpa using this
  · have h1 := (hps p hp).lt a.block (by rw [e]; rfl)
    refine ⟨fun e2 => ?_, h1.2⟩
    have := (hown.lt a.block e2).2
    omega

end Go.Proofs.YtbdgniiafdjmiaaGreatDoor
