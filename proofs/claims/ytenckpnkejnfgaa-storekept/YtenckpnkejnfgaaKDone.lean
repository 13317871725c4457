/- store: the laws' done. -/
import Derived.Test.YtenckpnkejnfgaaLSFirst
import Derived.Test.YtenckpnkejnfgaaKKeptM
namespace Go.Proofs.Ytenckpnkejnfgaa
open Go.RowKit

/-- Put of whatever position. -/
theorem kPutA (w0 : World) (m : Int) (h : Nat) (l : List PB) (vk : Value) (pos : Int) (vb : Value) (bs : List UInt8) (w : World) (H : FiIn w0 m h l vk w) (hp2 : pos ≤ 9223372036854775807) (hv : bytesAt w vb bs) (hl : bs.length ≤ 140737488355328) :
    Calls Try.prog 12 #[.pointer (some ⟨h, 0, none⟩), .int .i64 pos, vb] w fun e w' => e = .returned (.int .i64 (if pos < 0 then 2 else 0)) ∧ ∃ vk', FiIn w0 m h (actL (kMost m) l (pos, bs)) vk' w' ∧ KpS (fun k => k = h ∨ vk.ownBlock = some k) w w' := by
  unfold actL
  by_cases hn : pos < 0
  · simp only [hn, if_true]
    refine (kPutX_neg _ _ l h vk pos vb w H.s hn).mono ?_
    rintro e w' ⟨rfl, rfl⟩
    exact ⟨rfl, vk, H, KpS.refl _ _⟩
  · simp only [hn, if_false]
    refine (kPutX _ _ l h vk pos vb bs w H.s (by omega) hp2 hv hl).mono ?_
    rintro e w' ⟨rfl, vk', h1, h2, -⟩
    exact ⟨rfl, vk', H.put h1 h2, h2⟩

set_option maxHeartbeats 8000000 in
set_option maxRecDepth 100000 in
theorem kDone_any (m : Int) (base : Option Addr) (cap : Nat) (ls : List PB) (w : World) (hacts : kactsAt w base ls) (hlc : ls.length ≤ cap) (hl : ls.length ≤ 300) (hs : ∀ a ∈ ls, a.2.length ≤ 140737488355328) :
    Calls Try.prog 18 #[.int .i64 m, .slice base ls.length cap] w fun e w' => ∃ h vk, e = .returned (.pointer (some ⟨h, 0, none⟩)) ∧ FiIn w m h (doneL (kMost m) ls) vk w' ∧ WantP ls (doneL (kMost m) ls) := by
  obtain ⟨na, hna⟩ : ∃ na, na = ls.length := ⟨_, rfl⟩
  have HNA : Hid (na = ls.length) := hna
  rw [← hna] at hlc hl ⊢
  have HA : Hid (kactsAt w base ls) := hacts
  have HSZ : Hid (∀ a ∈ ls, a.2.length ≤ 140737488355328) := hs
  clear hna hacts hs
  go_enter Try.func18, Try.ntmps18
  go_wp2_with fail
  refine (kNewX m w).mono ?_
  rintro e w1 ⟨h, rfl, hst, hb1⟩
  have HF1 : Hid (FiIn w m h [] (.slice none 0 0) w1) := ⟨hst, hb1⟩
  clear hst hb1
  go_wp2
  go_loopw [6] (fun vi wr => ∃ i : Nat, i ≤ na ∧ vi = .int .i64 (i : Int) ∧ WantP (ls.take i) (doneL (kMost m) (ls.take i)) ∧ ∃ vk, FiIn w m h (doneL (kMost m) (ls.take i)) vk wr) (fun vi _ => na - (intOf vi).toNat)
  case atStart => exact ⟨0, Nat.zero_le _, rfl, (fun x hx => by cases hx), _, HF1.out⟩
  case round =>
    clear HF1
    obtain ⟨i, hin, rfl, hwp, vk, hfi⟩ := hrel
    have HWP : Hid (WantP (ls.take i) (doneL (kMost m) (ls.take i))) := hwp
    clear hwp
    have HF : Hid (FiIn w m h (doneL (kMost m) (ls.take i)) vk wr) := hfi
    clear hfi
    by_cases hlt : i < na
    · have hil : i < ls.length := by rw [← HNA.out]; exact hlt
      rcases HA.out with h0 | ⟨ab, ao, rfl, hcell⟩
      · rw [h0] at hil; simp at hil
      · obtain ⟨d0, d1, hp1, hp2⟩ := hcell i hil
        have hsz := HSZ.out (ls[i]) (List.getElem_mem hil)
        have HSU : Hid (doneL (kMost m) (ls.take (i + 1)) = actL (kMost m) (doneL (kMost m) (ls.take i)) ((ls[i]).1, (ls[i]).2)) := doneL_succ _ ls i hil
        have HWN : Hid (WantP (ls.take (i + 1)) (doneL (kMost m) (ls.take (i + 1)))) := by rw [doneL_succ _ ls i hil]; exact HWP.out.next HF.out.s.rise (fun x hx => (HF.out.s.pos x hx).1) hil
        obtain ⟨ap, hap⟩ : ∃ ap, ap = (ls[i]).1 := ⟨_, rfl⟩
        obtain ⟨bs, hbs⟩ : ∃ bs, bs = (ls[i]).2 := ⟨_, rfl⟩
        rw [← hap] at d0 hp1 hp2 HSU
        rw [← hbs] at d1 hsz HSU
        have halt : ab < w.heap.size := World.block_lt_of_cell? w _ d0
        have halt2 : ab < wr.heap.size := Nat.lt_of_lt_of_le halt HF.out.b.size
        have e0 : wr.cell? ⟨ab, ao + i * 2, none⟩ = some (.int .i64 ap) := (kbelow_cell HF.out.b halt).trans d0
        have e1 : wr.cell? ⟨ab, ao + i * 2 + 1, none⟩ = some (.string ⟨bs.toArray⟩) := (kbelow_cell HF.out.b halt).trans d1
        have hconv := fun (wx : World) => Lib.run_convert_string_bytes (P := Try.prog) wx 9 36 5 (⟨bs.toArray⟩ : ByteArray) Try.underlying9 Try.underlying36 Try.underlying5
        have hbsz : (⟨bs.toArray⟩ : ByteArray).size = bs.length := rfl
        have HCV : Hid (∀ W, bytesAt (Lib.bytesWorld W 5 (⟨bs.toArray⟩ : ByteArray)) (.slice (some ⟨W.heap.size, 0, none⟩) bs.length (grownCap W bs.length 0 5)) bs) := fun W => bytesAt_conv W 5 ⟨bs.toArray⟩ (by rw [hbsz]; unfold maxLen; omega)
        have HBW : Hid (∀ W, Below W.heap.size W (Lib.bytesWorld W 5 (⟨bs.toArray⟩ : ByteArray))) := fun W => bytesWorld_below W 5 _
        clear hap hbs hcell d0 d1
        go_wp2_with fail
        refine mix_begin (n := 13) (S := fun w' => ∃ c : ClsP (fun W => W.cell? ⟨ab, ao + i * 2, none⟩ = some (.int .i64 ap) ∧ W.cell? ⟨ab, ao + i * 2 + 1, none⟩ = some (.string ⟨bs.toArray⟩)), w' = c.1) (by kernel_rfl) rfl rfl ?_
        have x0 : ∀ c : ClsP (fun W => W.cell? ⟨ab, ao + i * 2, none⟩ = some (.int .i64 ap) ∧ W.cell? ⟨ab, ao + i * 2 + 1, none⟩ = some (.string ⟨bs.toArray⟩)), c.1.cell? ⟨ab, ao + i * 2, none⟩ = some (.int .i64 ap) := fun c => c.2.1
        have x1 : ∀ c : ClsP (fun W => W.cell? ⟨ab, ao + i * 2, none⟩ = some (.int .i64 ap) ∧ W.cell? ⟨ab, ao + i * 2 + 1, none⟩ = some (.string ⟨bs.toArray⟩)), c.1.cell? ⟨ab, ao + i * 2 + 1, none⟩ = some (.string ⟨bs.toArray⟩) := fun c => c.2.2
        refine mix_seg (fuel := 2) (fuel' := 13) (idx := [0, 1, 2, 3, 4, 5, 6, 7, 8, 9, 10]) (by decide +kernel) rfl rfl rfl (fun _ _ _ _ _ h => h) ⟨⟨wr.drew, e0, e1⟩, rfl⟩ ?_
        show wpQuiet _ _ _ _ [_, _, _, _, _, _, _, _, _, _, _] _
        iterate 11 (go_big_quiet_step (exact rfl))
        refine wpQuiet_nil ?_
        refine mix_loud (fuel := 1) (fuel' := 2) (i := 11) rfl (by decide +kernel) rfl rfl (by rfl) ?_
        intro K hK
        go_simp
        have hbw := HBW.out wr.drew
        have hcv := HCV.out wr.drew
        obtain ⟨wb, hwb⟩ : ∃ wb, wb = Lib.bytesWorld wr.drew 5 (⟨bs.toArray⟩ : ByteArray) := ⟨_, rfl⟩
        obtain ⟨cp, hcp⟩ : ∃ cp, cp = grownCap wr.drew bs.length 0 5 := ⟨_, rfl⟩
        rw [← hwb] at hbw hcv ⊢
        rw [← hcp] at hcv ⊢
        have HFB : Hid (FiIn w m h (doneL (kMost m) (ls.take i)) vk wb) := HF.out.below (((Below.refl _ wr).drew).trans hbw)
        have HCB : Hid (bytesAt wb (.slice (some ⟨wr.heap.size, 0, none⟩) bs.length cp) bs) := hcv
        have f0 : wb.cell? ⟨ab, ao + i * 2, none⟩ = some (.int .i64 ap) := (kbelow_cell hbw halt2).trans e0
        have f1 : wb.cell? ⟨ab, ao + i * 2 + 1, none⟩ = some (.string ⟨bs.toArray⟩) := (kbelow_cell hbw halt2).trans e1
        have HLB : Hid (ab < wb.heap.size) := Nat.lt_of_lt_of_le halt2 hbw.size
        refine hK.out _ _ ⟨⟨wb, f0, f1⟩, rfl⟩ ?_
        clear hK K hwb hcp hbw hcv hconv HCV HBW
        refine mix_loud (fuel := 0) (fuel' := 1) (i := 12) rfl (by decide +kernel) rfl rfl (by rfl) ?_
        intro K hK
        go_simp
        refine (kPutA w m h _ vk ap _ bs wb HFB.out hp2 HCB.out hsz).mono ?_
        rintro e w2 ⟨rfl, vk2, hfi, -⟩
        rw [← HSU.out] at hfi
        have HF2 : Hid (FiIn w m h (doneL (kMost m) (ls.take (i + 1))) vk2 w2) := hfi
        have g0 : w2.cell? ⟨ab, ao + i * 2, none⟩ = some (.int .i64 ap) := (kbelow_cell HF2.out.b halt).trans ((kbelow_cell HF.out.b halt).symm.trans e0)
        have g1 : w2.cell? ⟨ab, ao + i * 2 + 1, none⟩ = some (.string ⟨bs.toArray⟩) := (kbelow_cell HF2.out.b halt).trans ((kbelow_cell HF.out.b halt).symm.trans e1)
        clear hfi
        (try go_simp)
        refine hK.out _ _ ⟨⟨w2, g0, g1⟩, rfl⟩ ?_
        clear hK K
        refine mix_done (by decide +kernel) ?_
        clear x0 x1
        go_wp2
        go_roundw
        case rel => exact ⟨i + 1, by omega, by go_num, HWN.out, vk2, HF2.out⟩
        case measure => simp [intOf]; omega
    · obtain rfl : i = na := by omega
      have HFE : Hid (FiIn w m h (doneL (kMost m) ls) vk wr) := by
        have := HF.out
        rw [List.take_of_length_le (by rw [← HNA.out]; exact Nat.le_refl _)] at this
        exact this
      have HWE : Hid (WantP ls (doneL (kMost m) ls)) := by
        have := HWP.out
        rw [List.take_of_length_le (by rw [← HNA.out]; exact Nat.le_refl _)] at this
        exact this
      go_wp2
      go_ret
      exact ⟨h, vk, rfl, HFE.out, HWE.out⟩
end Go.Proofs.Ytenckpnkejnfgaa
