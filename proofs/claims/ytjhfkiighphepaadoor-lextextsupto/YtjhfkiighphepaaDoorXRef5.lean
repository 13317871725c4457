/- The document's own functions of layer 3: a token at a place. -/
import Derived.Test.YtjhfkiighphepaaDoorXRef4
namespace Go.Proofs.YtjhfkiighphepaaDoor
open Go.RowKit Go.Shelf

set_option maxRecDepth 100000 in
set_option maxHeartbeats 2000000 in
theorem refSigns_any (w : World) :
    Calls Tryd.prog 22 #[] w fun e w' => e = .returned (.slice (some ⟨w.heap.size, 0, none⟩) 25 25) ∧ w' = w.alloc (.cells (refSigns.map fun x => Value.string (strB x)).toArray 9) := by
  go_enter Tryd.func22, Tryd.ntmps22
  go_wp2
  go_ret
  exact ⟨rfl, rfl⟩

/-- What is told of a token at a place. -/
def rtV (K N' X E : Nat) (s : List UInt8) : Value := .tuple #[.agg #[.int .i64 K, .string (strB s), .int .i64 N', .int .i64 0, .int .i64 0], .int .i64 X, .int .i64 E]
def rtR (a : Nat) (R : TR) (v : Value) : Prop := ∃ (K N' X : Nat) (s : List UInt8), v = rtV K N' X R.e s ∧ (R.e = 0 → K = R.k ∧ s = R.s ∧ N' = R.n ∧ X = a + R.sz)

theorem rtR_ok {a : Nat} {R R' : TR} (h : R = R') : rtR a R (rtV R'.k R'.n (a + R'.sz) R'.e R'.s) := by
  subst h
  exact ⟨_, _, _, _, rfl, fun _ => ⟨rfl, rfl, rfl, rfl⟩⟩
theorem rtR_err {a K X e : Nat} {R : TR} {s : List UInt8} (h : R.e = e) (he : e ≠ 0) : rtR a R (rtV K 0 X e s) := by
  subst h
  exact ⟨_, _, _, _, rfl, fun h => absurd h he⟩

theorem row_at {p : UInt8 → Bool} {l : List UInt8} {a k : Nat} (hk : a + k ≤ l.length) (h1 : ∀ j (h : a + j < l.length), j < k → p l[a + j] = true) (h2 : ∀ h : a + k < l.length, p l[a + k] = false) : ((l.drop a).takeWhile p).length = k := by
  refine row_len p (l.drop a) k (by rw [List.length_drop]; omega) (fun j h hj => ?_) (fun h => ?_)
  · rw [List.getElem_drop]; exact h1 j (by rw [List.length_drop] at h; omega) hj
  · rw [List.getElem_drop]; exact h2 (by rw [List.length_drop] at h; omega)

theorem sub_row {p : UInt8 → Bool} {l : List UInt8} {a k : Nat} (h : ((l.drop a).takeWhile p).length = k) : (l.drop a).take k = (l.drop a).takeWhile p := by
  rw [← h]; exact take_row p _

set_option maxRecDepth 100000 in
set_option maxHeartbeats 4000000 in
theorem refToken_name (l : List UInt8) (a : Nat) (w : World) (hl : l.length ≤ 5000) (ha : a < l.length) (hk : letterN (l[a]).toNat = true) :
    Calls Tryd.prog 17 #[.string (strB l), .int .i64 (a : Nat)] w fun e w' => (∃ v, e = .returned v ∧ rtR a (nameR (l.drop a)) v) ∧ Below w.heap.size w w' := by
  have hsz : (strB l).size = l.length := rfl
  have hA : Below w.heap.size w (w.alloc tokZ) := (Below.refl w.heap.size w).alloc (Nat.le_refl _) _
  have HA : Hid (Below w.heap.size w (w.alloc tokZ)) := hA
  have hidx := fun wx => str_at wx l a ha
  obtain ⟨n, hn⟩ : ∃ n, n = (l[a]).toNat := ⟨_, rfl⟩
  rw [← hn] at hidx hk
  have hn256 : n < 256 := by rw [hn]; exact UInt8.toNat_lt _
  have c1 := refLetter_any n (w.alloc tokZ) hn256
  rw [hk] at c1
  clear hA hn
  go_enter Tryd.func17, Tryd.ntmps17
  go_wp2_with fail
  refine c1.mono ?_
  clear c1
  rintro e w1 ⟨rfl, rfl⟩
  go_wp2_with fail
  go_loopw [8] (fun v wr => ∃ k : Nat, v = .int .i64 ((a : Int) + k) ∧ a + k ≤ l.length ∧ (∀ j (h : a + j < l.length), j < k → nameN (l[a + j]).toNat = true) ∧ wr = w.alloc tokZ) (fun v _ => l.length - (intOf v).toNat)
  case atStart => exact ⟨0, by simp, by omega, fun j h hj => by omega, rfl⟩
  case round =>
    obtain ⟨k, rfl, hk2, hall, rfl⟩ := hrel
    have HAL : Hid (∀ j (h : a + j < l.length), j < k → nameN (l[a + j]).toNat = true) := hall
    clear hall hidx
    by_cases hlt : a + k < l.length
    · have hidx := fun wx => str_at wx l (a + k) hlt
      have e1 : ((a + k : Nat) : Int) = (a : Int) + k := by omega
      simp only [e1] at hidx
      have hi2 : (a : Int) + k < l.length := by omega
      obtain ⟨c, hc⟩ : ∃ c, c = (l[a + k]).toNat := ⟨_, rfl⟩
      rw [← hc] at hidx
      have hc256 : c < 256 := by rw [hc]; exact UInt8.toNat_lt _
      have HC : Hid (c = (l[a + k]).toNat) := hc
      clear hc e1
      have c2 := refLetter_any c (w.alloc tokZ) hc256
      have c3 := refDigit_any c (w.alloc tokZ) hc256
      go_wp2_with fail
      refine c2.mono ?_
      clear c2
      rintro e w1 ⟨rfl, rfl⟩
      cases h1 : letterN c with
      | true =>
        go_wp2
        refine ⟨⟨k + 1, by go_num, by omega, fun j h hj => ?_, by first | rfl | trivial⟩, by simp [intOf]; omega⟩
        by_cases hji : j < k
        · exact HAL.out j h hji
        · obtain rfl : j = k := by omega
          rw [← HC.out]; simp [nameN, h1]
      | false =>
        go_wp2_with fail
        refine c3.mono ?_
        rintro e w1 ⟨rfl, rfl⟩
        cases h2 : digitN c with
        | true =>
          go_wp2
          refine ⟨⟨k + 1, by go_num, by omega, fun j h hj => ?_, by first | rfl | trivial⟩, by simp [intOf]; omega⟩
          by_cases hji : j < k
          · exact HAL.out j h hji
          · obtain rfl : j = k := by omega
            rw [← HC.out]; simp [nameN, h2]
        | false =>
          have HL : Hid (((l.drop a).takeWhile fun c => nameN c.toNat).length = k) := row_at hk2 HAL.out (fun _ => by rw [← HC.out]; simp [nameN, h1, h2])
          clear hidx
          have hsub := fun wx => str_sub wx l a k hk2
          have HNL : Hid ((l.drop a).take k = nameL (l.drop a)) := sub_row HL.out
          rw [HNL.out] at hsub
          obtain ⟨x, hx⟩ : ∃ x, x = nameL (l.drop a) := ⟨_, rfl⟩
          rw [← hx] at hsub
          have hxl : x.length = k := by rw [hx]; exact HL.out
          have hszx : (strB x).size = k := hxl
          have HX : Hid (x = nameL (l.drop a)) := hx
          have cW := refWord_any x (w.alloc tokZ)
          rw [World.size_alloc] at cW
          clear hx
          go_wp2_with fail
          refine cW.mono ?_
          clear cW
          rintro e w2 ⟨rfl, hb2⟩
          obtain ⟨hc1, hf1⟩ := tok_kept hb2
          have HB : Hid (Below w.heap.size w w2) := HA.out.trans (hb2.mono (by omega))
          clear hb2
          cases hq : isWord x with
          | true =>
            have HR : Hid (nameR (l.drop a) = ⟨5, x, 0, k, 0⟩) := by unfold nameR; rw [← HX.out, if_pos hq, hxl]; rfl
            go_wp2
            exact bodyPost_ret (v := rtV 5 0 (a + k) 0 x) (by simp [results, Tryd.results17, go_sem, rtV, hc1]) rfl ⟨⟨_, rfl, rtR_ok HR.out⟩, below_set5 HB.out _ _ _ _ _⟩
          | false =>
            by_cases h20 : 20 < k
            · have HR : Hid (nameR (l.drop a) = ⟨0, [], 0, 0, 5⟩) := by unfold nameR; rw [← HX.out, if_neg (by rw [hq]; simp), if_pos (by rw [hxl]; exact h20)]; rfl
              go_wp2
              exact bodyPost_ret (v := rtV 0 0 0 5 []) (by simp [results, Tryd.results17, go_sem, rtV, hc1]) rfl ⟨⟨_, rfl, rtR_err (by rw [HR.out]) (by decide)⟩, below_set5 HB.out _ _ _ _ _⟩
            · have HR : Hid (nameR (l.drop a) = ⟨1, x, 0, k, 0⟩) := by unfold nameR; rw [← HX.out, if_neg (by rw [hq]; simp), if_neg (by rw [hxl]; exact h20), hxl]; rfl
              go_wp2
              exact bodyPost_ret (v := rtV 1 0 (a + k) 0 x) (by simp [results, Tryd.results17, go_sem, rtV, hc1]) rfl ⟨⟨_, rfl, rtR_ok HR.out⟩, below_set5 HB.out _ _ _ _ _⟩
    · have hi2 : ¬ (a : Int) + k < l.length := by omega
      have HL : Hid (((l.drop a).takeWhile fun c => nameN c.toNat).length = k) := row_at hk2 HAL.out (fun h => absurd h (by omega))
      have hsub := fun wx => str_sub wx l a k hk2
      have HNL : Hid ((l.drop a).take k = nameL (l.drop a)) := sub_row HL.out
      rw [HNL.out] at hsub
      obtain ⟨x, hx⟩ : ∃ x, x = nameL (l.drop a) := ⟨_, rfl⟩
      rw [← hx] at hsub
      have hxl : x.length = k := by rw [hx]; exact HL.out
      have hszx : (strB x).size = k := hxl
      have HX : Hid (x = nameL (l.drop a)) := hx
      have cW := refWord_any x (w.alloc tokZ)
      rw [World.size_alloc] at cW
      clear hx
      go_wp2_with fail
      refine cW.mono ?_
      clear cW
      rintro e w2 ⟨rfl, hb2⟩
      obtain ⟨hc1, hf1⟩ := tok_kept hb2
      have HB : Hid (Below w.heap.size w w2) := HA.out.trans (hb2.mono (by omega))
      clear hb2
      cases hq : isWord x with
      | true =>
        have HR : Hid (nameR (l.drop a) = ⟨5, x, 0, k, 0⟩) := by unfold nameR; rw [← HX.out, if_pos hq, hxl]; rfl
        go_wp2
        exact bodyPost_ret (v := rtV 5 0 (a + k) 0 x) (by simp [results, Tryd.results17, go_sem, rtV, hc1]) rfl ⟨⟨_, rfl, rtR_ok HR.out⟩, below_set5 HB.out _ _ _ _ _⟩
      | false =>
        by_cases h20 : 20 < k
        · have HR : Hid (nameR (l.drop a) = ⟨0, [], 0, 0, 5⟩) := by unfold nameR; rw [← HX.out, if_neg (by rw [hq]; simp), if_pos (by rw [hxl]; exact h20)]; rfl
          go_wp2
          exact bodyPost_ret (v := rtV 0 0 0 5 []) (by simp [results, Tryd.results17, go_sem, rtV, hc1]) rfl ⟨⟨_, rfl, rtR_err (by rw [HR.out]) (by decide)⟩, below_set5 HB.out _ _ _ _ _⟩
        · have HR : Hid (nameR (l.drop a) = ⟨1, x, 0, k, 0⟩) := by unfold nameR; rw [← HX.out, if_neg (by rw [hq]; simp), if_neg (by rw [hxl]; exact h20), hxl]; rfl
          go_wp2
          exact bodyPost_ret (v := rtV 1 0 (a + k) 0 x) (by simp [results, Tryd.results17, go_sem, rtV, hc1]) rfl ⟨⟨_, rfl, rtR_ok HR.out⟩, below_set5 HB.out _ _ _ _ _⟩

set_option maxRecDepth 100000 in
set_option maxHeartbeats 4000000 in
theorem refToken_num (l : List UInt8) (a : Nat) (w : World) (hl : l.length ≤ 5000) (ha : a < l.length) (hk0 : letterN (l[a]).toNat = false) (hk : digitN (l[a]).toNat = true) :
    Calls Tryd.prog 17 #[.string (strB l), .int .i64 (a : Nat)] w fun e w' => (∃ v, e = .returned v ∧ rtR a (numT (l.drop a)) v) ∧ Below w.heap.size w w' := by
  have hsz : (strB l).size = l.length := rfl
  have hA : Below w.heap.size w (w.alloc tokZ) := (Below.refl w.heap.size w).alloc (Nat.le_refl _) _
  have HA : Hid (Below w.heap.size w (w.alloc tokZ)) := hA
  have hidx := fun wx => str_at wx l a ha
  obtain ⟨n, hn⟩ : ∃ n, n = (l[a]).toNat := ⟨_, rfl⟩
  rw [← hn] at hidx hk hk0
  have hn256 : n < 256 := by rw [hn]; exact UInt8.toNat_lt _
  have c1 := refLetter_any n (w.alloc tokZ) hn256
  have c0 := refDigit_any n (w.alloc tokZ) hn256
  rw [hk0] at c1
  rw [hk] at c0
  clear hA hn
  go_enter Tryd.func17, Tryd.ntmps17
  go_wp2_with fail
  refine c1.mono ?_
  clear c1
  rintro e w1 ⟨rfl, rfl⟩
  go_wp2_with fail
  refine c0.mono ?_
  clear c0
  rintro e w1 ⟨rfl, rfl⟩
  go_wp2_with fail
  go_loopw [8] (fun v wr => ∃ k : Nat, v = .int .i64 ((a : Int) + k) ∧ a + k ≤ l.length ∧ (∀ j (h : a + j < l.length), j < k → digitN (l[a + j]).toNat = true) ∧ wr = w.alloc tokZ) (fun v _ => l.length - (intOf v).toNat)
  case atStart => exact ⟨0, by simp, by omega, fun j h hj => by omega, rfl⟩
  case round =>
    obtain ⟨k, rfl, hk2, hall, rfl⟩ := hrel
    have HAL : Hid (∀ j (h : a + j < l.length), j < k → digitN (l[a + j]).toNat = true) := hall
    clear hall hidx
    by_cases hlt : a + k < l.length
    · have hidx := fun wx => str_at wx l (a + k) hlt
      have e1 : ((a + k : Nat) : Int) = (a : Int) + k := by omega
      simp only [e1] at hidx
      have hi2 : (a : Int) + k < l.length := by omega
      obtain ⟨c, hc⟩ : ∃ c, c = (l[a + k]).toNat := ⟨_, rfl⟩
      rw [← hc] at hidx
      have hc256 : c < 256 := by rw [hc]; exact UInt8.toNat_lt _
      have HC : Hid (c = (l[a + k]).toNat) := hc
      clear hc e1
      have c3 := refDigit_any c (w.alloc tokZ) hc256
      go_wp2_with fail
      refine c3.mono ?_
      clear c3
      rintro e w1 ⟨rfl, rfl⟩
      cases h2 : digitN c with
      | true =>
        go_wp2
        refine ⟨⟨k + 1, by go_num, by omega, fun j h hj => ?_, by first | rfl | trivial⟩, by simp [intOf]; omega⟩
        by_cases hji : j < k
        · exact HAL.out j h hji
        · obtain rfl : j = k := by omega
          rw [← HC.out]; exact h2
      | false =>
        have HL : Hid (((l.drop a).takeWhile fun c => digitN c.toNat).length = k) := row_at hk2 HAL.out (fun _ => by rw [← HC.out]; exact h2)
        clear hidx
        have hsub := fun wx => str_sub wx l a k hk2
        have HNL : Hid ((l.drop a).take k = digL (l.drop a)) := sub_row HL.out
        rw [HNL.out] at hsub
        have HDA := digL_all (l.drop a)
        obtain ⟨x, hx⟩ : ∃ x, x = digL (l.drop a) := ⟨_, rfl⟩
        rw [← hx] at hsub HDA
        have hxl : x.length = k := by rw [hx]; exact HL.out
        have HX : Hid (x = digL (l.drop a)) := hx
        have cW := refNumber_any x (w.alloc tokZ) (by omega) HDA
        clear hx HDA
        obtain ⟨v, hv⟩ : ∃ v, v = valA 0 x := ⟨_, rfl⟩
        have HV : Hid (v = valA 0 x) := hv
        unfold numV at cW
        rw [← hv] at cW
        clear hv
        by_cases h63 : v < 9223372036854775808
        · rw [if_pos h63] at cW
          have HR : Hid (numT (l.drop a) = ⟨2, [], v, k, 0⟩) := by unfold numT; rw [← HX.out, ← HV.out, if_pos h63, hxl]; rfl
          go_wp2_with fail
          refine cW.mono ?_
          clear cW
          rintro e w2 ⟨rfl, rfl⟩
          go_wp2
          exact bodyPost_ret (v := rtV 2 v (a + k) 0 []) (by simp [results, Tryd.results17, go_sem, rtV]) rfl ⟨⟨_, rfl, rtR_ok HR.out⟩, by first | exact HA.out | exact below_set5 HA.out _ _ _ _ _ | exact (Below.refl w.heap.size w).alloc (Nat.le_refl _) _⟩
        · rw [if_neg h63] at cW
          have HR : Hid (numT (l.drop a) = ⟨0, [], 0, 0, 5⟩) := by unfold numT; rw [← HX.out, ← HV.out, if_neg h63]; rfl
          go_wp2_with fail
          refine cW.mono ?_
          clear cW
          rintro e w2 ⟨rfl, rfl⟩
          go_wp2
          exact bodyPost_ret (v := rtV 0 0 0 5 []) (by simp [results, Tryd.results17, go_sem, rtV]) rfl ⟨⟨_, rfl, rtR_err (by rw [HR.out]) (by decide)⟩, by first | exact HA.out | exact below_set5 HA.out _ _ _ _ _ | exact (Below.refl w.heap.size w).alloc (Nat.le_refl _) _⟩
    · have hi2 : ¬ (a : Int) + k < l.length := by omega
      have HL : Hid (((l.drop a).takeWhile fun c => digitN c.toNat).length = k) := row_at hk2 HAL.out (fun h => absurd h (by omega))
      have hsub := fun wx => str_sub wx l a k hk2
      have HNL : Hid ((l.drop a).take k = digL (l.drop a)) := sub_row HL.out
      rw [HNL.out] at hsub
      have HDA := digL_all (l.drop a)
      obtain ⟨x, hx⟩ : ∃ x, x = digL (l.drop a) := ⟨_, rfl⟩
      rw [← hx] at hsub HDA
      have hxl : x.length = k := by rw [hx]; exact HL.out
      have HX : Hid (x = digL (l.drop a)) := hx
      have cW := refNumber_any x (w.alloc tokZ) (by omega) HDA
      clear hx HDA
      obtain ⟨v, hv⟩ : ∃ v, v = valA 0 x := ⟨_, rfl⟩
      have HV : Hid (v = valA 0 x) := hv
      unfold numV at cW
      rw [← hv] at cW
      clear hv
      by_cases h63 : v < 9223372036854775808
      · rw [if_pos h63] at cW
        have HR : Hid (numT (l.drop a) = ⟨2, [], v, k, 0⟩) := by unfold numT; rw [← HX.out, ← HV.out, if_pos h63, hxl]; rfl
        go_wp2_with fail
        refine cW.mono ?_
        clear cW
        rintro e w2 ⟨rfl, rfl⟩
        go_wp2
        exact bodyPost_ret (v := rtV 2 v (a + k) 0 []) (by simp [results, Tryd.results17, go_sem, rtV]) rfl ⟨⟨_, rfl, rtR_ok HR.out⟩, by first | exact HA.out | exact below_set5 HA.out _ _ _ _ _ | exact (Below.refl w.heap.size w).alloc (Nat.le_refl _) _⟩
      · rw [if_neg h63] at cW
        have HR : Hid (numT (l.drop a) = ⟨0, [], 0, 0, 5⟩) := by unfold numT; rw [← HX.out, ← HV.out, if_neg h63]; rfl
        go_wp2_with fail
        refine cW.mono ?_
        clear cW
        rintro e w2 ⟨rfl, rfl⟩
        go_wp2
        exact bodyPost_ret (v := rtV 0 0 0 5 []) (by simp [results, Tryd.results17, go_sem, rtV]) rfl ⟨⟨_, rfl, rtR_err (by rw [HR.out]) (by decide)⟩, by first | exact HA.out | exact below_set5 HA.out _ _ _ _ _ | exact (Below.refl w.heap.size w).alloc (Nat.le_refl _) _⟩

theorem textF_k : ∀ (f : Nat) (meant : List UInt8) (at0 : Nat) (r : List UInt8), (textF f meant at0 r).e = 0 → (textF f meant at0 r).k = 3 ∧ (textF f meant at0 r).n = 0
  | 0, _, _, _, h => by simp [textF] at h
  | _ + 1, _, _, [], h => by simp [textF] at h
  | f + 1, meant, at0, x :: r, h => by
    unfold textF at h ⊢
    by_cases h1 : x.toNat = 34
    · rw [if_pos h1]; exact ⟨rfl, rfl⟩
    · rw [if_neg h1] at h ⊢
      by_cases h2 : (tbR (x :: r)).2 = 0
      · rw [if_pos h2] at h; simp at h
      · rw [if_neg h2] at h ⊢
        by_cases h3 : meant.length = 255
        · rw [if_pos h3] at h; simp at h
        · rw [if_neg h3] at h ⊢
          exact textF_k f _ _ _ h

set_option maxRecDepth 100000 in
set_option maxHeartbeats 4000000 in
theorem refToken_text (l : List UInt8) (a : Nat) (w : World) (hl : l.length ≤ 5000) (ha : a < l.length) (hk0 : letterN (l[a]).toNat = false) (hk : digitN (l[a]).toNat = false) (h34 : (l[a]).toNat = 34) :
    Calls Tryd.prog 17 #[.string (strB l), .int .i64 (a : Nat)] w fun e w' => (∃ v, e = .returned v ∧ rtR a (textT (l.drop a)) v) ∧ Below w.heap.size w w' := by
  have hsz : (strB l).size = l.length := rfl
  have hA : Below w.heap.size w (w.alloc tokZ) := (Below.refl w.heap.size w).alloc (Nat.le_refl _) _
  have HA : Hid (Below w.heap.size w (w.alloc tokZ)) := hA
  have hidx := fun wx => str_at wx l a ha
  obtain ⟨n, hn⟩ : ∃ n, n = (l[a]).toNat := ⟨_, rfl⟩
  rw [← hn] at hidx hk hk0 h34
  have hn256 : n < 256 := by rw [hn]; exact UInt8.toNat_lt _
  have c1 := refLetter_any n (w.alloc tokZ) hn256
  have c0 := refDigit_any n (w.alloc tokZ) hn256
  have cq := refQuoted_any l a (w.alloc tokZ) hl ha
  rw [hk0] at c1
  rw [hk] at c0
  rw [World.size_alloc] at cq
  obtain ⟨R, hR⟩ : ∃ R, R = textT (l.drop a) := ⟨_, rfl⟩
  have HTK : Hid (R.e = 0 → R.k = 3 ∧ R.n = 0) := by rw [hR]; exact textF_k _ _ _ _
  rw [← hR] at cq ⊢
  obtain ⟨X, hX⟩ : ∃ X, X = (if R.e = 0 then a + R.sz else 0 : Nat) := ⟨_, rfl⟩
  unfold qV at cq
  rw [← hX] at cq
  have HXX : Hid (X = (if R.e = 0 then a + R.sz else 0 : Nat)) := hX
  clear hA hn hR hX
  subst h34
  go_enter Tryd.func17, Tryd.ntmps17
  go_wp2_with fail
  refine c1.mono ?_
  clear c1
  rintro e w1 ⟨rfl, rfl⟩
  go_wp2_with fail
  refine c0.mono ?_
  clear c0
  rintro e w1 ⟨rfl, rfl⟩
  go_wp2_with fail
  refine cq.mono ?_
  clear cq
  rintro e w2 ⟨rfl, hb2⟩
  obtain ⟨hc1, hf1⟩ := tok_kept hb2
  have HB : Hid (Below w.heap.size w w2) := HA.out.trans (hb2.mono (by omega))
  clear hb2
  go_wp2
  refine bodyPost_ret (v := rtV 3 0 X R.e R.s) (by simp [results, Tryd.results17, go_sem, rtV, hc1]) rfl ⟨⟨_, rfl, 3, 0, X, R.s, rfl, fun he => ?_⟩, below_set5 HB.out _ _ _ _ _⟩
  obtain ⟨k1, k2⟩ := HTK.out he
  have k3 := HXX.out
  rw [if_pos he] at k3
  exact ⟨k1.symm, rfl, k2.symm, k3⟩
end Go.Proofs.YtjhfkiighphepaaDoor
