/- What is told for a position is what was put there last. -/
import Derived.Test.YtenckpnkejnfgaaKDone
namespace Go.Proofs.Ytenckpnkejnfgaa
open Go.RowKit

theorem byteCells_set (ys : List UInt8) (k : Nat) (z : UInt8) : (Lib.byteCells ys).set k (.int .u8 (z.toNat : Int)) = Lib.byteCells (ys.set k z) := by
  unfold Lib.byteCells
  rw [List.map_set]
theorem kbyte_at {w : World} {B : Nat} {bx : Option Addr} {n cx : Nat} {ys : List UInt8} (h : w.ownsRow B 5 1 (.slice bx n cx) n (Lib.byteCells ys)) {k : Nat} (hk : k < n) : ∃ g, bx = some ⟨g, 0, none⟩ ∧ B ≤ g ∧ ∃ (hy : k < ys.length), w.cell? ⟨g, k, none⟩ = some (.int .u8 ((ys[k]).toNat : Int)) ∧ w.frozen? ⟨g, k, none⟩ = false ∧
    ∀ z : UInt8, (w.setCell ⟨g, k, none⟩ (.int .u8 (z.toNat : Int))).ownsRow B 5 1 (.slice bx n cx) n (Lib.byteCells (ys.set k z)) := by
  have hl := h.1
  rw [Lib.byteCells_length, Nat.mul_one] at hl
  rcases h.2 with ⟨hh, h0⟩ | ⟨g, cap, cur, hh, hB, hg, _⟩
  · omega
  · cases hh
    have hy : k < ys.length := by omega
    have hc := h.cells (g := g) rfl k (.int .u8 ((ys[k]).toNat : Int)) (by unfold Lib.byteCells; rw [List.getElem?_map, List.getElem?_eq_getElem hy]; rfl)
    rw [add_zero'] at hc
    refine ⟨g, rfl, hB, hy, hc, ?_, fun z => ?_⟩
    · simp only [World.frozen?, hg]; simp
    · rw [← byteCells_set]
      exact (h.stored k _).1

theorem kwpList_append {P : Program} {ops : Array Oper} {rest : List Oper} {o : Oper} {a : Act} {w : World} {Q : Exit → Act → World → Prop} (hgd : o.guard = none) (s x : Operand) (t : TypeId)
    (ho : o.op = .call { callee := .builtin .append, args := #[s, x], argTypes := #[t, t] })
    (base : Nat) (e : TypeId) (i : TypeInfo) (z : Value) (size bytes : Nat) (ht : P.underlying t = some (.slice e)) (hi : P.info? e = some i) (hz : i.zero = some z)
    (hsize : i.size = size) (hby : i.bytes = bytes) (hzs : z.cells.size = size) (hsz : 0 < size)
    (v : Value) (n : Nat) (xs : List Value) (hs : a.eval s = v) (hown : w.ownsRow base e size v n xs)
    (ad : Option Addr) (m c : Nat) (news : List Value) (hx : a.eval x = .slice ad m c) (hl : news.length = m * size) (hx0 : ad = none → m = 0 ∧ c = 0) (hnews : ∀ b, ad = some b → ∀ j u, news[j]? = some u → w.cell? (b.add j) = some u) (h1 : ∀ u ∈ news, u.oneCell' = true)
    (h63 : n + m ≤ maxLen) (hbytes : (n + m) * bytes ≤ 140737488355328) (hbase : base ≤ w.heap.size)
    (h : ∀ v' w', w'.ownsRow base e size v' (n + m) (xs ++ news) → w.grownBy w' v.ownBlock → wpList P ops Q rest (a.put o.dst v') w') :
    wpList P ops Q (o :: rest) a w := by
  refine wpList_plain hgd fun K hK => ?_
  obtain ⟨v', w', hr, h2, h3⟩ : ∃ v' w', (Builtin.append_ #[t, t] o.type #[v, .slice ad m c]).run P w = .ok v' w' ∧ w'.ownsRow base e size v' (n + m) (xs ++ news) ∧ w.grownBy w' v.ownBlock := by
    cases ad with
    | some ad =>
      obtain ⟨v', w', hr, h2, h3, -, -⟩ := run_append_own_at (P := P) w base t o.type e i z size bytes ht hi hz hsize hby hzs hsz v n xs hown ad m c news hl (hnews ad rfl) h1 h63 hbytes hbase
      exact ⟨v', w', hr, h2, h3⟩
    | none =>
      obtain ⟨rfl, rfl⟩ := hx0 rfl
      have hn : news = [] := List.eq_nil_of_length_eq_zero (by simpa using hl)
      subst hn
      exact ⟨v, w, run_append_owned_none (P := P) w base t o.type e i size ht hi v n xs hown, by simpa using hown, ⟨rfl, rfl, rfl, Nat.le_refl _, fun _ _ _ => rfl⟩⟩
  unfold Oper.wp execOp
  simp only [ho, resolve, invoke, builtin, Sem.run_bind, Sem.run_pure, Result.andThen_ok, List.map_toArray, List.map_cons, List.map_nil, hs, hx, hr]
  exact hK _ _ (h v' w' h2 h3)
theorem StIn.setByte {w : World} {most : Nat} {ks : List Kp} {h : Nat} {vk : Value} (H : StIn w most ks h vk) {g j : Nat} {v : Value} {cur : Array Value} (hg : w.heap[g]? = some (.cells cur 5 (0, 0))) (hne : ∀ k ∈ ks, k.v.ownBlock ≠ some g) : StIn (w.setCell ⟨g, j, none⟩ v) most ks h vk := by
  have hk : ∀ q, q ≠ g → (w.setCell ⟨g, j, none⟩ v).heap[q]? = w.heap[q]? := fun q hq => Below.heap_setCell _ _ _ _ hq
  refine { H with blk := (hk h fun e => ?_).trans H.blk, row := kown_blocks H.row fun k e _ => hk k fun e' => ?_, its := fun k hkm => ⟨kown_blocks (H.its k hkm).1 fun q e _ => hk q fun e' => hne k hkm (by rw [← e']; exact e), (H.its k hkm).2⟩ }
  · rw [← e, H.blk] at hg
    simp at hg
  · obtain ⟨c', hc⟩ := kown_type H.row e
    rw [e', hg] at hc
    simp at hc
theorem kput_one (bs : List UInt8) : putF 5 [] (0, bs) = [(0, bs)] := by simp [putF, putL, withL, atF, isF]
theorem kfloor_one (bs : List UInt8) : floorF [(0, bs)] 0 = some (0, bs) := by simp [floorF]
theorem krow_bytes {w : World} {base : Option Addr} {n c : Nat} {bs : List UInt8} (h : bytesAt w (.slice base n c) bs) : rowAt w base bs := by
  obtain ⟨b', c', hv, hn, h1, h2, hc⟩ := h
  simp only [Value.slice.injEq] at hv
  obtain ⟨rfl, -, -⟩ := hv
  cases bs with
  | nil => exact .inl rfl
  | cons x t =>
    right
    cases base with
    | none => exact absurd (hn rfl).1 (by simp)
    | some a =>
      have h0 := hc a rfl 0 (.int .u8 (x.toNat : Int)) rfl
      rw [kadd_at0] at h0
      have hsp := kspot_of h0
      obtain ⟨b, o, sp⟩ := a
      simp only at hsp
      subst hsp
      refine ⟨b, o, rfl, fun j hj => ?_⟩
      have := hc ⟨b, o, none⟩ rfl j (.int .u8 (((x :: t)[j]).toNat : Int)) (by unfold Lib.byteCells; rw [List.getElem?_map, List.getElem?_eq_getElem hj]; rfl)
      rw [add_plain] at this
      exact this
/-- What Put(0, own) into a new store leaves. -/
structure KpOne (w : World) (hx : Nat) (bs : List UInt8) (N7 : Nat) (ks : List Kp) (vk : Value) (W : World) : Prop where
  st : StIn W 5 ks hx vk
  pr : prK ks = [(0, bs)]
  new : ∀ k ∈ ks, ∀ q, k.v.ownBlock = some q → N7 ≤ q
  b : Below w.heap.size w W
theorem KpOne.set {w : World} {hx : Nat} {bs : List UInt8} {N7 : Nat} {ks : List Kp} {vk : Value} {W : World} (H : KpOne w hx bs N7 ks vk W) {g j : Nat} {v : Value} {cur : Array Value} (hg : W.heap[g]? = some (.cells cur 5 (0, 0))) (h7 : g < N7) (hw : w.heap.size ≤ g) : KpOne w hx bs N7 ks vk (W.setCell ⟨g, j, none⟩ v) :=
  ⟨H.st.setByte hg (fun k hk e => by have := H.new k hk g e; omega), H.pr, H.new, H.b.setCell hw _⟩

set_option maxHeartbeats 16000000 in
set_option maxRecDepth 100000 in
theorem skept_walk (m : Int) (base : Option Addr) (cap : Nat) (ls : List PB) (v : Value) (bs : List UInt8) (w : World) (hacts : kactsAt w base ls) (hlc : ls.length ≤ cap) (hsz : ∀ a ∈ ls, a.2.length ≤ 140737488355328) (hv : bytesAt w v bs) (hbl : bs.length ≤ 140737488355328) :
    Calls Try.prog 5 #[.int .i64 m, .slice base ls.length cap, v] w fun e w' => e = .returned (.bool true) ∧ Below w.heap.size w w' := by
  have HV : Hid (bytesAt w v bs) := hv
  obtain ⟨vb, vc, hvv, -⟩ := hv
  subst hvv
  obtain ⟨na, hna⟩ : ∃ na, na = ls.length := ⟨_, rfl⟩
  have HNA : Hid (na = ls.length) := hna
  by_cases hbig : 300 < na
  · rw [← hna]
    go_enter Try.func5, Try.ntmps5
    go_wp2_with fail
    refine (lives11_any w).mono ?_
    rintro e w1 ⟨rfl, hb⟩
    go_wp2
    go_ret
    exact ⟨rfl, hb⟩
  · have HDN : Hid (Calls Try.prog 18 #[.int .i64 m, .slice base na cap] w fun e w' => ∃ h vk, e = .returned (.pointer (some ⟨h, 0, none⟩)) ∧ FiIn w m h (doneL (kMost m) ls) vk w' ∧ WantP ls (doneL (kMost m) ls)) := by
      rw [hna]; exact kDone_any m base cap ls w hacts hlc (by omega) hsz
    have HA : Hid (kactsAt w base ls) := hacts
    rw [← hna] at hlc ⊢
    clear hna hacts hsz
    go_enter Try.func5, Try.ntmps5
    go_wp2_with fail
    refine HDN.out.mono ?_
    rintro e w1 ⟨h, vk, rfl, hfi, hwp⟩
    obtain ⟨D, hD⟩ : ∃ D, D = doneL (kMost m) ls := ⟨_, rfl⟩
    rw [← hD] at hfi hwp
    have HF1 : Hid (FiIn w m h D vk w1) := hfi
    have HWP : Hid (WantP ls D) := hwp
    clear hD hfi hwp HDN
    go_wp2_with fail
    refine (kAllX _ _ D h vk w1 HF1.out.s).mono ?_
    rintro e w2 ⟨va, rfl, hoa, hb2⟩
    obtain ⟨ba, ca, hva, hca1, hca⟩ := kown_val hoa
    have HF2 : Hid (FiIn w m h D vk w2) := HF1.out.below hb2
    have HOA2 : Hid (w2.ownsRow 0 3 1 va D.length (intC (D.map (·.1)))) := kown_base hoa (Nat.zero_le _)
    subst hva
    obtain ⟨n, hn⟩ : ∃ n, n = D.length := ⟨_, rfl⟩
    have HN : Hid (n = D.length) := hn
    have hn64 : n ≤ 64 := by have := HF2.out.s.few; have := HF2.out.s.most1; omega
    rw [← hn] at HOA2 hca1 ⊢
    clear hn hoa hb2 HF1
    go_wp2
    go_loopw [9] (fun vi wr => ∃ i : Nat, i ≤ n ∧ vi = .int .i64 (i : Int) ∧ FiIn w m h D vk wr ∧ wr.ownsRow 0 3 1 (.slice ba n ca) n (intC (D.map (·.1)))) (fun vi _ => n - (intOf vi).toNat)
    case atStart => exact ⟨0, Nat.zero_le _, rfl, HF2.out, HOA2.out⟩
    case round =>
      clear HF2 HOA2
      obtain ⟨W0, rfl⟩ : ∃ W0, W0 = wr := ⟨_, rfl⟩
      obtain ⟨i, hin, rfl, hfi, hoa⟩ := hrel
      have HF : Hid (FiIn w m h D vk W0) := hfi
      have HOA : Hid (W0.ownsRow 0 3 1 (.slice ba n ca) n (intC (D.map (·.1)))) := hoa
      clear hfi hoa
      by_cases hlt : i < n
      · have hiD : i < D.length := by rw [← HN.out]; exact hlt
        obtain ⟨g, rfl, hg, c0⟩ := kints_at (l := D) (by rw [← HN.out]; exact HOA.out) i hiD
        obtain ⟨p, hp⟩ : ∃ p, p = (D[i]).1 := ⟨_, rfl⟩
        obtain ⟨bb, hbb⟩ : ∃ bb, bb = (D[i]).2 := ⟨_, rfl⟩
        rw [show (D.map (·.1)).getD i 0 = p by rw [hp, List.getD_eq_getElem?_getD, List.getElem?_map, List.getElem?_eq_getElem hiD]; rfl] at c0
        have HWA : Hid (bb = wantL ls p) := by rw [hbb, hp]; exact HWP.out _ (List.getElem_mem hiD)
        have HFLO : Hid (floorF D p = some (p, bb)) := by rw [hp, hbb]; exact floorF_at HF.out.s.rise hiD
        have HFC : Hid (∀ W, Below W0.heap.size W0 W → Calls Try.prog 13 #[.pointer (some ⟨h, 0, none⟩), .int .i64 p] W fun e W' => ∃ x, e = .returned (.tuple #[.int .i64 p, x, .bool true]) ∧ W'.ownsRow W.heap.size 5 1 x bb.length (Lib.byteCells bb) ∧ Below W.heap.size W W') := fun W hW =>
          (kFloorX _ _ D h vk p W (HF.out.s.below hW)).mono fun e W' ⟨hb, hm⟩ => by
            rw [HFLO.out] at hm
            obtain ⟨x, h1, h2⟩ := hm
            exact ⟨x, h1, h2, hb⟩
        have HP : Hid (p ≤ 9223372036854775807) := by rw [hp]; exact (HF.out.s.pos _ (List.getElem_mem hiD)).2
        have HC0 : Hid (W0.cell? ⟨g, i, none⟩ = some (.int .i64 p)) := c0
        have HG : Hid (g < W0.heap.size) := hg
        clear hp hbb hg HFLO
        go_wp2_with fail
        refine (HFC.out W0 (Below.refl _ _)).mono ?_
        rintro e w3 ⟨x, rfl, hox, hb3⟩
        obtain ⟨bx, cx, hx, hcx1, hcx⟩ := kown_val hox
        subst hx
        obtain ⟨nb, hnb⟩ : ∃ nb, nb = bb.length := ⟨_, rfl⟩
        have HNB : Hid (nb = bb.length) := hnb
        have HOX : Hid (w3.ownsRow W0.heap.size 5 1 (.slice bx nb cx) nb (Lib.byteCells bb)) := by rw [hnb]; exact hox
        have HB3 : Hid (Below W0.heap.size W0 w3) := hb3
        rw [← hnb] at hcx1 ⊢
        have hnbm : nb ≤ 9223372036854775807 := by unfold maxLen at hcx; omega
        clear hnb hox hb3 c0
        have HBA : Hid (∀ W, Below w3.heap.size w3 W → Below W0.heap.size W0 W) := fun W hW => HB3.out.trans (hW.mono HB3.out.size)
        go_wp2
        go_loopw [13, 14] (fun vw vi wr2 => ∃ k : Nat, k ≤ na ∧ vi = .int .i64 (k : Int) ∧ vw = .string ⟨(wantL (ls.take k) p).toArray⟩ ∧ Below w3.heap.size w3 wr2) (fun _ vi _ => na - (intOf vi).toNat)
        case atStart => exact ⟨0, Nat.zero_le _, rfl, rfl, Below.refl _ _⟩
        case round =>
          obtain ⟨k, hkn, rfl, rfl, hb⟩ := hrel
          have HB : Hid (Below w3.heap.size w3 wr) := hb
          have HB0 : Hid (Below W0.heap.size W0 wr) := HBA.out wr hb
          have e2 : wr.cell? ⟨g, i, none⟩ = some (.int .i64 p) := (kbelow_cell HB0.out HG.out).trans HC0.out
          clear hb
          by_cases hk : k < na
          · have hkl : k < ls.length := by rw [← HNA.out]; exact hk
            rcases HA.out with h0 | ⟨ab, ao, rfl, hcell⟩
            · rw [h0] at hkl; simp at hkl
            · obtain ⟨d0, d1, -, -⟩ := hcell k hkl
              have HSU := wantL_succ ls p k hkl
              obtain ⟨q, hq⟩ : ∃ q, q = (ls[k]).1 := ⟨_, rfl⟩
              obtain ⟨qb, hqb⟩ : ∃ qb, qb = (ls[k]).2 := ⟨_, rfl⟩
              rw [← hq] at d0 HSU
              rw [← hqb] at d1 HSU
              have halt : ab < w.heap.size := World.block_lt_of_cell? w _ d0
              have HBW : Hid (Below w.heap.size w wr) := HF.out.b.trans (HB0.out.mono HF.out.s.low)
              have e0 : wr.cell? ⟨ab, ao + k * 2, none⟩ = some (.int .i64 q) := (kbelow_cell HBW.out halt).trans d0
              have e1 : wr.cell? ⟨ab, ao + k * 2 + 1, none⟩ = some (.string ⟨qb.toArray⟩) := (kbelow_cell HBW.out halt).trans d1
              have HBD : Hid (Below w3.heap.size w3 wr.drew) := HB.out.drew
              clear d0 d1 hq hqb hcell
              by_cases hqp : q = p
              · rw [if_pos hqp] at HSU
                have HS2 : Hid (wantL (ls.take (k + 1)) p = qb) := HSU
                have t1 : (q == p) = true := by simp [hqp]
                obtain ⟨wl, hwl⟩ : ∃ wl, wl = wantL (ls.take k) p := ⟨_, rfl⟩
                rw [← hwl]
                clear hqp HSU hwl
                go_wp2_with fail
                go_region
                go_wp2
                go_roundw
                case rel => exact ⟨k + 1, by omega, by go_num, by rw [HS2.out], HBD.out⟩
                case measure => simp [intOf]; omega
              · rw [if_neg hqp] at HSU
                have HS2 : Hid (wantL (ls.take (k + 1)) p = wantL (ls.take k) p) := HSU
                have t1 : (q == p) = false := by simp [hqp]
                obtain ⟨wl, hwl⟩ : ∃ wl, wl = wantL (ls.take k) p := ⟨_, rfl⟩
                rw [← hwl] at HS2 ⊢
                clear hqp HSU hwl
                go_wp2_with fail
                go_region
                go_wp2
                go_roundw
                case rel => exact ⟨k + 1, by omega, by go_num, by rw [HS2.out], HBD.out⟩
                case measure => simp [intOf]; omega
          · obtain rfl : k = na := by omega
            have HWE : Hid (wantL (ls.take k) p = bb) := by
              show _ = _
              rw [List.take_of_length_le (by rw [← HNA.out]; exact Nat.le_refl _)]
              exact HWA.out.symm
            rw [HWE.out]
            have HOX4 : Hid (wr.ownsRow W0.heap.size 5 1 (.slice bx nb cx) nb (Lib.byteCells bb)) := kbelowRow HOX.out HB.out
            have hconv : (convert 36 9 (.slice bx nb cx)).run Try.prog wr = .ok (.string ⟨bb.toArray⟩) wr := by
              have h9 := HOX4.out
              rw [HNB.out] at h9 ⊢
              exact conv_row wr bx bb cx (krowAt h9).2
            have t2 : (p != p) = false := by simp
            obtain ⟨W1, rfl⟩ : ∃ W1, W1 = wr := ⟨_, rfl⟩
            clear HB HBA
            go_wp2
            go_loopw [15] (fun vi wr => ∃ j : Nat, j ≤ nb ∧ vi = .int .i64 (j : Int) ∧ Below W0.heap.size W0 wr ∧ ∃ ys : List UInt8, wr.ownsRow W0.heap.size 5 1 (.slice bx nb cx) nb (Lib.byteCells ys)) (fun vi _ => nb - (intOf vi).toNat)
            case atStart => exact ⟨0, Nat.zero_le _, rfl, HB0.out, bb, HOX4.out⟩
            case round =>
              clear e2 hconv HB0 HOX4
              obtain ⟨j, hjn, rfl, hb, ys, hoy⟩ := hrel
              have HBJ : Hid (Below W0.heap.size W0 wr) := hb
              have HOY : Hid (wr.ownsRow W0.heap.size 5 1 (.slice bx nb cx) nb (Lib.byteCells ys)) := hoy
              clear hb hoy
              by_cases hj : j < nb
              · obtain ⟨gx, rfl, hgx, hy, d0, f0, hset⟩ := kbyte_at HOY.out hj
                have hxr := xor255_byte (ys[j])
                have HST := hset ((255 - (ys[j]).toNat).toUInt8)
                obtain ⟨yv, hyv⟩ : ∃ yv, yv = (ys[j]).toNat := ⟨_, rfl⟩
                obtain ⟨zv, hzv⟩ : ∃ zv : Int, zv = (((255 - (ys[j]).toNat).toUInt8).toNat : Int) := ⟨_, rfl⟩
                rw [← hzv] at hxr HST
                rw [← hyv] at d0 hxr
                have HS2 : Hid ((wr.setCell ⟨gx, j, none⟩ (.int .u8 zv)).ownsRow W0.heap.size 5 1 (.slice (some ⟨gx, 0, none⟩) nb cx) nb (Lib.byteCells (ys.set j ((255 - (ys[j]).toNat).toUInt8)))) := HST
                have HBS : Hid (Below W0.heap.size W0 (wr.setCell ⟨gx, j, none⟩ (.int .u8 zv))) := HBJ.out.setCell hgx _
                clear hset HST hyv hzv
                go_wp2
                go_roundw
                case rel => exact ⟨j + 1, by omega, by go_num, HBS.out, _, HS2.out⟩
                case measure => simp [intOf]; omega
              · have e3 : wr.cell? ⟨g, i, none⟩ = some (.int .i64 p) := (kbelow_cell HBJ.out HG.out).trans HC0.out
                go_wp2_with fail
                refine (HFC.out wr HBJ.out).mono ?_
                rintro e w5 ⟨y, rfl, hoy, hb5⟩
                obtain ⟨by5, cy5, hy5, -, -⟩ := kown_val hoy
                subst hy5
                have hconv : (convert 36 9 (.slice by5 bb.length cy5)).run Try.prog w5 = .ok (.string ⟨bb.toArray⟩) w5 := conv_row w5 by5 bb cy5 (krowAt hoy).2
                have HB5 : Hid (Below W0.heap.size W0 w5) := HBJ.out.trans (hb5.mono HBJ.out.size)
                have HF5 : Hid (FiIn w m h D vk w5) := HF.out.below HB5.out
                have HO5 : Hid (w5.ownsRow 0 3 1 (.slice (some ⟨g, 0, none⟩) n ca) n (intC (D.map (·.1)))) := kbelowRow HOA.out HB5.out
                obtain ⟨bl, hbl2⟩ : ∃ bl, bl = bb.length := ⟨_, rfl⟩
                rw [← hbl2] at hconv ⊢
                clear hoy hb5 hbl2 e3
                go_wp2
                go_roundw
                case rel => exact ⟨i + 1, by omega, by go_num, HF5.out, HO5.out⟩
                case measure => simp [intOf]; omega
      · obtain rfl : i = n := by omega
        obtain ⟨i0, hinf, hz0, hz1, hz2⟩ := info_parts info_u8
        go_wp2_with fail
        refine (kNewX 5 W0).mono ?_
        rintro e w5 ⟨hx, rfl, hst, hb5⟩
        have HXL : Hid (w.heap.size ≤ hx) := Nat.le_trans HF.out.s.low hst.lo
        have HS5 : Hid (StIn w5 5 [] hx (.slice none 0 0)) := by
          obtain ⟨ks, hk, hs⟩ := hst.st
          have : ks = [] := List.map_eq_nil_iff.1 hk
          rw [this] at hs
          exact hs
        have HB5 : Hid (Below w.heap.size w w5) := HF.out.b.trans (hb5.mono HF.out.s.low)
        have HV5 : Hid (bytesAt w5 (.slice vb bs.length vc) bs) := bytesAt_below HV.out HB5.out (Nat.le_refl _)
        have hl0 : (w5.alloc (.cells #[] 5)).ownsRow w5.heap.size 5 1 (.slice (some ⟨w5.heap.size, 0, none⟩) 0 0) 0 [] := World.ownsRow_made w5 #[] 0 (Nat.le_refl _) (Nat.zero_le _) rfl
        clear hst hb5 HF HOA HA HWP
        obtain ⟨b', c', hv, hn0, hl1, hl2, hcc⟩ := HV5.out
        simp only [Value.slice.injEq] at hv
        obtain ⟨rfl, -, rfl⟩ := hv
        have HN0 : Hid (vb = none → bs.length = 0 ∧ vc = 0) := fun e => ⟨by rw [(hn0 e).1]; rfl, (hn0 e).2⟩
        have HCC : Hid (∀ b, vb = some b → ∀ j u, (Lib.byteCells bs)[j]? = some u → (w5.alloc (.cells #[] 5)).cell? (b.add j) = some u) := fun b e j u hj => Lib.cell?_alloc_some _ (hcc b e j u hj)
        clear hn0 hcc
        go_wp2_with (at_builtin; refine kwpList_append rfl _ _ 36 rfl w5.heap.size 5 i0 (.int .u8 0) 1 1 Try.underlying36 hinf hz0 hz1 hz2 rfl (by decide) _ _ _ rfl hl0 vb bs.length vc (Lib.byteCells bs) rfl ?c0 HN0.out HCC.out (bytes_one bs) ?c3 ?c4 ?c5 ?_)
        case c0 => rw [Lib.byteCells_length, Nat.mul_one]
        case c3 => unfold maxLen; omega
        case c4 => omega
        case c5 => simp
        intro vo w7 hown7 hgrow
        have HO7 : Hid (w7.ownsRow w5.heap.size 5 1 vo bs.length (Lib.byteCells bs)) := show w7.ownsRow _ _ _ _ _ _ by simpa using hown7
        have HBO : Hid (Below w5.heap.size w5 w7) := ((Below.refl _ _).alloc (Nat.le_refl _) _).grown hgrow (by simp) (fun k hk => (hl0.lt k hk).1)
        clear hown7 hgrow hl0 HCC HN0
        have hbo : Below w5.heap.size w5 w7 := HBO.out
        obtain ⟨bo, co, hvo, hco1, hco2⟩ := kown_val HO7.out
        have HPC : Hid (Calls Try.prog 12 #[.pointer (some ⟨hx, 0, none⟩), .int .i64 0, vo] w7 fun e w' => e = .returned (.int .i64 0) ∧ ∃ ks' vk', KpOne w hx bs w7.heap.size ks' vk' w' ∧ w'.ownsRow w5.heap.size 5 1 vo bs.length (Lib.byteCells bs)) := by
          refine (kPut_own 5 [] hx (.slice none 0 0) 0 vo bs w7 (HS5.out.below hbo) (by simp) (by omega) (by omega) (bytesAt_own HO7.out) hbl).mono ?_
          rintro e w8 ⟨rfl, ks', vk', hst, hpt, hnew⟩
          have hpr := hpt.eq
          rw [show prK ([] : List Kp) = [] from rfl, kput_one] at hpr
          refine ⟨rfl, ks', vk', ⟨hst.2.1, hpr, fun k hk q e => ?_, ?_⟩, ?_⟩
          · rcases hnew k hk with h9 | h9
            · cases h9
            · exact h9 q e
          · have hb7 : Below w.heap.size w w7 := HB5.out.trans (hbo.mono HB5.out.size)
            refine hb7.trans (hst.1.below hb7.size fun q e => ?_)
            rcases e with e | e
            · rw [e]; exact HXL.out
            · simp [Value.ownBlock] at e
          · refine kown_blocks HO7.out fun q e hq => hst.1.block q hq ?_
            rintro (e2 | e2)
            · obtain ⟨cur, hc⟩ := kown_type HO7.out e
              rw [e2, (HS5.out.below hbo).blk] at hc
              simp at hc
            · simp [Value.ownBlock] at e2
        have HLT7 : Hid (∀ q, vo.ownBlock = some q → w5.heap.size ≤ q ∧ q < w7.heap.size) := HO7.out.lt
        subst hvo
        obtain ⟨nb, hnb⟩ : ∃ nb, nb = bs.length := ⟨_, rfl⟩
        have HNB : Hid (nb = bs.length) := hnb
        rw [← hnb] at HPC HLT7 hco1 ⊢
        have hnbm : nb ≤ 9223372036854775807 := by unfold maxLen at hco2; omega
        have HW5 : Hid (w.heap.size ≤ w5.heap.size) := HB5.out.size
        clear hnb HO7 hbo
        go_wp2_with fail
        refine HPC.out.mono ?_
        rintro e w8 ⟨rfl, ks, vk8, hone, ho8⟩
        have HK8 : Hid (KpOne w hx bs w7.heap.size ks vk8 w8) := hone
        have HO8 : Hid (w8.ownsRow w5.heap.size 5 1 (.slice bo nb co) nb (Lib.byteCells bs)) := ho8
        clear hone ho8 HPC
        go_wp2
        go_loopw [21] (fun vi wr => ∃ j : Nat, j ≤ nb ∧ vi = .int .i64 (j : Int) ∧ KpOne w hx bs w7.heap.size ks vk8 wr ∧ ∃ ys : List UInt8, wr.ownsRow w5.heap.size 5 1 (.slice bo nb co) nb (Lib.byteCells ys)) (fun vi _ => nb - (intOf vi).toNat)
        case atStart => exact ⟨0, Nat.zero_le _, rfl, HK8.out, bs, HO8.out⟩
        case round =>
          clear HK8 HO8
          obtain ⟨j, hjn, rfl, hko, ys, hoy⟩ := hrel
          have HKJ : Hid (KpOne w hx bs w7.heap.size ks vk8 wr) := hko
          have HOY : Hid (wr.ownsRow w5.heap.size 5 1 (.slice bo nb co) nb (Lib.byteCells ys)) := hoy
          clear hko hoy
          by_cases hj : j < nb
          · obtain ⟨gx, rfl, hgx, hy, d0, f0, hset⟩ := kbyte_at HOY.out hj
            have hxr := xor255_byte (ys[j])
            have HST := hset ((255 - (ys[j]).toNat).toUInt8)
            obtain ⟨yv, hyv⟩ : ∃ yv, yv = (ys[j]).toNat := ⟨_, rfl⟩
            obtain ⟨zv, hzv⟩ : ∃ zv : Int, zv = (((255 - (ys[j]).toNat).toUInt8).toNat : Int) := ⟨_, rfl⟩
            rw [← hzv] at hxr HST
            rw [← hyv] at d0 hxr
            have HS2 : Hid ((wr.setCell ⟨gx, j, none⟩ (.int .u8 zv)).ownsRow w5.heap.size 5 1 (.slice (some ⟨gx, 0, none⟩) nb co) nb (Lib.byteCells (ys.set j ((255 - (ys[j]).toNat).toUInt8)))) := HST
            have HKS : Hid (KpOne w hx bs w7.heap.size ks vk8 (wr.setCell ⟨gx, j, none⟩ (.int .u8 zv))) := by
              obtain ⟨cur, hc⟩ := kown_type HOY.out (k := gx) rfl
              exact HKJ.out.set hc (HLT7.out gx rfl).2 (by have := HW5.out; omega)
            clear hset HST hyv hzv
            go_wp2
            go_roundw
            case rel => exact ⟨j + 1, by omega, by go_num, HKS.out, _, HS2.out⟩
            case measure => simp [intOf]; omega
          · go_wp2_with fail
            refine (kFloorX 0 5 [(0, bs)] hx vk8 0 wr ⟨⟨ks, HKJ.out.pr, HKJ.out.st⟩, Nat.zero_le _, fun _ _ => Nat.zero_le _, by simp⟩).mono ?_
            rintro e w9 ⟨hb9, hfl⟩
            rw [kfloor_one] at hfl
            obtain ⟨y, rfl, hoy⟩ := hfl
            obtain ⟨by9, cy9, hy9, -, -⟩ := kown_val hoy
            subst hy9
            have HB9 : Hid (Below w.heap.size w w9) := HKJ.out.b.trans (hb9.mono HKJ.out.b.size)
            have hc1 : (convert 36 9 (.slice by9 bs.length cy9)).run Try.prog w9 = .ok (.string ⟨bs.toArray⟩) w9 := conv_row w9 by9 bs cy9 (krowAt hoy).2
            have hc2 : (convert 36 9 (.slice vb nb vc)).run Try.prog w9 = .ok (.string ⟨bs.toArray⟩) w9 := by rw [HNB.out]; exact conv_row w9 vb bs vc (krow_bytes (n := bs.length) (c := vc) (bytesAt_below HV.out HB9.out (Nat.le_refl _)))
            clear hoy hb9
            rw [← HNB.out] at hc1 ⊢
            go_wp2_with fail
            refine (lives11_any w9).mono ?_
            rintro e w10 ⟨rfl, hb10⟩
            have HB10 : Hid (Below w.heap.size w w10) := HB9.out.trans (hb10.mono HB9.out.size)
            clear hb10
            go_wp2
            go_ret
            exact ⟨rfl, HB10.out⟩
end Go.Proofs.Ytenckpnkejnfgaa
