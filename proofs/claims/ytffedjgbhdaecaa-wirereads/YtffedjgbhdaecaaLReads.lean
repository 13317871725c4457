/- Of any bytes, whatever is asked for, a reader answers, stands and is well or not, as the document says: the walk of WireReads. -/
import Derived.Test.YtffedjgbhdaecaaWStepAny
import Derived.Test.YtffedjgbhdaecaaLPutsBase
import Derived.Test.YtffedjgbhdaecaaWAppend
import Derived.Test.YtffedjgbhdaecaaWQuiet
import Derived.Test.YtffedjgbhdaecaaWLives
import Derived.Deep.DeepCutAuto
import Derived.Deep.RegionHeld3
namespace Go.Proofs.Ytffedjgbhdaecaa
open Go.RowKit

/-- The slice of asks that begins at base reads in w as the pairs ls. -/
def asksAt (w : World) (base : Option Addr) (ls : List (Int × Int)) : Prop :=
  ls = [] ∨ ∃ b o, base = some ⟨b, o, none⟩ ∧ ∀ j (h : j < ls.length), w.cell? ⟨b, o + j * 2, none⟩ = some (.int .i64 (ls[j]).1) ∧ w.cell? ⟨b, o + j * 2 + 1, none⟩ = some (.int .i64 (ls[j]).2)

theorem gcell {X Y : World} {g : Nat} (hg : X.grownBy Y (some g)) : (∀ b o, b < X.heap.size → b ≠ g → Y.cell? ⟨b, o, none⟩ = X.cell? ⟨b, o, none⟩) ∧ (∀ b o, b < X.heap.size → b ≠ g → Y.frozen? ⟨b, o, none⟩ = X.frozen? ⟨b, o, none⟩) :=
  ⟨fun b o h hn => World.cell?_of_block (w := X) (a := ⟨b, o, none⟩) (hg.block b h (fun e => hn (Option.some.inj e))), fun b o h hn => World.frozen?_of_block (w := X) (a := ⟨b, o, none⟩) (hg.block b h (fun e => hn (Option.some.inj e)))⟩

theorem made_at (W : World) (n : Nat) (hn : n = W.heap.size) : (W.alloc (.cells #[] 5)).ownsRow n 5 1 (.slice (some ⟨n, 0, none⟩) 0 0) 0 [] := by rw [hn]; exact made_empty W

/-- A reader of the program's at p and the document's at M stand alike. -/
def BothAt (w : World) (bs : List UInt8) (at0 er p : Nat) (base1 : Option Addr) (cap1 M : Nat) (wx : World) : Prop :=
  ReaderAt wx p base1 cap1 bs at0 er ∧ M ≠ p ∧ (∀ a, base1 = some a → a.block ≠ M ∧ a.block < wx.heap.size) ∧ w.heap.size ≤ p ∧ w.heap.size ≤ M ∧
    wx.cell? ⟨M, 0, none⟩ = some (.string ⟨bs.toArray⟩) ∧ wx.cell? ⟨M, 1, none⟩ = some (.int .i64 at0) ∧ wx.cell? ⟨M, 2, none⟩ = some (.int .i64 er) ∧ (∀ j, wx.frozen? ⟨M, j, none⟩ = false) ∧ Below w.heap.size w wx

theorem far_row {w : World} {p : Nat} {base : Option Addr} {cap : Nat} {bs : List UInt8} {at0 er M : Nat} (h : ReaderAt w p base cap bs at0 er) (hab : ∀ a, base = some a → a.block ≠ M) : bs = [] ∨ ∃ b o, base = some ⟨b, o, none⟩ ∧ b ≠ M := by
  rcases h.row with h | ⟨b, o, h, -⟩
  · exact .inl h
  · exact .inr ⟨b, o, h, hab _ h⟩

theorem both_set {w w2 : World} {bs : List UInt8} {at0 er p : Nat} {base1 : Option Addr} {cap1 M : Nat} {u0 u1 u2 : Value} (hR : ReaderAt w2 p base1 cap1 bs at0 er) (hMp : M ≠ p) (hab : ∀ a, base1 = some a → a.block ≠ M ∧ a.block < w2.heap.size)
    (c0 : w2.cell? ⟨M, 0, none⟩ = some u0) (c1 : w2.cell? ⟨M, 1, none⟩ = some u1) (c2 : w2.cell? ⟨M, 2, none⟩ = some u2) (hf : ∀ j, w2.frozen? ⟨M, j, none⟩ = false) (hx : Below w.heap.size w w2) (hp : w.heap.size ≤ p) (hM : w.heap.size ≤ M) :
    BothAt w bs at0 er p base1 cap1 M (((w2.setCell ⟨M, 0, none⟩ (.string ⟨bs.toArray⟩)).setCell ⟨M, 1, none⟩ (.int .i64 at0)).setCell ⟨M, 2, none⟩ (.int .i64 er)) := by
  have ne : ∀ i j : Nat, i ≠ j → (⟨M, i, none⟩ : Addr) ≠ ⟨M, j, none⟩ := fun i j h e => by cases e; exact h rfl
  have hpM : p ≠ M := fun e => hMp e.symm
  have hab1 : ∀ a, base1 = some a → a.block ≠ M := fun a ha => (hab a ha).1
  refine ⟨((hR.far _ hpM (far_row hR hab1)).far _ hpM (far_row hR hab1)).far _ hpM (far_row hR hab1), hMp, fun a ha => ⟨(hab a ha).1, by simp only [World.size_setCell]; exact (hab a ha).2⟩, hp, hM, ?_, ?_, ?_, ?_, ?_⟩
  · rw [World.cell?_setCell_other (h := ne 2 0 (by decide)), World.cell?_setCell_other (h := ne 1 0 (by decide))]
    exact World.cell?_setCell_same _ _ _ c0
  · rw [World.cell?_setCell_other (h := ne 2 1 (by decide))]
    exact World.cell?_setCell_same (u := u1) _ _ _ (by rw [World.cell?_setCell_other (h := ne 0 1 (by decide))]; exact c1)
  · exact World.cell?_setCell_same (u := u2) _ _ _ (by rw [World.cell?_setCell_other (h := ne 1 2 (by decide)), World.cell?_setCell_other (h := ne 0 2 (by decide))]; exact c2)
  · intro j; rw [World.frozen?_setCell, World.frozen?_setCell, World.frozen?_setCell]; exact hf j
  · exact ((hx.setCell (p := ⟨M, 0, none⟩) hM _).setCell (p := ⟨M, 1, none⟩) hM _).setCell (p := ⟨M, 2, none⟩) hM _

theorem both_alloc {w w2 : World} {bs : List UInt8} {at0 er p : Nat} {base1 : Option Addr} {cap1 : Nat} (hR : ReaderAt w2 p base1 cap1 bs at0 er) (hp' : p < w2.heap.size) (hab : ∀ a, base1 = some a → a.block < w2.heap.size) (hx : Below w.heap.size w w2) (hp : w.heap.size ≤ p) :
    BothAt w bs at0 er p base1 cap1 w2.heap.size (w2.alloc (.cells #[.string ⟨bs.toArray⟩, .int .i64 at0, .int .i64 er] 27)) := by
  refine ⟨hR.below ((Below.refl w2.heap.size w2).alloc (Nat.le_refl _) _) (Nat.le_refl _), by omega, fun a ha => by have := hab a ha; rw [World.size_alloc]; omega, hp, by omega, by simp, by simp, by simp, fun j => by simp, hx.alloc hx.size _⟩

theorem box_set {w2 : World} {M X i : Nat} {u : Value} (h : w2.cell? ⟨M, i, none⟩ = some u) (hX : X ≠ M) (v0 v1 v2 : Value) : (((w2.setCell ⟨X, 0, none⟩ v0).setCell ⟨X, 1, none⟩ v1).setCell ⟨X, 2, none⟩ v2).cell? ⟨M, i, none⟩ = some u := by
  have ne : ∀ j, (⟨X, j, none⟩ : Addr) ≠ ⟨M, i, none⟩ := fun j e => by cases e; exact hX rfl
  rw [World.cell?_setCell_other (h := ne 2), World.cell?_setCell_other (h := ne 1), World.cell?_setCell_other (h := ne 0)]
  exact h

theorem box_alloc {w2 : World} {M i : Nat} {u : Value} (h : w2.cell? ⟨M, i, none⟩ = some u) (o : Obj) : (w2.alloc o).cell? ⟨M, i, none⟩ = some u := Lib.cell?_alloc_some o h

attribute [local go_sem] undef

set_option maxHeartbeats 8000000 in
set_option maxRecDepth 100000 in
theorem reads_walk (base : Option Addr) (cap : Nat) (bs : List UInt8) (baseL : Option Addr) (capL : Nat) (ls : List (Int × Int)) (w : World) (hv : bytesAt w (.slice base bs.length cap) bs) (hl : bs.length ≤ 140737488351232) (hr : asksAt w baseL ls) (hll : ls.length ≤ 140737488351232) :
    Calls Try.prog 3 #[.slice base bs.length cap, .slice baseL ls.length capL] w fun e w' => e = .returned (.bool true) ∧ Below w.heap.size w w' := by
  obtain ⟨-, hrow, -, -⟩ := bytesAt_row hv
  have HV : Hid (bytesAt w (.slice base bs.length cap) bs) := hv
  have HROW : Hid (rowAt w base bs) := hrow
  have HA : Hid (asksAt w baseL ls) := hr
  have hB0 : Below w.heap.size w w := Below.refl _ _
  have hBd : ∀ wx, Below w.heap.size w wx → Below w.heap.size w wx.drew := fun wx h => h.drew
  have hBa : ∀ wx o, Below w.heap.size w wx → Below w.heap.size w (wx.alloc o) := fun wx o h => h.alloc h.size o
  have hB00 : Below w.heap.size w w.drew := hBd _ hB0
  have hB01 : ∀ o, Below w.heap.size w (w.alloc o).drew := fun o => hBd _ (hBa _ o hB0)
  have hB02 : ∀ o o', Below w.heap.size w ((w.alloc o).alloc o').drew := fun o o' => hBd _ (hBa _ o' (hBa _ o hB0))
  have hcv : ∀ wx, Below w.heap.size w wx → (convert 22 9 (.slice base bs.length cap)).run Try.prog wx = .ok (.string ⟨bs.toArray⟩) wx := fun wx h => conv_row wx base bs cap (rowAt_below HROW.out h (Nat.le_refl _))
  clear hv hrow hr
  go_enter Try.func3, Try.ntmps3
  go_upto_region 1 with fail
  go_cut [5, 6] (fun r m wx => ∃ p base1 cap1 M, r = .pointer (some ⟨p, 0, none⟩) ∧ m = .pointer (some ⟨M, 0, none⟩) ∧ BothAt w bs 0 0 p base1 cap1 M wx)
  case first =>
    go_region_law (first
      | (refine step_append_bytes (.tmp 10) (.tmp 11) rfl (by rfl) w.heap.size _ [] rfl (by first | exact own_base (made_empty _) (Nat.le_refl _) | exact own_base ((made_empty _).alloc _) (Nat.le_refl _) | exact own_base (made_at _ _ (by simp)) (by omega)) _ bs rfl (bytesAt_below HV.out (by simp [hB01, hB02]) (Nat.le_refl _)) (by simp; omega) (by simp <;> omega) ?_
         intro v1 wa1 hown1 hg1
         rw [List.nil_append] at hown1
         have hB1 := bytesAt_own hown1
         have ha1 : Below w.heap.size w wa1 := Below.grown (by simp [hB01, hB02]) hg1 (by simp <;> omega) (fun k hk => by cases hk; first | exact Nat.le_refl _ | (simp <;> omega))
         obtain ⟨hc1, hf1⟩ := gcell hg1
         have hz1 := hg1.size
         simp only [World.size_alloc, World.size_drew] at hz1
         have hz1a : w.heap.size < wa1.heap.size := by omega
         try have hz1b : w.heap.size + 1 < wa1.heap.size := by omega
         clear hown1 hg1 hz1)
      | (go_simp
         go_at_call 8
         refine (newReader_any v1 bs _ (by first | exact hB1 | exact bytesAt_alloc hB1 _) (by omega)).mono ?_
         rintro e w2 ⟨p, base1, cap1, rfl, hR, hp, hp', hab, hb2⟩
         have hx2 : Below w.heap.size w w2 := Below.trans (b := _) (by simp [ha1, hBa]) (hb2.mono (by first | exact ha1.size | (have := ha1.size; simp; omega)))
         obtain ⟨hc2, hf2⟩ := bcell hb2
         have hz2 := hb2.size
         clear hb2))
    all_goals (go_wp2_with fail; go_meet)
    all_goals (clear hB00 hB01 hB02 hBd hBa hcv)
    all_goals (try simp only [World.size_alloc] at hp)
    all_goals (try simp only [World.size_alloc] at hab)
    all_goals first
      | exact ⟨p, base1, cap1, _, rfl, rfl, both_alloc hR hp' (fun a ha => (hab a ha).2) hx2 (by have := ha1.size; omega)⟩
      | (refine ⟨p, base1, cap1, _, rfl, rfl, both_set (u0 := .string ⟨#[]⟩) (u1 := .int .i64 0) (u2 := .int .i64 0) hR ?n1 ?n2 ?c0 ?c1 ?c2 ?cf hx2 ?n3 ?n4⟩
         case n1 => omega
         case n2 => intro a ha; have := hab a ha; omega
         case n3 => omega
         case n4 => omega
         case c0 => first | (simp [*]; done) | (rw [hc2 _ _ (by omega), hc1 _ _ (by simp <;> omega) (by omega)]; simp [World.cell?_alloc_old]; done)
         case c1 => first | (simp [*]; done) | (rw [hc2 _ _ (by omega), hc1 _ _ (by simp <;> omega) (by omega)]; simp [World.cell?_alloc_old]; done)
         case c2 => first | (simp [*]; done) | (rw [hc2 _ _ (by omega), hc1 _ _ (by simp <;> omega) (by omega)]; simp [World.cell?_alloc_old]; done)
         case cf => intro j; first | (simp [*]; done) | (rw [hf2 _ _ (by omega), hf1 _ _ (by simp <;> omega) (by omega)]; simp [World.frozen?_alloc_old]; done))
      | fail
  case rest =>
    obtain ⟨p, base1, cap1, M, rfl, rfl, hboth⟩ := hcut
    clear hB00 hB01 hB02 hBd hBa hcv HV HROW
    have HBO : Hid (BothAt w bs 0 0 p base1 cap1 M wc) := hboth
    clear hboth
    go_wp2
    go_loopw [7] (fun vi wr => ∃ k at0 er : Nat, k ≤ ls.length ∧ vi = .int .i64 k ∧ BothAt w bs at0 er p base1 cap1 M wr) (fun i _ => ls.length - (intOf i).toNat)
    case atStart => exact ⟨0, 0, 0, Nat.zero_le _, rfl, HBO.out⟩
    case round =>
      obtain ⟨k, at0, er, hk, rfl, hbo⟩ := hrel
      have HB : Hid (BothAt w bs at0 er p base1 cap1 M wr) := hbo
      obtain ⟨hR, hMp, hab, hwp, hwM, hm0, hm1, hm2, hmf, hbw⟩ := hbo
      have hszw := hbw.size
      have hMl : M < wr.heap.size := World.block_lt_of_cell? wr _ hm0
      have hpl : p < wr.heap.size := World.block_lt_of_cell? wr _ hR.made
      by_cases hlt : k < ls.length
      · obtain ⟨bL, oL, rfl, hasks⟩ : ∃ b o, baseL = some ⟨b, o, none⟩ ∧ ∀ j (h : j < ls.length), w.cell? ⟨b, o + j * 2, none⟩ = some (.int .i64 (ls[j]).1) ∧ w.cell? ⟨b, o + j * 2 + 1, none⟩ = some (.int .i64 (ls[j]).2) := by
          rcases HA.out with h | h
          · rw [h] at hlt; simp at hlt
          · exact h
        obtain ⟨ha1, ha2⟩ := hasks k hlt
        have hbL : bL < w.heap.size := World.block_lt_of_cell? w _ ha1
        have hbLr : bL < wr.heap.size := by omega
        rw [← hbw.cell (p := ⟨bL, oL + k * 2, none⟩) hbL] at ha1
        rw [← hbw.cell (p := ⟨bL, oL + k * 2 + 1, none⟩) hbL] at ha2
        obtain ⟨kd, hkd⟩ : ∃ x, x = (ls[k]).1 := ⟨_, rfl⟩
        obtain ⟨ms, hms⟩ : ∃ x, x = (ls[k]).2 := ⟨_, rfl⟩
        rw [← hkd] at ha1
        rw [← hms] at ha2
        have hRd : ReaderAt wr.drew p base1 cap1 bs at0 er := hR.below (B := wr.heap.size) ⟨rfl, rfl, rfl, Nat.le_refl _, fun _ _ => rfl⟩ (Nat.le_refl _)
        have hRa : ∀ o, ReaderAt (wr.alloc o).drew p base1 cap1 bs at0 er := fun o => hR.below (B := wr.heap.size) (((Below.refl _ wr).alloc (Nat.le_refl _) o).drew) (Nat.le_refl _)
        have HRd : Hid (ReaderAt wr.drew p base1 cap1 bs at0 er) := hRd
        have HRa : Hid (∀ o, ReaderAt (wr.alloc o).drew p base1 cap1 bs at0 er) := hRa
        have hbd : Below w.heap.size w wr.drew := hbw.drew
        have hba : ∀ o, Below w.heap.size w (wr.alloc o).drew := fun o => (hbw.alloc hszw o).drew
        have hsz64 : (⟨bs.toArray⟩ : ByteArray).size ≤ 9223372036854775000 := by show bs.length ≤ _; omega
        obtain ⟨at1, hat1⟩ : ∃ x, x = (askR kd ms bs at0 er).1 := ⟨_, rfl⟩
        obtain ⟨er1, her1⟩ : ∃ x, x = (askR kd ms bs at0 er).2 := ⟨_, rfl⟩
        have HST : Hid (∀ wx, ReaderAt wx p base1 cap1 bs at0 er → Calls Try.prog 9 #[.pointer (some ⟨p, 0, none⟩), .agg #[.string ⟨bs.toArray⟩, .int .i64 at0, .int .i64 er], .agg #[.int .i64 kd, .int .i64 ms]] wx fun e w' =>
            e = .returned (.tuple #[.agg #[.string ⟨bs.toArray⟩, .int .i64 at1, .int .i64 er1], .bool true]) ∧ ReaderAt w' p base1 cap1 bs at1 er1 ∧ wx.grownBy w' (some p)) := fun wx h => by
          rw [hat1, her1]; exact step_any ⟨bs.toArray⟩ kd ms h hsz64
        have hR9 := hR
        have hpn : wr.heap.size ≠ p := by omega
        clear hR hRd hRa hkd hms hat1 her1 hasks HA HBO hbw
        go_upto_region 7 with fail
        go_cut [8, 9] (fun x ok wx => ∃ X, x = .pointer (some ⟨X, 0, none⟩) ∧ ok = .bool true ∧ BothAt w bs at1 er1 p base1 cap1 X wx ∧ X ≠ M ∧ wx.cell? ⟨M, 0, none⟩ = some (.string ⟨bs.toArray⟩) ∧ wx.cell? ⟨M, 1, none⟩ = some (.int .i64 at0) ∧ wx.cell? ⟨M, 2, none⟩ = some (.int .i64 er) ∧ ∀ j, wx.frozen? ⟨M, j, none⟩ = false)
        case first =>
          go_region_law (first
            | (go_simp
               go_at_call 9
               refine (HST.out _ (by first | exact HRd.out | exact HRa.out _)).mono ?_
               rintro e w2 ⟨rfl, hR2, hg2⟩
               obtain ⟨hc2, hf2⟩ := gcell hg2
               have hx2 : Below w.heap.size w w2 := Below.grown (by first | exact hbd | exact hba _) hg2 (by simp <;> omega) (fun q hq => by cases hq; exact hwp)
               have hz2 := hg2.size
               simp only [World.size_alloc, World.size_drew] at hz2
               have hz2a : M < w2.heap.size := by omega
               have q0 : w2.cell? ⟨M, 0, none⟩ = some (.string ⟨bs.toArray⟩) := by rw [hc2 M 0 (by simp <;> omega) hMp]; first | exact hm0 | exact box_alloc hm0 _
               have q1 : w2.cell? ⟨M, 1, none⟩ = some (.int .i64 at0) := by rw [hc2 M 1 (by simp <;> omega) hMp]; first | exact hm1 | exact box_alloc hm1 _
               have q2 : w2.cell? ⟨M, 2, none⟩ = some (.int .i64 er) := by rw [hc2 M 2 (by simp <;> omega) hMp]; first | exact hm2 | exact box_alloc hm2 _
               have qf : ∀ j, w2.frozen? ⟨M, j, none⟩ = false := fun j => by rw [hf2 M j (by simp <;> omega) hMp]; first | exact hmf j | (rw [World.frozen?_drew, World.frozen?_alloc_old (h := by show M ≠ _; omega)]; exact hmf j)
               clear hg2))
          all_goals (go_wp2_with fail; go_meet)
          all_goals first
            | (refine ⟨_, rfl, rfl, both_alloc hR2 (by omega) (fun a ha => by have := (hab a ha).2; omega) hx2 hwp, by omega, box_alloc q0 _, box_alloc q1 _, box_alloc q2 _, fun j => ?_⟩
               rw [World.frozen?_alloc_old (h := by show M ≠ _; omega)]; exact qf j)
            | (refine ⟨_, rfl, rfl, both_set (u0 := .string ⟨#[]⟩) (u1 := .int .i64 0) (u2 := .int .i64 0) hR2 (by omega) (fun a ha => by have := hab a ha; omega) ?c0 ?c1 ?c2 ?cf hx2 hwp (by omega), by omega, box_set q0 (by omega) _ _ _, box_set q1 (by omega) _ _ _, box_set q2 (by omega) _ _ _, fun j => ?_⟩
               case c0 => rw [hc2 _ _ (by simp) (by omega)]; simp
               case c1 => rw [hc2 _ _ (by simp) (by omega)]; simp
               case c2 => rw [hc2 _ _ (by simp) (by omega)]; simp
               case cf => intro j; rw [hf2 _ _ (by simp) (by omega)]; simp
               rw [World.frozen?_setCell, World.frozen?_setCell, World.frozen?_setCell]; exact qf j)
            | fail
        case rest =>
          obtain ⟨X, rfl, rfl, hbx, hXM, k0, k1, k2, kf⟩ := hcut
          obtain ⟨xR, xp, xab, -, hwX, x0, x1, x2, xf, xb⟩ := hbx
          have HAt : Hid (∀ wx, Below wc.heap.size wc wx → Calls Try.prog 10 #[.pointer (some ⟨p, 0, none⟩)] wx fun e w'' => e = .returned (.int .i64 at1) ∧ Below wc.heap.size wc w'') := fun wx h => (at_any (xR.below h (Nat.le_refl _))).mono (fun e w' ⟨he, hw⟩ => ⟨he, hw ▸ h⟩)
          have HEr : Hid (∀ wx, Below wc.heap.size wc wx → Calls Try.prog 11 #[.pointer (some ⟨p, 0, none⟩)] wx fun e w'' => e = .returned (.int .i64 er1) ∧ Below wc.heap.size wc w'') := fun wx h => (err_any (xR.below h (Nat.le_refl _))).mono (fun e w' ⟨he, hw⟩ => ⟨he, hw ▸ h⟩)
          obtain ⟨ev, hev⟩ : ∃ ev, ev = endR bs.length at1 er1 := ⟨_, rfl⟩
          have HEn : Hid (∀ wx, Below wc.heap.size wc wx → Calls Try.prog 12 #[.pointer (some ⟨p, 0, none⟩)] wx fun e w'' => e = .returned (.int .i64 ev) ∧ Below wc.heap.size wc w'') := fun wx h => by
            rw [hev]; exact (end_any (xR.below h (Nat.le_refl _))).mono (fun e w' ⟨he, n, hw⟩ => ⟨he, hw ▸ h.trans ⟨rfl, rfl, rfl, Nat.le_refl _, fun _ _ => rfl⟩⟩)
          have HRe : Hid (∀ wx, Below wc.heap.size wc wx → Calls Try.prog 13 #[.agg #[.string ⟨bs.toArray⟩, .int .i64 at1, .int .i64 er1]] wx fun e w'' => e = .returned (.int .i64 ev) ∧ Below wc.heap.size wc w'') := fun wx h => by
            rw [hev]; exact (refREnd_any ⟨bs.toArray⟩ at1 er1 wx).mono (fun e w' ⟨he, hb⟩ => ⟨he, h.trans (hb.mono h.size)⟩)
          have lX : X < wc.heap.size := World.block_lt_of_cell? wc _ x0
          have lM : M < wc.heap.size := World.block_lt_of_cell? wc _ k0
          have cx0 := cls_cell (n := wc.heap.size) x0 lX
          have cx1 := cls_cell (n := wc.heap.size) x1 lX
          have cx2 := cls_cell (n := wc.heap.size) x2 lX
          have HK : Hid (ReaderAt wc p base1 cap1 bs at1 er1 ∧ (∀ a, base1 = some a → a.block ≠ M ∧ a.block < wc.heap.size) ∧ Below w.heap.size w wc ∧ wc.cell? ⟨M, 0, none⟩ = some (.string ⟨bs.toArray⟩) ∧ wc.cell? ⟨M, 1, none⟩ = some (.int .i64 at0) ∧ wc.cell? ⟨M, 2, none⟩ = some (.int .i64 er) ∧ ∀ j, wc.frozen? ⟨M, j, none⟩ = false) :=
            ⟨xR, fun a ha => ⟨(hab a ha).1, (xab a ha).2⟩, xb, k0, k1, k2, kf⟩
          have HX : Hid (wc.cell? ⟨X, 0, none⟩ = some (.string ⟨bs.toArray⟩) ∧ wc.cell? ⟨X, 1, none⟩ = some (.int .i64 at1) ∧ wc.cell? ⟨X, 2, none⟩ = some (.int .i64 er1)) := ⟨x0, x1, x2⟩
          clear hev xR xab x0 x1 x2 xf xb k0 k1 k2 kf hab hR9 hm0 hm1 hm2 hmf hbd hba HRd HRa HST ha1 ha2
          go_wp2_with fail
          refine wp_region_cls (n := wc.heap.size) (w0 := wc) (Below.refl _ _) (by kernel_rfl) (by kernel_rfl) ?_
          repeat (go_big_quiet_step (first | exact cls_calls HAt.out _ | exact cls_calls HEr.out _ | exact cls_calls HEn.out _ | exact cls_calls HRe.out _))
          refine wpQuiet_nil ?_
          rintro _ ⟨c, rfl⟩
          clear cx0 cx1 cx2
          obtain ⟨yR, yab, yb, y0, y1, y2, yf⟩ := HK.out
          obtain ⟨x0, x1, x2⟩ := HX.out
          have zR := yR.below c.2 (Nat.le_refl _)
          have zab : ∀ a, base1 = some a → a.block ≠ M ∧ a.block < c.1.heap.size := fun a ha => ⟨(yab a ha).1, Nat.lt_of_lt_of_le (yab a ha).2 c.2.size⟩
          have zb : Below w.heap.size w c.1 := yb.trans (c.2.mono yb.size)
          have z0 := cls_cell (n := wc.heap.size) y0 lM c
          have z1 := cls_cell (n := wc.heap.size) y1 lM c
          have z2 := cls_cell (n := wc.heap.size) y2 lM c
          have zx0 := cls_cell (n := wc.heap.size) x0 lX c
          have zx1 := cls_cell (n := wc.heap.size) x1 lX c
          have zx2 := cls_cell (n := wc.heap.size) x2 lX c
          have zf : ∀ j, c.1.frozen? ⟨M, j, none⟩ = false := fun j => by rw [c.2.frozen (p := ⟨M, j, none⟩) lM]; exact yf j
          have HZ : Hid (ReaderAt c.1 p base1 cap1 bs at1 er1 ∧ (∀ a, base1 = some a → a.block ≠ M ∧ a.block < c.1.heap.size) ∧ Below w.heap.size w c.1) := ⟨zR, zab, zb⟩
          have HZ2 : Hid (c.1.cell? ⟨M, 0, none⟩ = some (.string ⟨bs.toArray⟩) ∧ c.1.cell? ⟨M, 1, none⟩ = some (.int .i64 at0) ∧ c.1.cell? ⟨M, 2, none⟩ = some (.int .i64 er) ∧ ∀ j, c.1.frozen? ⟨M, j, none⟩ = false) := ⟨z0, z1, z2, zf⟩
          generalize c.1 = wd at *
          clear yR yab yb y0 y1 y2 yf x0 x1 x2 zR zab zb HK HX HAt HEr HEn HRe
          go_wp2
          obtain ⟨zR, zab, zb⟩ := HZ.out
          obtain ⟨z0, z1, z2, zf⟩ := HZ2.out
          refine ⟨⟨k + 1, at1, er1, by omega, by go_num, both_set zR hMp zab z0 z1 z2 zf zb hwp hwM⟩, by simp [intOf]; omega⟩
      · obtain ⟨ev, hev⟩ : ∃ ev, ev = endR bs.length at0 er := ⟨_, rfl⟩
        have HEn : Hid (∀ wx, Below wr.heap.size wr wx → Calls Try.prog 12 #[.pointer (some ⟨p, 0, none⟩)] wx fun e w'' => e = .returned (.int .i64 ev) ∧ Below wr.heap.size wr w'') := fun wx h => by
          rw [hev]; exact (end_any (hR.below h (Nat.le_refl _))).mono (fun e w' ⟨he, n, hw⟩ => ⟨he, hw ▸ h.trans ⟨rfl, rfl, rfl, Nat.le_refl _, fun _ _ => rfl⟩⟩)
        have HRe : Hid (∀ wx, Below wr.heap.size wr wx → Calls Try.prog 13 #[.agg #[.string ⟨bs.toArray⟩, .int .i64 at0, .int .i64 er]] wx fun e w'' => e = .returned (.int .i64 ev) ∧ Below wr.heap.size wr w'') := fun wx h => by
          rw [hev]; exact (refREnd_any ⟨bs.toArray⟩ at0 er wx).mono (fun e w' ⟨he, hb⟩ => ⟨he, h.trans (hb.mono h.size)⟩)
        have HLi : Hid (∀ wx, Below wr.heap.size wr wx → Calls Try.prog 14 #[] wx fun e w'' => e = .returned (.bool true) ∧ Below wr.heap.size wr w'') := fun wx h =>
          (lives_any wx).mono (fun e w' ⟨he, hb⟩ => ⟨he, h.trans (hb.mono h.size)⟩)
        have cx0 := cls_cell (n := wr.heap.size) hm0 hMl
        have cx1 := cls_cell (n := wr.heap.size) hm1 hMl
        have cx2 := cls_cell (n := wr.heap.size) hm2 hMl
        have HBW : Hid (Below w.heap.size w wr) := hbw
        clear hev hR hab hm0 hm1 hm2 hmf hbw HA HBO HB
        go_wp2_with fail
        refine wp_region_cls (n := wr.heap.size) (w0 := wr) (Below.refl _ _) (by kernel_rfl) (by kernel_rfl) ?_
        repeat (go_big_quiet_step (first | exact cls_calls HEn.out _ | exact cls_calls HRe.out _ | exact cls_calls HLi.out _))
        refine wpQuiet_nil ?_
        rintro _ ⟨c, rfl⟩
        have HB2 : Hid (Below w.heap.size w c.1) := HBW.out.trans (c.2.mono hszw)
        clear cx0 cx1 cx2
        go_wp2
        go_ret
        exact ⟨rfl, HB2.out⟩
end Go.Proofs.Ytffedjgbhdaecaa
