/- code: what the program answers of the laws' example. -/
import Derived.Test.YtechkkphbajmoaaGreatDoorCExMath
import Derived.Test.YtechkkphbajmoaaGreatDoorCList2
import Derived.Test.YtechkkphbajmoaaGreatDoorCRefSame
import Derived.Test.YtechkkphbajmoaaGreatDoorCRefS
namespace Go.Proofs.YtechkkphbajmoaaGreatDoor
open Go.RowKit Go.Shelf

/-- The example's three values. -/
abbrev exV (N : Nat) (m : Int) : Value := cdV (.slice none 0 0) (.slice none 0 0) (.slice (some ⟨N, 0, none⟩) 1 1) m
/-- The example lies in memory, its unit in the block N. -/
def ExIn (w : World) (c : Cd) (N : Nat) : Prop := ∃ S : Nat → Prop, CodeIn S w c (.slice none 0 0) (.slice none 0 0) (.slice (some ⟨N, 0, none⟩) 1 1) ∧ ∀ q, S q → q < w.heap.size
theorem ExIn.below {w w' : World} {c : Cd} {N : Nat} (h : ExIn w c N) (hb : Below w.heap.size w w') : ExIn w' c N := by
  obtain ⟨S, h1, h2⟩ := h
  exact ⟨S, h1.below hb, fun q hq => Nat.lt_of_lt_of_le (h2 q hq) hb.size⟩

theorem exam_in (w : World) : Calls Tryz.prog 21 #[] w fun e w' => e = .returned (exV (w.heap.size + 2) 0) ∧ ExIn w' cE (w.heap.size + 2) ∧ Below w.heap.size w w' :=
  (exam_any w).mono fun _ _ ⟨h, hb⟩ => ⟨h.1, ⟨_, cE_in h, fun _ hq => hq.2⟩, hb⟩

theorem exHeights {N : Nat} {w : World} (hin : ExIn w cE N) (ht : TabsP w) (hot : OpT w) :
    Calls Tryz.prog 8 #[exV N 0, .int .i64 0] w fun e w' => (∃ b cap, e = .returned (.tuple #[.slice b 4 cap, .int .i64 0]) ∧ rowIn (fun q => w.heap.size ≤ q) w' (.slice b 4 cap) 1 intE [0, 0, 1, 0]) ∧ Below w.heap.size w w' := by
  obtain ⟨S, hin, -⟩ := hin
  have c : Calls Tryz.prog 8 #[exV N 0, .int .i64 0] w _ := cHeights_any S cE 0 none none (some ⟨N, 0, none⟩) 0 0 0 0 1 1 w hin cE_small ht hot
  refine c.mono fun e w' ⟨h, hb⟩ => ⟨?_, hb⟩
  rcases h with ⟨h, -⟩ | ⟨-, h, -⟩ | ⟨-, i, hi, v, h0, he, hr⟩
  · rw [cE_right] at h; cases h
  · exact absurd ⟨by omega, by show (0 : Int) < 1; omega⟩ h
  · obtain rfl : i = 0 := by omega
    have hr2 : rowIn (fun q => w.heap.size ≤ q) w' v 1 intE [0, 0, 1, 0] := by rw [← cE_hts]; exact hr
    obtain ⟨b, cap, rfl, -⟩ := hr2.at
    exact ⟨b, cap, he, hr2⟩

theorem own_strs {w : World} {B e : Nat} {v : Value} {l : List (List UInt8)} (h : w.ownsRow B e 1 v l.length (strC l)) (hl : 1 ≤ l.length) : rowIn (fun q => B ≤ q) w v 1 strE l ∧ ∃ b cap, v = .slice b l.length cap := by
  obtain ⟨g, cap, rfl, hg, hgl, hc, hx⟩ := row_cells h hl
  have hcm : cap ≤ maxLen := by
    obtain ⟨-, ⟨-, h0⟩ | ⟨g1, cap1, cur, hv, -, -, -, hm, -⟩⟩ := h
    · omega
    · cases hv; exact hm
  refine ⟨⟨_, cap, rfl, hc, hcm, .inr ⟨g, 0, rfl, hg, hgl, fun j hj => ?_⟩⟩, _, _, rfl⟩
  have := hx j (.string (strB l[j])) (by simp [strC, hj])
  simpa [strE] using this

theorem exList {N : Nat} {w : World} (hin : ExIn w cE N) (ht : TabsP w) (hot : OpT w) :
    Calls Tryz.prog 15 #[exV N 0] w fun e w' => (∃ b cap, e = .returned (.tuple #[.slice b 5 cap, .int .i64 0]) ∧ rowIn (fun q => w.heap.size ≤ q) w' (.slice b 5 cap) 1 strE (listT cE)) ∧ Below w.heap.size w w' := by
  obtain ⟨S, hin, -⟩ := hin
  have c : Calls Tryz.prog 15 #[exV N 0] w _ := cList_any S cE none none (some ⟨N, 0, none⟩) 0 0 0 0 1 1 w hin cE_small cE_ints ht hot
  refine c.mono fun e w' ⟨h, hb⟩ => ⟨?_, hb⟩
  rcases h with ⟨h, -⟩ | ⟨-, v, he, hr⟩
  · rw [cE_right] at h; cases h
  · have h5 : (listT cE).length = 5 := by rw [cE_list]; rfl
    obtain ⟨h1, b, cap, h2⟩ := own_strs hr (by omega)
    rw [h5] at h2
    subst h2
    exact ⟨b, cap, he, h1⟩

theorem exBytes {N : Nat} {w : World} (hin : ExIn w cE N) (ht : TabsP w) (hot : OpT w) :
    Calls Tryz.prog 13 #[exV N 0] w fun e w' => (∃ b n cap, e = .returned (.tuple #[.slice b n cap, .int .i64 0]) ∧ bytesAt w' (.slice b n cap) (cdB cE)) ∧ Below w.heap.size w w' := by
  obtain ⟨S, hin, hS⟩ := hin
  have c : Calls Tryz.prog 13 #[exV N 0] w _ := cBytes_any S cE none none (some ⟨N, 0, none⟩) 0 0 0 0 1 1 w hin hS cE_small cE_ints cE_bytes ht hot
  refine c.mono fun e w' ⟨h, hb⟩ => ⟨?_, hb⟩
  rcases h with ⟨h, -⟩ | ⟨-, v, he, hr⟩
  · rw [cE_right] at h; cases h
  · obtain ⟨n0, b, cap, rfl⟩ := own_form1 hr
    exact ⟨b, n0, cap, he, bytesAt_own hr⟩

/-- A code lies in memory. -/
def CdIn (w : World) (c : Cd) (xs : Option Addr) (ns cs : Nat) (xh : Option Addr) (nh ch : Nat) (xu : Option Addr) (nu cu : Nat) : Prop := ∃ S : Nat → Prop, CodeIn S w c (.slice xs ns cs) (.slice xh nh ch) (.slice xu nu cu)
theorem CdIn.below {w w' : World} {c : Cd} {xs : Option Addr} {ns cs : Nat} {xh : Option Addr} {nh ch : Nat} {xu : Option Addr} {nu cu : Nat} (h : CdIn w c xs ns cs xh nh ch xu nu cu) (hb : Below w.heap.size w w') : CdIn w' c xs ns cs xh nh ch xu nu cu := by
  obtain ⟨S, h1⟩ := h
  exact ⟨S, h1.below hb⟩

theorem exLoad {v : Value} {w : World} (hv : bytesAt w v (cdB cE)) (ht : TabsP w) (hot : OpT w) :
    Calls Tryz.prog 18 #[v] w fun e w' => (∃ xs ns cs xh nh ch xu nu cu, e = .returned (.tuple #[cdV (.slice xs ns cs) (.slice xh nh ch) (.slice xu nu cu) 0, .int .i64 0]) ∧ CdIn w' cE xs ns cs xh nh ch xu nu cu) ∧ Below w.heap.size w w' := by
  refine (cLoad_any v (cdB cE) w hv cE_bytes ht hot).mono fun e w' ⟨h, hb⟩ => ⟨?_, hb⟩
  have e1 : (rCode (cdB cE)).1 = cE := by rw [cE_load]
  rcases h with ⟨h, -⟩ | ⟨-, h, -⟩ | ⟨-, -, xs, ns, cs, xh, nh, ch, xu, nu, cu, he, hr⟩
  · exact absurd cE_ldE h
  · rw [e1, cE_right] at h; cases h
  · rw [e1] at he hr
    exact ⟨xs, ns, cs, xh, nh, ch, xu, nu, cu, he, _, hr⟩

theorem exCheck {N : Nat} {w : World} (hin : ExIn w cE N) (ht : TabsP w) (hot : OpT w) :
    Calls Tryz.prog 10 #[exV N 0] w fun e w' => e = .returned (.int .i64 0) ∧ Below w.heap.size w w' := by
  obtain ⟨S, hin, -⟩ := hin
  have c : Calls Tryz.prog 10 #[exV N 0] w _ := cCheck_any S cE none none (some ⟨N, 0, none⟩) 0 0 0 0 1 1 w hin cE_small ht hot
  rw [cE_right] at c
  exact c
theorem badCheck {N : Nat} {w : World} (hin : ExIn w cB N) (ht : TabsP w) (hot : OpT w) :
    Calls Tryz.prog 10 #[exV N 0] w fun e w' => e = .returned (.int .i64 2) ∧ Below w.heap.size w w' := by
  obtain ⟨S, hin, -⟩ := hin
  have c : Calls Tryz.prog 10 #[exV N 0] w _ := cCheck_any S cB none none (some ⟨N, 0, none⟩) 0 0 0 0 1 1 w hin cB_small ht hot
  rw [cB_right] at c
  exact c
theorem exSame {N : Nat} {w : World} {xs : Option Addr} {ns cs : Nat} {xh : Option Addr} {nh ch : Nat} {xu : Option Addr} {nu cu : Nat} (hin : CdIn w cE xs ns cs xh nh ch xu nu cu) (hin2 : ExIn w cE N) :
    Calls Tryz.prog 20 #[cdV (.slice xs ns cs) (.slice xh nh ch) (.slice xu nu cu) 0, exV N 0] w fun e w' => e = .returned (.bool true) ∧ Below w.heap.size w w' := by
  obtain ⟨S, hin⟩ := hin
  obtain ⟨T, hin2, -⟩ := hin2
  have c : Calls Tryz.prog 20 #[cdV (.slice xs ns cs) (.slice xh nh ch) (.slice xu nu cu) 0, exV N 0] w _ := rfSame S T cE cE xs xh xu ns cs nh ch nu cu none none (some ⟨N, 0, none⟩) 0 0 0 0 1 1 w hin cE_small cE_ints cE_bytes hin2 cE_small cE_ints cE_bytes
  rw [decide_eq_true (p := cdB cE = cdB cE) rfl] at c
  exact c
/-- The example with another instruction in it. -/
theorem cB_in {N : Nat} {w' : World} (h1 : w'.heap[N + 1]? = some (.cells #[.int .i64 0, .int .i64 1, .int .i64 1, .int .i64 2, .int .i64 6, .int .i64 1, .int .i64 23, .int .i64 0] 62 (0, 0)))
    (h2 : w'.heap[N + 2]? = some (.cells #[.string (strB [109, 97, 105, 110]), .int .i64 0, .int .i64 0, .int .i64 1, .bool false, .slice (some ⟨N + 1, 0, none⟩) 4 4, .slice none 0 0] 58 (0, 0))) : ExIn w' cB (N + 2) := by
  have l1 := heap_lt h1
  have l2 := heap_lt h2
  have ml : (4 : Nat) ≤ maxLen := by decide
  refine ⟨fun q => N ≤ q ∧ q < w'.heap.size, ⟨⟨none, 0, rfl, by simp [cB], by omega, .inl rfl⟩, ⟨none, 0, rfl, by simp [cB], by omega, .inl rfl⟩, ⟨_, 1, rfl, by simp [cB], by omega, .inr ⟨N + 2, 0, rfl, ⟨by omega, l2⟩, l2, fun j hj => ?_⟩⟩⟩, fun q hq => hq.2⟩
  obtain rfl : j = 0 := by simp [cB] at hj; exact hj
  refine ⟨by simp only [World.cell?, h2]; rfl, by simp only [World.cell?, h2]; rfl, by simp only [World.cell?, h2]; rfl, by simp only [World.cell?, h2]; rfl, by simp only [World.cell?, h2]; rfl, ⟨.slice (some ⟨N + 1, 0, none⟩) 4 4, by simp only [World.cell?, h2]; rfl, ?_⟩, ⟨.slice none 0 0, by simp only [World.cell?, h2]; rfl, ⟨none, 0, rfl, by simp [cB, cBu], by omega, .inl rfl⟩⟩⟩
  refine ⟨_, 4, rfl, by simp [cB, cBu], by omega, .inr ⟨N + 1, 0, rfl, ⟨by omega, l1⟩, l1, fun j hj => ?_⟩⟩
  have hj4 : j < 4 := hj
  match j, hj4 with
  | 0, _ => exact ⟨by simp only [World.cell?, h1]; rfl, by simp only [World.cell?, h1]; rfl⟩
  | 1, _ => exact ⟨by simp only [World.cell?, h1]; rfl, by simp only [World.cell?, h1]; rfl⟩
  | 2, _ => exact ⟨by simp only [World.cell?, h1]; rfl, by simp only [World.cell?, h1]; rfl⟩
  | 3, _ => exact ⟨by simp only [World.cell?, h1]; rfl, by simp only [World.cell?, h1]; rfl⟩
/-- The rows of the laws' own. -/
theorem nums_new (w : World) : rowIn (fun q => q = w.heap.size) (w.alloc (.cells #[.int .i64 0, .int .i64 0, .int .i64 1, .int .i64 0] 3)) (.slice (some ⟨w.heap.size, 0, none⟩) 4 4) 1 intE [0, 0, 1, 0] := by
  have h := World.alloc_heap_new w (.cells #[.int .i64 0, .int .i64 0, .int .i64 1, .int .i64 0] 3)
  refine ⟨_, 4, rfl, by simp, by decide, .inr ⟨w.heap.size, 0, rfl, rfl, heap_lt h, fun j hj => ?_⟩⟩
  have hj4 : j < 4 := hj
  match j, hj4 with
  | 0, _ => simp only [intE, World.cell?, h]; rfl
  | 1, _ => simp only [intE, World.cell?, h]; rfl
  | 2, _ => simp only [intE, World.cell?, h]; rfl
  | 3, _ => simp only [intE, World.cell?, h]; rfl
theorem texts_new (w : World) : rowIn (fun q => q = w.heap.size) (w.alloc (.cells #[.string { data := #[102, 110, 32, 109, 97, 105, 110] }, .string { data := #[48, 32, 109, 97, 114, 107, 32, 49] }, .string { data := #[49, 32, 105, 110, 116, 32, 50] }, .string { data := #[50, 32, 112, 114, 105, 110, 116, 32, 49] }, .string { data := #[51, 32, 114, 101, 116, 117, 114, 110, 32, 48] }] 9)) (.slice (some ⟨w.heap.size, 0, none⟩) 5 5) 1 strE (listT cE) := by
  have h := World.alloc_heap_new w (.cells #[.string { data := #[102, 110, 32, 109, 97, 105, 110] }, .string { data := #[48, 32, 109, 97, 114, 107, 32, 49] }, .string { data := #[49, 32, 105, 110, 116, 32, 50] }, .string { data := #[50, 32, 112, 114, 105, 110, 116, 32, 49] }, .string { data := #[51, 32, 114, 101, 116, 117, 114, 110, 32, 48] }] 9)
  rw [cE_list]
  refine ⟨_, 5, rfl, by simp, by decide, .inr ⟨w.heap.size, 0, rfl, rfl, heap_lt h, fun j hj => ?_⟩⟩
  have hj4 : j < 5 := hj
  match j, hj4 with
  | 0, _ => simp only [strE, World.cell?, h]; rfl
  | 1, _ => simp only [strE, World.cell?, h]; rfl
  | 2, _ => simp only [strE, World.cell?, h]; rfl
  | 3, _ => simp only [strE, World.cell?, h]; rfl
  | 4, _ => simp only [strE, World.cell?, h]; rfl
end Go.Proofs.YtechkkphbajmoaaGreatDoor
