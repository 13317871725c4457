/- snap: the laws' examples; a state that has nothing; Bytes and Load as the laws ask them. -/
import Derived.Test.YtbdgniiafdjmiaaGreatDoorPBytes
import Derived.Test.YtbdgniiafdjmiaaGreatDoorPLoad
namespace Go.Proofs.YtbdgniiafdjmiaaGreatDoor
open Go.RowKit Go.Shelf

/-- The state that has nothing. -/
def sZ : Sn := ⟨0, 0, 0, [], [], [], 0⟩
/-- The second example. -/
def sE : Sn := ⟨0, 0, 0, [], [([80], [⟨2, 1, []⟩])], [97], 0⟩
theorem sZ_small : SmallS sZ := by constructor <;> simp [sZ, I64]
theorem sE_small : SmallS sE := by constructor <;> simp [sE, I64, smallOb, smallV]
theorem sZ_may : mayS sZ = true := by kernel_rfl
theorem sE_may : mayS sE = true := by kernel_rfl
theorem sZ_bytes : snB sZ = [0, 0, 0, 0, 0, 0, 0] := by kernel_rfl
theorem sE_bytes : snB sE = [0, 0, 0, 0, 2, 97, 0, 2, 2, 80, 2, 4, 2] := by kernel_rfl
theorem nilR {α : Type} (S : Nat → Prop) (w : World) (k : Nat) (E : World → Nat → Nat → α → Prop) : rowIn S w (.slice none 0 0) k E ([] : List α) := ⟨none, 0, rfl, Nat.le_refl _, Nat.zero_le _, .inl rfl⟩
theorem sZ_in (w : World) : SnIn (fun _ => False) w sZ (.slice none 0 0) (.slice none 0 0) := ⟨nilR _ _ _ _, nilR _ _ _ _⟩

/-- A state in memory, wherever it lies. -/
def SnAt (w : World) (s : Sn) (b1 : Option Addr) (n1 c1 : Nat) (b2 : Option Addr) (n2 c2 : Nat) : Prop := ∃ S, SnIn S w s (.slice b1 n1 c1) (.slice b2 n2 c2)
theorem SnAt.below {w w' : World} {s : Sn} {b1 : Option Addr} {n1 c1 : Nat} {b2 : Option Addr} {n2 c2 : Nat} (h : SnAt w s b1 n1 c1 b2 n2 c2) (hb : Below w.heap.size w w') : SnAt w' s b1 n1 c1 b2 n2 c2 := by
  obtain ⟨S, h⟩ := h
  exact ⟨S, h.below hb⟩

/-- Bytes of a state that may be told. -/
theorem bytes_yes {w : World} {s : Sn} {b1 : Option Addr} {n1 c1 : Nat} {b2 : Option Addr} {n2 c2 : Nat} (h : SnAt w s b1 n1 c1 b2 n2 c2) (hsm : SmallS s) (ht : TabsP w) (hm : mayS s = true) :
    Calls Tryz.prog 10 #[snV s (.slice b1 n1 c1) (.slice b2 n2 c2)] w fun e w' => (∃ b n c, e = .returned (.tuple #[.slice b n c, .int .i64 0]) ∧ bytesAt w' (.slice b n c) (snB s)) ∧ Below w.heap.size w w' := by
  obtain ⟨S, h⟩ := h
  refine (pBytes_any _ s b1 b2 n1 c1 n2 c2 w h.low (fun _ hq => hq) hsm ht).mono fun e w' ⟨hr, hb⟩ => ⟨?_, hb⟩
  rcases hr with ⟨h, -⟩ | ⟨-, v, he, ho⟩
  · rw [hm] at h; cases h
  · obtain ⟨n0, bb, cc, rfl⟩ := own_form1 ho
    exact ⟨bb, n0, cc, he, bytesAt_own ho⟩
theorem bytes_no {w : World} {s : Sn} {b1 : Option Addr} {n1 c1 : Nat} {b2 : Option Addr} {n2 c2 : Nat} (h : SnAt w s b1 n1 c1 b2 n2 c2) (hsm : SmallS s) (ht : TabsP w) (hm : mayS s = false) :
    Calls Tryz.prog 10 #[snV s (.slice b1 n1 c1) (.slice b2 n2 c2)] w fun e w' => e = .returned (.tuple #[.slice none 0 0, .int .i64 2]) ∧ Below w.heap.size w w' := by
  obtain ⟨S, h⟩ := h
  refine (pBytes_any _ s b1 b2 n1 c1 n2 c2 w h.low (fun _ hq => hq) hsm ht).mono fun e w' ⟨hr, hb⟩ => ⟨?_, hb⟩
  rcases hr with ⟨-, he⟩ | ⟨h, -⟩
  · exact he
  · rw [hm] at h; cases h
/-- Load of bytes that are no state's. -/
theorem load_no {w : World} {v : Value} {bs : List UInt8} (hv : bytesAt w v bs) (hb : bs.length ≤ 140737488355328) (ht : TabsP w) (h : ldS bs ≠ 0) :
    Calls Tryz.prog 14 #[v] w fun e w' => e = .returned (.tuple #[snV sZ (.slice none 0 0) (.slice none 0 0), .int .i64 (ldS bs : Int)]) ∧ Below w.heap.size w w' :=
  (pLoad_any v bs w hv hb ht).mono fun e w' ⟨hr, hb⟩ => ⟨by
    rcases hr with ⟨-, he⟩ | ⟨h0, -⟩ | ⟨h0, -⟩
    · exact he
    · exact absurd h0 h
    · exact absurd h0 h, hb⟩
/-- Load of a state's bytes. -/
theorem load_yes {w : World} {v : Value} {s : Sn} (hv : bytesAt w v (snB s)) (hsm : SmallS s) (hm : mayS s = true) (ht : TabsP w) :
    Calls Tryz.prog 14 #[v] w fun e w' => (∃ b1 n1 c1 b2 n2 c2, e = .returned (.tuple #[snV s (.slice b1 n1 c1) (.slice b2 n2 c2), .int .i64 0]) ∧ SnAt w' s b1 n1 c1 b2 n2 c2) ∧ Below w.heap.size w w' := by
  obtain ⟨e0, e1⟩ := ldS_put (may_ok hm hsm)
  refine (pLoad_any v (snB s) w hv (may_len hm hsm) ht).mono fun e w' ⟨hr, hb⟩ => ⟨?_, hb⟩
  rcases hr with ⟨h, -⟩ | ⟨-, h, -⟩ | ⟨-, -, b1, n1, c1, b2, n2, c2, he, hin⟩
  · exact absurd e0 h
  · rw [e1, hm] at h; cases h
  · rw [e1] at he hin
    exact ⟨b1, n1, c1, b2, n2, c2, he, _, hin⟩

/-- The second example lies in memory. -/
theorem sE_in {w : World} {p q : Nat} (hp : w.heap[p]? = some (.cells #[.int .i64 2, .int .i64 1, .string ⟨#[]⟩] 54 (0, 0))) (hq : w.heap[q]? = some (.cells #[.string ⟨#[80]⟩, .slice (some ⟨p, 0, none⟩) 1 1] 51 (0, 0))) :
    SnAt w sE none 0 0 (some ⟨q, 0, none⟩) 1 1 := by
  have ml : (1 : Nat) ≤ maxLen := by decide
  obtain ⟨a0, a1, a2⟩ := cells3p hp
  obtain ⟨d0, d1⟩ := bcells2 hq
  refine ⟨fun _ => True, nilR _ _ _ _, ⟨_, 1, rfl, Nat.le_refl _, ml, .inr ⟨q, 0, rfl, trivial, heap_lt hq, fun j hj => ?_⟩⟩⟩
  obtain rfl : j = 0 := by simp [sE] at hj; exact hj
  refine ⟨d0, _, d1, _, 1, rfl, Nat.le_refl _, ml, .inr ⟨p, 0, rfl, trivial, heap_lt hp, fun j hj => ?_⟩⟩
  obtain rfl : j = 0 := by simpa [sE] using hj
  exact ⟨a0, a1, a2⟩
end Go.Proofs.YtbdgniiafdjmiaaGreatDoor
