/- lex: what Scan answers for the document's examples. -/
import Derived.Test.YtchpmnmngeebjaaGreatDoorXScanMath
namespace Go.Proofs.YtchpmnmngeebjaaGreatDoor
open Go.RowKit

/-- gapN, by its length. -/
def gapF : Nat → List UInt8 → Nat
  | 0, _ => 0
  | f + 1, l => if remB (l.drop (rowN blankN l)) = true then
      rowN blankN l + (rowN noEndN (l.drop (rowN blankN l)) + gapF f ((l.drop (rowN blankN l)).drop (rowN noEndN (l.drop (rowN blankN l)))))
    else rowN blankN l

theorem gapF_eq : ∀ (f : Nat) (l : List UInt8), l.length < f → gapN l = gapF f l
  | 0, l, h => by omega
  | f + 1, l, h => by
    rw [gapN, gapF]
    by_cases hr : remB (l.drop (rowN blankN l)) = true
    · rw [dif_pos hr, if_pos hr, gapF_eq f _ (by
        have := remB_row hr
        have h3 := rowN_le noEndN (l.drop (rowN blankN l))
        simp only [List.length_drop] at *
        omega)]
    · rw [dif_neg hr, if_neg hr]

theorem gapN_fun : gapN = fun l => gapF (l.length + 1) l := funext fun l => gapF_eq _ l (Nat.lt_succ_self _)

def nextG (g : List UInt8 → Nat) (l : List UInt8) (a : Nat) : TR := tokT (l.drop (a + g (l.drop a)))
def lineG (g : List UInt8 → Nat) (l : List UInt8) (line a : Nat) : Nat := line + Lib.countByte ((l.drop a).take (g (l.drop a))) 10
def placeG (g : List UInt8 → Nat) (l : List UInt8) (a : Nat) : Nat := a + g (l.drop a)
def tkG (g : List UInt8 → Nat) (l : List UInt8) (line a : Nat) : Tk := ⟨(nextG g l a).k, (nextG g l a).s, (nextG g l a).n, lineG g l line a, placeG g l a⟩
def scanG (g : List UInt8 → Nat) (l : List UInt8) : Nat → Nat → Nat → List Tk × Nat × Nat
  | 0, _, _ => ([], 0, 0)
  | f + 1, line, a =>
    if (nextG g l a).e ≠ 0 then ([], placeG g l a, (nextG g l a).e) else if (nextG g l a).k = 0 then ([tkG g l line a], 0, 0)
    else if (scanG g l f (lineG g l line a) (placeG g l a + (nextG g l a).sz)).2.2 ≠ 0 then ([], (scanG g l f (lineG g l line a) (placeG g l a + (nextG g l a).sz)).2.1, (scanG g l f (lineG g l line a) (placeG g l a + (nextG g l a).sz)).2.2)
    else (tkG g l line a :: (scanG g l f (lineG g l line a) (placeG g l a + (nextG g l a).sz)).1, 0, 0)

theorem scanS_G (l : List UInt8) : ∀ (f line a : Nat), scanS l f line a = scanG gapN l f line a
  | 0, _, _ => rfl
  | f + 1, line, a => by
    unfold scanS scanG
    rw [scanS_G l f]
    rfl

def scanC (l : List UInt8) : List Tk × Nat × Nat := scanG (fun l => gapF (l.length + 1) l) l (l.length + 1) 1 0
theorem scanB_C {l : List UInt8} (h : l.length ≤ 4096) : scanB l = scanC l := by
  unfold scanB scanC
  rw [if_neg (by omega), scanS_G, gapN_fun]

def exA : List UInt8 := [108, 101, 116, 32, 120, 49, 61, 97, 91, 48, 93, 59, 32, 47, 47, 32, 120]
def exB : List UInt8 := [34, 97, 92, 34, 98, 34]
def exC : List UInt8 := [97, 38, 98]
def exD : List UInt8 := [57, 50, 50, 51, 51, 55, 50, 48, 51, 54, 56, 53, 52, 55, 55, 53, 56, 48, 56]

set_option maxRecDepth 100000 in
theorem scan_exA : scanB exA = ([⟨5, [108, 101, 116], 0, 1, 0⟩, ⟨1, [120, 49], 0, 1, 4⟩, ⟨4, [61], 0, 1, 6⟩, ⟨1, [97], 0, 1, 7⟩, ⟨4, [91], 0, 1, 8⟩, ⟨2, [], 0, 1, 9⟩, ⟨4, [93], 0, 1, 10⟩, ⟨4, [59], 0, 1, 11⟩, ⟨0, [], 0, 1, 17⟩], 0, 0) := by
  rw [scanB_C (by decide)]
  kernel_rfl
set_option maxRecDepth 100000 in
theorem scan_exB : scanB exB = ([⟨3, [97, 34, 98], 0, 1, 0⟩, ⟨0, [], 0, 1, 6⟩], 0, 0) := by
  rw [scanB_C (by decide)]
  kernel_rfl
set_option maxRecDepth 100000 in
theorem scan_exC : scanB exC = ([], 1, 6) := by
  rw [scanB_C (by decide)]
  kernel_rfl
set_option maxRecDepth 100000 in
theorem scan_exD : scanB exD = ([], 0, 5) := by
  rw [scanB_C (by decide)]
  kernel_rfl
end Go.Proofs.YtchpmnmngeebjaaGreatDoor
