/- A region that draws its order, whose operations only read and whose callees may make memory, each answer the same in every grown world: walked once, in the order of the text. -/
import Derived.Test.YtjhfkiighphepaaDoorWMem
import Derived.Deep.QuietTactic
import Derived.BigQuiet
namespace Go.Proofs.YtjhfkiighphepaaDoor
open Go.RowKit

/-- The worlds that grew from w, below n as it was. -/
def Cls (n : Nat) (w : World) : Type := { wx : World // Below n w wx }

instance clsOne (n : Nat) (w : World) : Nonempty (Cls n w) := ⟨⟨w, Below.refl _ _⟩⟩

theorem wp_region_cls {P : Program} {id : Nat} {Q : Exit → Act → World → Prop} {a : Act} {w w0 : World} {l : List Oper} {n : Nat} (hw : Below n w0 w) (hm : P.follows .mixedOrders = true) (hB : Region.lexB .any l.toArray = true)
    (h : wpQuiet P l.toArray (fun w' => ∃ c : Cls n w0, w' = c.1) (fun a' => ∀ w', (∃ c : Cls n w0, w' = c.1) → Q .normal a' w') l a) : (Code.region id l.toArray true).wp P Q a w :=
  wp_region_quiet (C := fun w' => ∃ c : Cls n w0, w' = c.1) hm hB ⟨⟨w.drew, hw.drew⟩, rfl⟩ (by simpa using h)

theorem cls_calls {P : Program} {f : FuncId} {args : Array Value} {v : Value} {n : Nat} {w : World} (h : ∀ wx, Below n w wx → Calls P f args wx fun e w'' => e = .returned v ∧ Below n w w'') (c : Cls n w) :
    Calls P f args c.1 fun e w'' => e = .returned v ∧ ∃ c' : Cls n w, w'' = c'.1 :=
  (h c.1 c.2).mono fun _ w'' ⟨he, hb⟩ => ⟨he, ⟨w'', hb⟩, rfl⟩

theorem cls_cell {n : Nat} {w : World} {p : Addr} {v : Value} (h : w.cell? p = some v) (hp : p.block < n) (c : Cls n w) : c.1.cell? p = some v := by
  rw [c.2.cell hp]; exact h
end Go.Proofs.YtjhfkiighphepaaDoor
