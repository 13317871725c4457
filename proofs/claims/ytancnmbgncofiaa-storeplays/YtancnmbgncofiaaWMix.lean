/- A region that draws its order and holds calls whose answers are not known ahead: what only reads is taken first, by the quiet walk's cheap steps; a call is met where nothing else may come up. -/
import Derived.OrdersHeld
import Derived.BigQuiet
import Derived.Deep.RegionHeld3
import Derived.WalkKit
import Derived.Below
namespace Go.Proofs.Ytancnmbgncofiaa
open Go Go.RowKit

/-- An operation that yields a value, or does not come to its end; it enters no function. -/
def plainOp : Op → Bool
  | .move _ | .assign _ | .pick .. | .build .. | .load .. | .binOp .. | .unOp .. | .convert .. | .makeInterface .. | .fieldAddr .. | .field .. | .indexAddr .. | .index .. | .extract .. | .slice .. => true
  | .call c => match c.callee with
    | .builtin .len => true
    | _ => false
  | _ => false

theorem run_valued {α : Type} {P : Program} {s : Sem α} {f : α → Value} {w w' : World} {n : Next} (h : (s.bind fun x => Sem.pure (Next.value (f x))).run P w = .ok n w') : ∃ v, n = .value v := by
  rw [Sem.run_bind'] at h
  cases hs : s.run P w with
  | ok v w1 => rw [hs] at h; simp [Result.andThen] at h; exact ⟨f v, h.1.symm⟩
  | halt x w1 => rw [hs] at h; simp [Result.andThen] at h

theorem plainOp_value {P : Program} {o : Oper} {ρ : Operand → Value} {w w' : World} {n : Next} (hp : plainOp o.op = true) (h : (execOp ρ o).run P w = .ok n w') : ∃ v, n = .value v := by
  unfold execOp at h
  cases ho : o.op <;> rw [ho] at hp h <;> simp only [plainOp, Bool.false_eq_true] at hp <;> simp only [] at h
  case call c =>
    cases hc : c.callee with
    | builtin b =>
      rw [hc] at hp
      cases b <;> simp at hp
      simp only [resolve, hc] at h
      exact run_valued (f := id) h
    | value f => rw [hc] at hp; simp at hp
    | invoke r m => rw [hc] at hp; simp at hp
  all_goals first
    | exact run_valued (f := id) h
    | exact run_valued h
    | (simp only [Sem.run_pure, Result.ok.injEq] at h; exact ⟨_, h.1.symm⟩)

/-- The operations at these places. -/
def pickL (l : List Oper) : List Nat → List Oper
  | [] => []
  | i :: is => match l.drop i with
    | o :: _ => o :: pickL l is
    | [] => []

/-- What is listed behind these. -/
def listedL (listed : Array Bool) : List Nat → Array Bool
  | [] => listed
  | i :: is => listedL (listed.setIfInBounds i true) is

/-- May these be taken one behind the other, each ahead of all others? -/
def segB (md : Region.Mode) (l : List Oper) : List Nat → Array Bool → Bool
  | [], _ => true
  | i :: is, listed => (match l.drop i with
    | o :: _ => plainOp o.op
    | [] => false) && Region.free md l.toArray listed i && (Region.ready md l.toArray listed).contains i && segB md l is (listed.setIfInBounds i true)

section
variable {P : Program} {Q : Exit → Act → World → Prop} {md : Region.Mode} {S : World → Prop} {l : List Oper}

theorem drop_get {i : Nat} {o : Oper} {rest : List Oper} (h : l.drop i = o :: rest) : l.toArray[i]? = some o := by
  have : (l.drop i)[0]? = some o := by rw [h]; rfl
  rw [List.getElem?_drop] at this
  simpa using this

/-- Those that only read, taken first, one behind the other, by the quiet walk. -/
theorem mix_seg_go (hs : Region.noSelect l.toArray = true) (hQ : ∀ c a d v w, Q (.panic c) (a.put d v) w → Q (.panic c) a w) (fuel : Nat) (w : World) (hS : S w) :
    ∀ (idx : List Nat) (listed : Array Bool) (a : Act), segB md l idx listed = true →
      wpQuiet P l.toArray S (fun a' => wpAnyH P md l.toArray Q S fuel (listedL listed idx) a' w) (pickL l idx) a →
      wpAnyH P md l.toArray Q S (fuel + idx.length) listed a w
  | [], _, _, _, h => h
  | i :: is, listed, a, hB, h => by
    simp only [segB, Bool.and_eq_true] at hB
    obtain ⟨⟨⟨hp, hf⟩, hr⟩, hB'⟩ := hB
    cases hd : l.drop i with
    | nil => rw [hd] at hp; simp at hp
    | cons o rest =>
      rw [hd] at hp
      have hi := drop_get hd
      have hq : ∃ v, YieldsIf P l.toArray S o v a ∧ wpQuiet P l.toArray S (fun a' => wpAnyH P md l.toArray Q S fuel (listedL listed (i :: is)) a' w) (pickL l is) (a.put o.dst v) := by
        rw [show pickL l (i :: is) = o :: pickL l is by simp only [pickL, hd]] at h
        unfold wpQuiet at h
        split at h
        · rename_i hw
          obtain ⟨v, hv, hn⟩ := h
          refine ⟨v, .inl ⟨hw, fun w' hw' => ?_⟩, hn⟩
          have h3 := hv w' hw'
          unfold Oper.quietAt at h3
          cases hrun : (execOp a.eval o).run P w' with
          | ok n w2 =>
            rw [hrun] at h3
            obtain ⟨u, rfl⟩ := plainOp_value hp hrun
            obtain ⟨rfl, rfl⟩ := h3
            rfl
          | halt x w2 => rw [hrun] at h3; exact h3.elim
        · rename_i hw
          exact ⟨undef, .inr ⟨by simpa using hw, rfl⟩, h⟩
      obtain ⟨v, hy, hn⟩ := hq
      exact wpAnyH_take hi hs hf hr (fun c a w => hQ c a _ _ w) hy hS (mix_seg_go hs hQ fuel w hS is _ _ hB' hn)

theorem mix_seg {fuel fuel' : Nat} {w : World} {idx : List Nat} {l' : List Oper} {listed listed' : Array Bool} {a : Act} (hB : (Region.noSelect l.toArray && segB md l idx listed) = true) (hf : fuel + idx.length = fuel') (hl : l' = pickL l idx) (hL : listed' = listedL listed idx)
    (hQ : ∀ c a d v w, Q (.panic c) (a.put d v) w → Q (.panic c) a w) (hS : S w) (h : wpQuiet P l.toArray S (fun a' => wpAnyH P md l.toArray Q S fuel listed' a' w) l' a) : wpAnyH P md l.toArray Q S fuel' listed a w := by
  subst hf hl hL
  rw [Bool.and_eq_true] at hB
  exact mix_seg_go hB.1 hQ fuel w hS idx listed a hB.2 h

/-- Where one alone may come up. -/
theorem mix_loud {fuel fuel' : Nat} {w : World} {i : Nat} {o : Oper} {rest : List Oper} {listed listed' : Array Bool} {a : Act} (hd : l.drop i = o :: rest) (hr : Region.ready md l.toArray listed = [i]) (hf : fuel + 1 = fuel') (hL : listed' = listed.setIfInBounds i true)
    (hw : Region.wanted o (yielded l.toArray a.tmps) = true)
    (h : ∀ K : Act → World → Prop, Hid (∀ a' w', S w' → wpAnyH P md l.toArray Q S fuel listed' a' w' → K a' w') → o.wp P a w K Q) : wpAnyH P md l.toArray Q S fuel' listed a w := by
  subst hf hL
  refine wpAnyH_all hr (by simp) fun j hj => ?_
  obtain rfl : j = i := by simpa using hj
  have h1 := h (fun a' w' => S w' ∧ wpAnyH P md l.toArray Q S fuel (listed.setIfInBounds j true) a' w') fun a' w' h1 h2 => ⟨h1, h2⟩
  unfold wpOp
  rw [drop_get hd]
  simp only [hw, if_true]
  exact .inl h1

/-- The same, for a law of a step. -/
theorem mix_law {fuel fuel' : Nat} {w : World} {i : Nat} {o : Oper} {rest : List Oper} {listed listed' : Array Bool} {a : Act} (hd : l.drop i = o :: rest) (hr : Region.ready md l.toArray listed = [i]) (hf : fuel + 1 = fuel') (hL : listed' = listed.setIfInBounds i true)
    (hw : Region.wanted o (yielded l.toArray a.tmps) = true)
    (h : ∀ K : Act → World → Prop, Hid (∀ a' w', S w' → wpAnyH P md l.toArray Q S fuel listed' a' w' → K a' w') → if Region.wanted o (yielded l.toArray a.tmps) = true then o.wp P a w K Q else True) : wpAnyH P md l.toArray Q S fuel' listed a w :=
  mix_loud hd hr hf hL hw fun K hK => by have := h K hK; rwa [if_pos hw] at this

/-- All have come up. -/
theorem mix_done {listed : Array Bool} {fuel : Nat} {a : Act} {w : World} (hr : Region.ready md l.toArray listed = []) (h : Q .normal a w) : wpAnyH P md l.toArray (NoPanic Q) S fuel listed a w :=
  wpAnyH_done hr (NoPanic.normal h) _

/-- The beginning: a region that does not panic. -/
theorem mix_begin {id : Nat} {a : Act} {w : World} {n : Nat} {listed : Array Bool} (hm : P.follows .mixedOrders = true) (hn : n = l.length) (hL : listed = Array.replicate n false)
    (h : wpAnyH P .any l.toArray (NoPanic Q) S n listed a w.drew) : (Code.region id l.toArray true).wp P Q a w := by
  subst hn hL
  refine wp_region_noPanic (wp_region_held (S := S) hm ?_)
  rw [show l.toArray.size = l.length by simp]
  exact h
end

/-- The worlds of which p holds. -/
def ClsP (p : World → Prop) : Type := { wx : World // p wx }
end Go.Proofs.Ytancnmbgncofiaa
