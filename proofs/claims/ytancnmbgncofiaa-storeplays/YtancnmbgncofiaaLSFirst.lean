/- Once there is a position, there is always one that is not above it. -/
import Derived.Test.YtancnmbgncofiaaKActs
import Derived.Test.YtancnmbgncofiaaKFirstM
namespace Go.Proofs.Ytancnmbgncofiaa
open Go.RowKit

theorem kMost_eq (m : Int) : (kMost m : Nat) = (max 1 (min m 64)).toNat := by unfold kMost; omega
theorem kgetD_rise {ps : List Int} (hr : ps.Pairwise (· < ·)) {k : Nat} (h0 : 0 < k) (hk : k < ps.length) : ps.getD (k - 1) 0 < ps.getD k 0 := by
  rw [List.getD_eq_getElem?_getD, List.getD_eq_getElem?_getD, List.getElem?_eq_getElem hk, List.getElem?_eq_getElem (show k - 1 < ps.length by omega)]
  exact List.pairwise_iff_getElem.1 hr (k - 1) k (by omega) hk (by omega)
theorem kints_at {w : World} {B : Nat} {ba : Option Addr} {n ca : Nat} {l : List PB} (h : w.ownsRow B 3 1 (.slice ba n ca) l.length (intC (l.map (·.1)))) : ∀ j (_ : j < l.length), ∃ g, ba = some ⟨g, 0, none⟩ ∧ g < w.heap.size ∧ w.cell? ⟨g, j, none⟩ = some (.int .i64 ((l.map (·.1)).getD j 0)) := fun j hj => by
  rcases h.2 with ⟨-, h0⟩ | ⟨g, cap, cur, hv, _, hg, _⟩
  · omega
  · cases hv
    have hj' : j < (l.map (·.1)).length := by simpa using hj
    have := h.cells (g := g) rfl j (.int .i64 ((l.map (·.1))[j])) (by unfold intC; rw [List.getElem?_map, List.getElem?_eq_getElem hj']; rfl)
    rw [add_zero'] at this
    rw [List.getD_eq_getElem?_getD, List.getElem?_eq_getElem hj']
    exact ⟨g, rfl, (Array.getElem?_eq_some_iff.1 hg).1, this⟩

/-- Between two rounds: the store, made behind w. -/
structure FiIn (w : World) (m : Int) (h : Nat) (l : List PB) (vk : Value) (wr : World) : Prop where
  s : StX w.heap.size wr (kMost m) l h vk
  b : Below w.heap.size w wr
theorem FiIn.below {w : World} {m : Int} {h : Nat} {l : List PB} {vk : Value} {wr w2 : World} (H : FiIn w m h l vk wr) (hb : Below wr.heap.size wr w2) : FiIn w m h l vk w2 := ⟨H.s.below hb, H.b.trans (hb.mono H.s.low)⟩
theorem FiIn.put {w : World} {m : Int} {h : Nat} {l l' : List PB} {vk vk' : Value} {wr w2 : World} (H : FiIn w m h l vk wr) (hs : StX w.heap.size w2 (kMost m) l' h vk') (hk : KpS (fun k => k = h ∨ vk.ownBlock = some k) wr w2) : FiIn w m h l' vk' w2 := ⟨hs, H.b.trans (H.s.stays hk)⟩

end Go.Proofs.Ytancnmbgncofiaa
