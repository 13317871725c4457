/- store: the laws' done. -/
import Derived.Test.YtancnmbgncofiaaLSFirst
import Derived.Test.YtancnmbgncofiaaKKeptM
namespace Go.Proofs.Ytancnmbgncofiaa
open Go.RowKit

/-- Put of whatever position. -/
theorem kPutA (w0 : World) (m : Int) (h : Nat) (l : List PB) (vk : Value) (pos : Int) (vb : Value) (bs : List UInt8) (w : World) (H : FiIn w0 m h l vk w) (hp2 : pos ≤ 9223372036854775807) (hv : bytesAt w vb bs) (hl : bs.length ≤ 140737488355328) :
    Calls Try.prog 8 #[.pointer (some ⟨h, 0, none⟩), .int .i64 pos, vb] w fun e w' => e = .returned (.int .i64 (if pos < 0 then 2 else 0)) ∧ ∃ vk', FiIn w0 m h (actL (kMost m) l (pos, bs)) vk' w' ∧ KpS (fun k => k = h ∨ vk.ownBlock = some k) w w' := by
  unfold actL
  by_cases hn : pos < 0
  · simp only [hn, if_true]
    refine (kPutX_neg _ _ l h vk pos vb w H.s hn).mono ?_
    rintro e w' ⟨rfl, rfl⟩
    exact ⟨rfl, vk, H, KpS.refl _ _⟩
  · simp only [hn, if_false]
    refine (kPutX _ _ l h vk pos vb bs w H.s (by omega) hp2 hv hl).mono ?_
    rintro e w' ⟨rfl, vk', h1, h2, -⟩
    exact ⟨rfl, vk', H.put h1 h2, h2⟩

end Go.Proofs.Ytancnmbgncofiaa
