import Derived.Test.YtcphojjpapgblaaGreatDoorMC43
import Derived.Test.YtcphojjpapgblaaGreatDoorMC17
namespace Go.Proofs.YtcphojjpapgblaaGreatDoor
open Go.RowKit Go.Shelf
theorem Y0.one {r g B:Nat} {w w7:World} {σ:RS} {x:Ex} {a:Int} {b:ByteArray} {c:Int} {d0:Option Addr} {d1 d2:Nat} {l:Int} (k:Nat) (s:List UInt8) (n:Int) (line:Nat) (hK:zc r w w7) (hr:r<w.heap.size) (hg:g<w.heap.size) (hx:ZI B w7 x (.agg #[.int .i64 a,.string b,.int .i64 c,.slice d0 d1 d2,.int .i64 l])) (hB:w.heap.size<B) (hB7:B≤w7.heap.size) (hrd:yS r g σ w7) :
  Y0 r g w (.mk k s n [x] line,σ) (.returned (.agg #[.int .i64 k,.string (zb s),.int .i64 n,.slice (some ⟨w7.heap.size,0,none⟩) 1 1,.int .i64 line])) (set5 (w7.alloc (.cells #[.int .i64 a,.string b,.int .i64 c,.slice d0 d1 d2,.int .i64 l] 45)) w.heap.size (.int .i64 k) (.string (zb s)) (.int .i64 n) (.slice (some ⟨w7.heap.size,0,none⟩) 1 1) (.int .i64 line)):=by
 have h:=zK.one 45 (c:=[.int .i64 a,.string b,.int .i64 c,.slice d0 d1 d2,.int .i64 l]) hx rfl (by omega)
 exact Y0.of_set5 (B:=B) k s n line (hK.alloc _) (Nat.le_refl _) hr hg h hB (hrd.alloc _)
end Go.Proofs.YtcphojjpapgblaaGreatDoor
