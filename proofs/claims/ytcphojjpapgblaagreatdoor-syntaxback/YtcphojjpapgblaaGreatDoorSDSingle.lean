import Derived.Test.YtcphojjpapgblaaGreatDoorMC43
namespace Go.Proofs.YtcphojjpapgblaaGreatDoor
open Go.RowKit Go.Shelf
theorem zc.far {r N:Nat} {w W:World} (h:zc r w W) (hN:w.heap.size≤N) (j:Nat) (v:Value):zc r w (W.setCell ⟨N,j,none⟩ v) :=
 ⟨h.os,h.tape,h.output,by simpa using h.size,fun k hk hr=>(Below.heap_setCell _ _ _ _ (by simp;omega)).trans (h.block k hk hr)⟩
theorem yS.far {r g N:Nat} {σ:RS} {W:World} (h:yS r g σ W) (hr:N≠r) (hg:N≠g) (j:Nat) (v:Value):yS r g σ (W.setCell ⟨N,j,none⟩ v) :=
 h.keep (Below.heap_setCell _ _ _ _ (by simp;omega)) (Below.heap_setCell _ _ _ _ (by simp;omega))
theorem Y0.alloc {r g:Nat} {w W:World} {q:Ex × RS} {e:Ending} (h:Y0 r g w q e W) (ob:Obj):Y0 r g w q e (W.alloc ob):=by
 obtain ⟨y,v,rfl,o,z⟩:=h;exact ⟨y.alloc _,v,rfl,ZI.kept o (by simp) fun k _ hlt=>Below.heap_alloc _ _ _ hlt,z.alloc _⟩
theorem Y0.drew {r g:Nat} {w W:World} {q:Ex × RS} {e:Ending} (h:Y0 r g w q e W):Y0 r g w q e W.drew:=by
 obtain ⟨o,v,rfl,y,z⟩:=h;exact ⟨⟨o.os,o.tape,o.output,o.size,o.block⟩,v,rfl,ZI.kept y (Nat.le_refl _) fun k _ hlt=>rfl,z.keep rfl rfl⟩
structure SgC (r g N T:Nat) (w:World) (σ:RS) (c:Array Value) (t:Tk) (W:World):Prop where
 blkN:W.heap[N]?=some (.cells c 45 (0,0))
 blkT:W.heap[T]?=some (.cells #[.int .i64 t.k,.string (zb t.s),.int .i64 t.n,.int .i64 t.line,.int .i64 t.at0] 65 (0,0))
 res:W.heap[w.heap.size]?=some Zz
 rd:yS r g σ W
 kept:zc r w W
 hN:w.heap.size<N
 hT:w.heap.size<T∧T≠N
theorem SgC.moved {r g N T:Nat} {w W W':World} {σ σ':RS} {c:Array Value} {t:Tk} (h:SgC r g N T w σ c t W) (hr:r<w.heap.size) (hK:zc r W W') (hrd:yS r g σ' W'):SgC r g N T w σ' c t W' where
 blkN:=(hK.block _ (Array.getElem?_eq_some_iff.1 h.blkN).1 (by have:=h.hN;omega)).trans h.blkN
 blkT:=(hK.block _ (Array.getElem?_eq_some_iff.1 h.blkT).1 (by have:=h.hT;omega)).trans h.blkT
 res:=(hK.block _ (Array.getElem?_eq_some_iff.1 h.res).1 (by omega)).trans h.res
 rd:=hrd
 kept:=h.kept.trans hK
 hN:=h.hN
 hT:=h.hT
theorem SgC.set {r g N T:Nat} {w W:World} {σ:RS} {c:Array Value} {t:Tk} (h:SgC r g N T w σ c t W) (hr:r<w.heap.size) (hg:g<w.heap.size) (j:Nat) (v:Value):SgC r g N T w σ (c.setIfInBounds j v) t (W.setCell ⟨N,j,none⟩ v) where
 blkN:=zo v h.blkN
 blkT:=(Below.heap_setCell _ _ _ _ (by have:=h.hT;simp;omega)).trans h.blkT
 res:=(Below.heap_setCell _ _ _ _ (by have:=h.hN;simp;omega)).trans h.res
 rd:=h.rd.far (by have:=h.hN;omega) (by have:=h.hN;omega) j v
 kept:=h.kept.far (Nat.le_of_lt h.hN) j v
 hN:=h.hN
 hT:=h.hT
theorem SgC.drew {r g N T:Nat} {w W:World} {σ:RS} {c:Array Value} {t:Tk} (h:SgC r g N T w σ c t W):SgC r g N T w σ c t W.drew where
 blkN:=h.blkN
 blkT:=h.blkT
 res:=h.res
 rd:=h.rd.keep rfl rfl
 kept:=⟨h.kept.os,h.kept.tape,h.kept.output,h.kept.size,h.kept.block⟩
 hN:=h.hN
 hT:=h.hT
theorem SgC.leave {r g N T B:Nat} {w W:World} {σ:RS} {c:Array Value} {t:Tk} (h:SgC r g N T w σ c t W) (hr:r<w.heap.size) (hg:g<w.heap.size) (k:Nat) (s:List UInt8) (n:Int) (l:List Ex) (line:Nat) (v:Value) (hrow:yV B W l v) (hB:w.heap.size<B) :
  Y0 r g w (.mk k s n l line,σ) (.returned (.agg #[.int .i64 k,.string (zb s),.int .i64 n,v,.int .i64 line])) (set5 W w.heap.size (.int .i64 k) (.string (zb s)) (.int .i64 n) v (.int .i64 line)) :=
 Y0.of_set5 k s n line h.kept (Nat.le_refl _) hr hg hrow hB h.rd
end Go.Proofs.YtcphojjpapgblaaGreatDoor
