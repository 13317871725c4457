import Derived.Test.YtbjndgachcdbcaaGreatDoorMC13
namespace Go.Proofs.YtbjndgachcdbcaaGreatDoor
open Go.RowKit Go.Shelf
set_option maxHeartbeats 16000000
set_option maxRecDepth 100000
abbrev VJ (w:World) (v:Vl):World:=w.alloc (.cells #[.int .i64 v.k,.int .i64 v.n,.string (za v.s)] 56)
theorem VA {S:Nat→Prop} {most:Nat} {os:List Ob} {h:Nat} {vo vc:Value} (v:Vl) (w:World) (H:zA S w most os h vo vc) (hv:zv v) (ht:zQ w) (hno:xZ os v=false) :
  Calls Tryz.prog 36 #[.pointer (some ⟨h,0,none⟩),VG v] w fun e w'=>e=.returned (.tuple #[.int .i64 0,.int .i64 2])∧Below w.heap.size w w':=by
 obtain ⟨w2,b⟩:∃w2,w2=VJ w v:=⟨_,rfl⟩;have T:w2.heap.size=w.heap.size+1:=by rw [b];simp
 have c:Below w.heap.size w w2:=by rw [b];exact (Below.refl _ _).alloc (Nat.le_refl _) _
 have I:w2.heap[w.heap.size]?=some (.cells #[.int .i64 v.k,.int .i64 v.n,.string (za v.s)] 56 (0,0)):=by rw [b];exact World.alloc_heap_new _ _
 have E:=v8 v w2 (H.below c) hv (ht.below c (Nat.le_refl _)) (Vb hno);obtain ⟨J,K,M,-⟩:=zu I;have D:Hid (Below w.heap.size w w2):=c;obtain ⟨k,m,s⟩:=v;have o:=b.symm
 unfold VJ at o
 unfold VQ at E
 clear H c I b ht hno hv
 go_enter Tryz.func36,Tryz.ntmps36
 go_wp2_with fail
 refine E.mono ?_;clear E;rintro e F ⟨rfl,q⟩;have R:=q.size;obtain ⟨y,u⟩:∃y,y=F.alloc (.cells #[.string ⟨#[]⟩,.int .i64 0,.int .i64 0] 92):=⟨_,rfl⟩;have z:Hid (Below w.heap.size w y):=by rw [u];exact (D.out.trans (q.mono (by omega))).alloc (by omega) _
 have A:Hid (y=F.alloc (.cells #[.string ⟨#[]⟩,.int .i64 0,.int .i64 0] 92)):=u;have G:=vu ⟨#[]⟩ 0 0 0 (by omega) (by omega) (by simp) y
 clear q u o J K M;go_wp2_with fail
 rw [←A.out];refine G.mono ?_;clear G;rintro e O ⟨rfl,x⟩;have B:Hid (Below w.heap.size w O):=z.out.trans (x.mono z.out.size);clear x;go_wp2
 go_ret2
 exact ⟨rfl,B.out⟩
end Go.Proofs.YtbjndgachcdbcaaGreatDoor
