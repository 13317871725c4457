import Derived.Test.YtbjndgachcdbcaaGreatDoorMC13
namespace Go.Proofs.YtbjndgachcdbcaaGreatDoor
open Go.RowKit Go.Shelf
set_option maxHeartbeats 16000000
set_option maxRecDepth 100000
abbrev um (w:World) (v:Vl):World:=w.alloc (.cells #[.int .i64 v.k,.int .i64 v.n,.string (za v.s)] 56)
theorem ud {S:Nat→Prop} {most:Nat} {os:List Ob} {h:Nat} {vo vc:Value} (v:Vl) (w:World) (H:zA S w most os h vo vc) (hv:zw v) (ht:zQ w) (hno:Xq os v=false) :
  Calls Tryz.prog 36 #[.pointer (some ⟨h,0,none⟩),V5 v] w fun e w'=>e=.returned (.tuple #[.int .i64 0,.int .i64 2])∧Below w.heap.size w w':=by
 obtain ⟨w2,b⟩:∃w2,w2=um w v:=⟨_,rfl⟩;have T:w2.heap.size=w.heap.size+1:=by rw [b];simp
 have c:Below w.heap.size w w2:=by rw [b];exact (Below.refl _ _).alloc (Nat.le_refl _) _
 have F:w2.heap[w.heap.size]?=some (.cells #[.int .i64 v.k,.int .i64 v.n,.string (za v.s)] 56 (0,0)):=by rw [b];exact World.alloc_heap_new _ _
 have B:=VG v w2 (H.below c) hv (ht.below c (Nat.le_refl _)) (VI hno);obtain ⟨K,R,O,-⟩:=zv F;have E:Hid (Below w.heap.size w w2):=c;obtain ⟨k,m,s⟩:=v;have o:=b.symm
 unfold um at o
 unfold ub at B
 clear H c F b ht hno hv
 go_enter Tryz.func36,Tryz.ntmps36
 go_wp2_with fail
 refine B.mono ?_;clear B;rintro e I ⟨rfl,u⟩;have J:=u.size;obtain ⟨z,q⟩:∃z,z=I.alloc (.cells #[.string ⟨#[]⟩,.int .i64 0,.int .i64 0] 92):=⟨_,rfl⟩;have x:Hid (Below w.heap.size w z):=by rw [q];exact (E.out.trans (u.mono (by omega))).alloc (by omega) _
 have A:Hid (z=I.alloc (.cells #[.string ⟨#[]⟩,.int .i64 0,.int .i64 0] 92)):=q;have G:=xJ ⟨#[]⟩ 0 0 0 (by omega) (by omega) (by simp) z
 clear u q o K R O;go_wp2_with fail
 rw [←A.out];refine G.mono ?_;clear G;rintro e M ⟨rfl,y⟩;have D:Hid (Below w.heap.size w M):=x.out.trans (y.mono x.out.size);clear y;go_wp2
 go_ret2
 exact ⟨rfl,D.out⟩
end Go.Proofs.YtbjndgachcdbcaaGreatDoor
