import Derived.Test.YtbjndgachcdbcaaGreatDoorMC13
namespace Go.Proofs.YtbjndgachcdbcaaGreatDoor
open Go.RowKit Go.Shelf
set_option maxHeartbeats 16000000
set_option maxRecDepth 100000
abbrev um (w:World) (v:Vl):World:=w.alloc (.cells #[.int .i64 v.k,.int .i64 v.n,.string (za v.s)] 56)
theorem ud {S:Nat→Prop} {most:Nat} {os:List Ob} {h:Nat} {vo vc:Value} (v:Vl) (w:World) (H:zA S w most os h vo vc) (hv:zw v) (ht:zQ w) (hno:Xq os v=false) :
  Calls Tryz.prog 36 #[.pointer (some ⟨h,0,none⟩),V5 v] w fun e w'=>e=.returned (.tuple #[.int .i64 0,.int .i64 2])∧Below w.heap.size w w':=by
 obtain ⟨w2,b⟩:∃w2,w2=um w v:=⟨_,rfl⟩;have T:w2.heap.size=w.heap.size+1:=by rw [b];simp
 have c:Below w.heap.size w w2:=by rw [b];exact (Below.refl _ _).alloc (Nat.le_refl _) _
 have F:w2.heap[w.heap.size]?=some (.cells #[.int .i64 v.k,.int .i64 v.n,.string (za v.s)] 56 (0,0)):=by rw [b];exact World.alloc_heap_new _ _
 have A:=VG v w2 (H.below c) hv (ht.below c (Nat.le_refl _)) (VI hno);obtain ⟨M,O,J,-⟩:=zv F;have E:Hid (Below w.heap.size w w2):=c;obtain ⟨k,m,s⟩:=v;have o:=b.symm
 unfold um at o
 unfold ub at A
 clear H c F b ht hno hv
 go_enter Tryz.func36,Tryz.ntmps36
 go_wp2_with fail
 refine A.mono ?_;clear A;rintro e G ⟨rfl,u⟩;have K:=u.size;obtain ⟨z,q⟩:∃z,z=G.alloc (.cells #[.string ⟨#[]⟩,.int .i64 0,.int .i64 0] 92):=⟨_,rfl⟩;have x:Hid (Below w.heap.size w z):=by rw [q];exact (E.out.trans (u.mono (by omega))).alloc (by omega) _
 have B:Hid (z=G.alloc (.cells #[.string ⟨#[]⟩,.int .i64 0,.int .i64 0] 92)):=q;have I:=xJ ⟨#[]⟩ 0 0 0 (by omega) (by omega) (by simp) z
 clear u q o M O J;go_wp2_with fail
 rw [←B.out];refine I.mono ?_;clear I;rintro e R ⟨rfl,y⟩;have D:Hid (Below w.heap.size w R):=x.out.trans (y.mono x.out.size);clear y;go_wp2
 go_ret2
 exact ⟨rfl,D.out⟩
end Go.Proofs.YtbjndgachcdbcaaGreatDoor
