import Derived.Test.YtbjndgachcdbcaaGreatDoorMC13
namespace Go.Proofs.YtbjndgachcdbcaaGreatDoor
open Go.RowKit Go.Shelf
set_option maxHeartbeats 16000000
set_option maxRecDepth 100000
abbrev Um (w:World) (v:Vl):World:=w.alloc (.cells #[.int .i64 v.k,.int .i64 v.n,.string (za v.s)] 56)
theorem Uc {S:Nat→Prop} {most:Nat} {os:List Ob} {h:Nat} {vo vc:Value} (v:Vl) (w:World) (H:zx S w most os h vo vc) (hv:zq v) (ht:zF w) (hno:XS os v=false) :
  Calls Tryz.prog 36 #[.pointer (some ⟨h,0,none⟩),uv v] w fun e w'=>e=.returned (.tuple #[.int .i64 0,.int .i64 2])∧Below w.heap.size w w':=by
 obtain ⟨w2,b⟩:∃w2,w2=Um w v:=⟨_,rfl⟩;have U:w2.heap.size=w.heap.size+1:=by rw [b];simp
 have c:Below w.heap.size w w2:=by rw [b];exact (Below.refl _ _).alloc (Nat.le_refl _) _
 have J:w2.heap[w.heap.size]?=some (.cells #[.int .i64 v.k,.int .i64 v.n,.string (za v.s)] 56 (0,0)):=by rw [b];exact World.alloc_heap_new _ _
 have E:=uw v w2 (H.below c) hv (ht.below c (Nat.le_refl _)) (ux hno);obtain ⟨T,K,R,-⟩:=zr J;have D:Hid (Below w.heap.size w w2):=c;obtain ⟨k,m,s⟩:=v;have o:=b.symm
 unfold Um at o
 unfold Uq at E
 clear H c J b ht hno hv
 go_enter Tryz.func36,Tryz.ntmps36
 go_wp2_with fail
 refine E.mono ?_;clear E;rintro e G ⟨rfl,u⟩;have O:=u.size;obtain ⟨A,q⟩:∃A,A=G.alloc (.cells #[.string ⟨#[]⟩,.int .i64 0,.int .i64 0] 92):=⟨_,rfl⟩;have y:Hid (Below w.heap.size w A):=by rw [q];exact (D.out.trans (u.mono (by omega))).alloc (by omega) _
 have B:Hid (A=G.alloc (.cells #[.string ⟨#[]⟩,.int .i64 0,.int .i64 0] 92)):=q;have I:=VK ⟨#[]⟩ 0 0 0 (by omega) (by omega) (by simp) A
 clear u q o T K R;go_wp2_with fail
 rw [←B.out];refine I.mono ?_;clear I;rintro e M ⟨rfl,z⟩;have F:Hid (Below w.heap.size w M):=y.out.trans (z.mono y.out.size);clear z;go_wp2
 go_ret2
 exact ⟨rfl,F.out⟩
end Go.Proofs.YtbjndgachcdbcaaGreatDoor
