import Derived.Test.YtbjndgachcdbcaaGreatDoorMC13
namespace Go.Proofs.YtbjndgachcdbcaaGreatDoor
open Go.RowKit Go.Shelf
set_option maxHeartbeats 16000000
set_option maxRecDepth 100000
abbrev UQ (w:World) (v:Vl):World:=w.alloc (.cells #[.int .i64 v.k,.int .i64 v.n,.string (za v.s)] 56)
theorem UG {S:Nat→Prop} {most:Nat} {os:List Ob} {h:Nat} {vo vc:Value} (v:Vl) (w:World) (H:zs S w most os h vo vc) (hv:zr v) (ht:zJ w) (hno:vy os v=false) :
  Calls Tryz.prog 36 #[.pointer (some ⟨h,0,none⟩),Uc v] w fun e w'=>e=.returned (.tuple #[.int .i64 0,.int .i64 2])∧Below w.heap.size w w':=by
 obtain ⟨w2,b⟩:∃w2,w2=UQ w v:=⟨_,rfl⟩;have U:w2.heap.size=w.heap.size+1:=by rw [b];simp
 have c:Below w.heap.size w w2:=by rw [b];exact (Below.refl _ _).alloc (Nat.le_refl _) _
 have I:w2.heap[w.heap.size]?=some (.cells #[.int .i64 v.k,.int .i64 v.n,.string (za v.s)] 56 (0,0)):=by rw [b];exact World.alloc_heap_new _ _
 have B:=Ud v w2 (H.below c) hv (ht.below c (Nat.le_refl _)) (Ue hno);obtain ⟨T,M,R,-⟩:=zt I;have E:Hid (Below w.heap.size w w2):=c;obtain ⟨k,m,s⟩:=v;have o:=b.symm
 unfold UQ at o
 unfold UT at B
 clear H c I b ht hno hv
 go_enter Tryz.func36,Tryz.ntmps36
 go_wp2_with fail
 refine B.mono ?_;clear B;rintro e J ⟨rfl,u⟩;have K:=u.size;obtain ⟨A,q⟩:∃A,A=J.alloc (.cells #[.string ⟨#[]⟩,.int .i64 0,.int .i64 0] 92):=⟨_,rfl⟩;have y:Hid (Below w.heap.size w A):=by rw [q];exact (E.out.trans (u.mono (by omega))).alloc (by omega) _
 have F:Hid (A=J.alloc (.cells #[.string ⟨#[]⟩,.int .i64 0,.int .i64 0] 92)):=q;have G:=uk ⟨#[]⟩ 0 0 0 (by omega) (by omega) (by simp) A
 clear u q o T M R;go_wp2_with fail
 rw [←F.out];refine G.mono ?_;clear G;rintro e O ⟨rfl,z⟩;have D:Hid (Below w.heap.size w O):=y.out.trans (z.mono y.out.size);clear z;go_wp2
 go_ret2
 exact ⟨rfl,D.out⟩
end Go.Proofs.YtbjndgachcdbcaaGreatDoor
