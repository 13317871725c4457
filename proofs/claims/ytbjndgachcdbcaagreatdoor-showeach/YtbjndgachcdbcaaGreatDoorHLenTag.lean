import Derived.Test.YtbjndgachcdbcaaGreatDoorMC13
namespace Go.Proofs.YtbjndgachcdbcaaGreatDoor
open Go.RowKit Go.Shelf
set_option maxHeartbeats 16000000
set_option maxRecDepth 100000
abbrev Ut (w:World) (v:Vl):World:=w.alloc (.cells #[.int .i64 v.k,.int .i64 v.n,.string (za v.s)] 56)
theorem Ui {S:Nat→Prop} {most:Nat} {os:List Ob} {h:Nat} {vo vc:Value} (v:Vl) (w:World) (H:zw S w most os h vo vc) (hv:zq v) (ht:zD w) (hno:XZ os v=false) :
  Calls Tryz.prog 36 #[.pointer (some ⟨h,0,none⟩),uD v] w fun e w'=>e=.returned (.tuple #[.int .i64 0,.int .i64 2])∧Below w.heap.size w w':=by
 obtain ⟨w2,b⟩:∃w2,w2=Ut w v:=⟨_,rfl⟩;have U:w2.heap.size=w.heap.size+1:=by rw [b];simp
 have c:Below w.heap.size w w2:=by rw [b];exact (Below.refl _ _).alloc (Nat.le_refl _) _
 have J:w2.heap[w.heap.size]?=some (.cells #[.int .i64 v.k,.int .i64 v.n,.string (za v.s)] 56 (0,0)):=by rw [b];exact World.alloc_heap_new _ _
 have F:=uE v w2 (H.below c) hv (ht.below c (Nat.le_refl _)) (uF hno);obtain ⟨M,T,O,-⟩:=zr J;have D:Hid (Below w.heap.size w w2):=c;obtain ⟨k,m,s⟩:=v;have o:=b.symm
 unfold Ut at o
 unfold Ux at F
 clear H c J b ht hno hv
 go_enter Tryz.func36,Tryz.ntmps36
 go_wp2_with fail
 refine F.mono ?_;clear F;rintro e I ⟨rfl,q⟩;have K:=q.size;obtain ⟨A,u⟩:∃A,A=I.alloc (.cells #[.string ⟨#[]⟩,.int .i64 0,.int .i64 0] 92):=⟨_,rfl⟩;have y:Hid (Below w.heap.size w A):=by rw [u];exact (D.out.trans (q.mono (by omega))).alloc (by omega) _
 have E:Hid (A=I.alloc (.cells #[.string ⟨#[]⟩,.int .i64 0,.int .i64 0] 92)):=u;have G:=VT ⟨#[]⟩ 0 0 0 (by omega) (by omega) (by simp) A
 clear q u o M T O;go_wp2_with fail
 rw [←E.out];refine G.mono ?_;clear G;rintro e R ⟨rfl,z⟩;have B:Hid (Below w.heap.size w R):=y.out.trans (z.mono y.out.size);clear z;go_wp2
 go_ret2
 exact ⟨rfl,B.out⟩
end Go.Proofs.YtbjndgachcdbcaaGreatDoor
