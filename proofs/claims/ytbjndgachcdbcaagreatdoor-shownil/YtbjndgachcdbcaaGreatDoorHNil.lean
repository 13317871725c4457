import Derived.Test.YtbjndgachcdbcaaGreatDoorHLives
namespace Go.Proofs.YtbjndgachcdbcaaGreatDoor
open Go.RowKit Go.Shelf
set_option maxHeartbeats 16000000
set_option maxRecDepth 100000
def vu (w:World) (hv:Value):Prop:=hv=.pointer none∨∃h,hv=.pointer (some ⟨h,0,none⟩)∧h<w.heap.size∧w.cell? ⟨h,0,none⟩=some (.bool false)
theorem vu.below {w w':World} {hv:Value} (h:vu w hv) (hb:Below w.heap.size w w'):vu w' hv:=by
 rcases h with h | ⟨h,e,b,c⟩
 ·exact .inl h
 ·exact .inr ⟨h,e,Nat.lt_of_lt_of_le b hb.size,(zh hb b).trans c⟩
theorem XB (w:World) (hv:Value) (h:vu w hv):Calls Tryz.prog 47 #[hv] w fun e w'=>e=.returned (.bool false)∧w=w':=by
 rcases h with rfl | ⟨h,rfl,-,b⟩
 ·exact xI w
 ·exact xd h w b
theorem Vf (w:World) (hv:Value) (v:Vl) (h:vu w hv):Calls Tryz.prog 45 #[hv,V5 v] w fun e w'=>e=.returned (.tuple #[ub,.int .i64 1])∧Below w.heap.size w w':=by
 obtain ⟨-,b,-,-⟩:=yO w v;have o:=XB _ hv (h.below b);have c:Hid (Below w.heap.size w (yN w v)):=b;obtain ⟨k,m,s⟩:=v;clear b h
 go_enter Tryz.func45,Tryz.ntmps45
 go_wp2_with fail
 refine o.mono ?_;clear o;rintro e q ⟨rfl,rfl⟩;go_wp2
 exact bodyPost_ret (v:=.tuple #[ub,.int .i64 1]) (by simp [results,Tryz.results45,go_sem]) rfl ⟨rfl,c.out⟩
theorem XC (w:World) (v:Vl):(w.alloc (.cells #[.int .i64 v.k,.int .i64 v.n,.string (za v.s)] 56)).heap.size=w.heap.size+1∧Below w.heap.size w (w.alloc (.cells #[.int .i64 v.k,.int .i64 v.n,.string (za v.s)] 56)):=⟨by simp,(Below.refl _ w).alloc (Nat.le_refl _) _⟩
theorem VR (w:World) (hv:Value) (v:Vl) (h:vu w hv):Calls Tryz.prog 36 #[hv,V5 v] w fun e w'=>e=.returned (.tuple #[.int .i64 0,.int .i64 1])∧Below w.heap.size w w':=by
 obtain ⟨-,b⟩:=XC w v;have q:=Vf _ hv v (h.below b);obtain ⟨k,m,s⟩:=v;have x:Hid (Below w.heap.size w (w.alloc (.cells #[.int .i64 k,.int .i64 m,.string (za s)] 56))):=b
 unfold ub at q
 clear b h
 go_enter Tryz.func36,Tryz.ntmps36
 go_wp2_with fail
 refine q.mono ?_;clear q;rintro e y ⟨rfl,c⟩;have D:w.heap.size+1≤y.heap.size:=by have:=c.size;simpa using this
 have z:Hid (Below w.heap.size w (y.alloc (.cells #[.string ⟨#[]⟩,.int .i64 0,.int .i64 0] 92))):=(x.out.trans (c.mono (by simp))).alloc (by omega) _
 have A:=xJ ⟨#[]⟩ 0 0 0 (by omega) (by omega) (by simp) (y.alloc (.cells #[.string ⟨#[]⟩,.int .i64 0,.int .i64 0] 92))
 clear c;go_wp2_with fail
 refine A.mono ?_;clear A;rintro e B ⟨rfl,o⟩;have u:Hid (Below w.heap.size w B):=z.out.trans (o.mono (by simp;omega))
 clear o;go_wp2
 go_ret2
 exact ⟨rfl,u.out⟩
end Go.Proofs.YtbjndgachcdbcaaGreatDoor
