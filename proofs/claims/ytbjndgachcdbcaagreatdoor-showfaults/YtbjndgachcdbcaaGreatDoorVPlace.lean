import Derived.Test.YtbjndgachcdbcaaGreatDoorVParts
import Derived.Test.YtbjndgachcdbcaaGreatDoorVLine
import Derived.Test.YtbjndgachcdbcaaGreatDoorHShowMath
namespace Go.Proofs.YtbjndgachcdbcaaGreatDoor
open Go.RowKit Go.Shelf
set_option maxHeartbeats 16000000
set_option maxRecDepth 100000
theorem yn (l:List (List UInt8)) (w:World) (hl:l.length≤1000) (htot:l.flatten.length≤70368744177664) :
  Calls Tryz.prog 28 #[.slice (some ⟨w.heap.size,0,none⟩) l.length l.length] (w.alloc (.cells (strC l).toArray 9)) fun e w'=>e=.returned (.string (za (zB l.flatten)))∧Below w.heap.size w w':=by
 have b:=zj.lit w.heap.size w w l (Below.refl _ _) (Nat.le_refl _) (by unfold maxLen;omega)
 refine (xI _ l _ _ b.in (by omega) htot).mono ?_
 rintro e w' ⟨h,c⟩;exact ⟨h,b.below.trans (c.mono b.low)⟩
theorem Yj {B:Nat} {w0 w:World} {v:Value} {l:List (List UInt8)} (hj:zj B w0 w v l) (hl:l.length≤1099511627776) (htot:l.flatten.length≤70368744177664) :
  Calls Tryz.prog 28 #[v] w fun e w'=>e=.returned (.string (za (zB l.flatten)))∧Below B w0 w':=by
 refine (xI _ l _ _ hj.in (by omega) htot).mono ?_
 rintro e w' ⟨b,c⟩;exact ⟨b,hj.below.trans (c.mono hj.low)⟩
theorem zU {w:World} {N:Nat} {x0 x1 x2 x3 x4:Value} {ty:TypeId} (h:w.heap[N]?=some (.cells #[x0,x1,x2,x3,x4] ty (0,0))):w.cell? ⟨N,0,none⟩=some x0∧w.cell? ⟨N,1,none⟩=some x1∧w.cell? ⟨N,2,none⟩=some x2∧w.cell? ⟨N,3,none⟩=some x3∧w.cell? ⟨N,4,none⟩=some x4:=by
 refine ⟨?_,?_,?_,?_,?_⟩ <;> (simp only [World.cell?,h];rfl)
theorem Zf {w:World} {N:Nat} {x0 x1 x2:Value} {ty:TypeId} (h:w.heap[N]?=some (.cells #[x0,x1,x2] ty (0,0))):w.cell? ⟨N,0,none⟩=some x0∧w.cell? ⟨N,1,none⟩=some x1∧w.cell? ⟨N,2,none⟩=some x2:=by
 refine ⟨?_,?_,?_⟩ <;> (simp only [World.cell?,h];rfl)
structure yL (w W:World) (g:Nat) (xs:Array Value) (ty:TypeId) (v:Value) (l:List (List UInt8)):Prop where
 strs:zj w.heap.size w W v l
 blk:W.heap[g]?=some (.cells xs ty (0,0))
 tabs:yW w
theorem yL.new {w W W':World} {g:Nat} {xs:Array Value} {ty:TypeId} {v:Value} {l:List (List UInt8)} (h:yL w W g xs ty v l) (hb:Below W.heap.size W W'):yL w W' g xs ty v l :=
 ⟨h.strs.new hb,(hb.block _ (zc h.blk)).trans h.blk,h.tabs⟩
theorem yL.app {w W W':World} {g:Nat} {xs:Array Value} {ty:TypeId} {v v':Value} {l m:List (List UInt8)} {o:Obj} (h:yL w W g xs ty v l) (hne:ty≠9) (hj:zj w.heap.size w W' v' m) (hg:(W.alloc o).grownBy W' v.ownBlock):yL w W' g xs ty v' m :=
 ⟨hj,zk (h.strs.row.alloc _) hg ((Below.heap_alloc _ _ _ (zc h.blk)).trans h.blk) hne,h.tabs⟩
theorem Yz (vf:Value) (pos status fault:Int) (out:List UInt8) (w:World) (hp:Zk pos) (ht:yW w) (hs:0≤status∧status≤2) :
  Calls Tryz.prog 24 #[VZ vf pos status fault out] w fun e w'=>e=.returned (.string (za (Zb pos status fault)))∧Below w.heap.size w w':=by
 obtain ⟨w1,z,u,y,O⟩:=yl w (.cells #[.int .i64 pos,.int .i64 status,.int .i64 fault,vf,.string (za out)] 29);have M:Hid (w1=w.alloc (.cells #[.int .i64 pos,.int .i64 status,.int .i64 fault,vf,.string (za out)] 29)):=z;have A:Hid (Below w.heap.size w w1):=u;have G:Hid (w1.heap[w.heap.size]?=some (.cells #[.int .i64 pos,.int .i64 status,.int .i64 fault,vf,.string (za out)] 29 (0,0))):=O;have D:Hid (yW w1):=ht.below u (Nat.le_refl _);have J:=YS pos hp w1 D.out.tabs;obtain ⟨I,E⟩:∃I,I=Lib.itoa pos:=⟨_,rfl⟩;have aa:I.length≤30:=by rw [E];exact ZJ pos hp.1 hp.2
 rw [←E] at J
 have o:Hid (Zb pos status fault=zB (if status=0 then [[97,116,32],I,[32,114,117,110,110,105,110,103]] else if status=1 then [[97,116,32],I,[32,100,111,110,101]] else [[97,116,32],I,[32,102,97,117,108,116,32],zw fault]).flatten):=by
  show _=_
  rw [E];rfl
 obtain ⟨R,W⟩:∃R,R=Zb pos status fault:=⟨_,rfl⟩;rw [←W] at o ⊢;have T:Hid (w1.heap.size=w.heap.size+1):=y;obtain ⟨Y,V,X,-,-⟩:=zU O;clear z u O W E ht hp y
 go_enter Tryz.func24,Tryz.ntmps24
 go_wp2_with fail
 rw [←M.out];refine J.mono ?_;clear J Y V X;rintro e x ⟨rfl,q⟩;obtain ⟨Y,V,X,-,-⟩:=zU ((q.block w.heap.size (by have:=T.out;omega)).trans G.out)
 have c:Hid (Below w.heap.size w x):=A.out.trans (q.mono A.out.size);have H:Hid (yW x):=D.out.below q (Nat.le_refl _);clear q
 by_cases s0:status=0
 ·subst s0
  rw [if_pos rfl] at o;have h:=yn [[97,116,32],I,[32,114,117,110,110,105,110,103]] x (by simp) (by simp;omega)
  rw [←o.out] at h;go_wp2_with fail
  refine h.mono ?_;rintro e B ⟨rfl,b⟩;have m:Hid (Below w.heap.size w B):=c.out.trans (b.mono c.out.size);clear h b;go_wp2
  go_ret
  exact ⟨rfl,m.out⟩
 ·rw [if_neg s0] at o
  by_cases s1:status=1
  ·subst s1
   rw [if_pos rfl] at o;have h:=yn [[97,116,32],I,[32,100,111,110,101]] x (by simp) (by simp;omega)
   rw [←o.out] at h;go_wp2_with fail
   refine h.mono ?_;rintro e B ⟨rfl,b⟩;have m:Hid (Below w.heap.size w B):=c.out.trans (b.mono c.out.size);clear h b;go_wp2
   go_ret
   exact ⟨rfl,m.out⟩
  ·rw [if_neg s1] at o
   obtain rfl:status=2:=by omega
   have U:=ZI fault x H.out;have K:=Xi fault;obtain ⟨F,Z⟩:∃F,F=zw fault:=⟨_,rfl⟩;rw [←Z] at U K o;have h:=yn [[97,116,32],I,[32,102,97,117,108,116,32],F] x (by simp) (by simp;omega)
   rw [←o.out] at h;clear Z s0 s1;go_wp2_with fail
   refine U.mono ?_;clear U;rintro e w4 ⟨rfl,rfl⟩;go_wp2_with fail
   refine h.mono ?_;rintro e B ⟨rfl,b⟩;have m:Hid (Below w.heap.size w B):=c.out.trans (b.mono c.out.size);clear h b;go_wp2
   go_ret
   exact ⟨rfl,m.out⟩
end Go.Proofs.YtbjndgachcdbcaaGreatDoor
