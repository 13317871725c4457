import Derived.Test.YtbjndgachcdbcaaGreatDoorVParts
import Derived.Test.YtbjndgachcdbcaaGreatDoorVLine
import Derived.Test.YtbjndgachcdbcaaGreatDoorHShowMath
namespace Go.Proofs.YtbjndgachcdbcaaGreatDoor
open Go.RowKit Go.Shelf
set_option maxHeartbeats 16000000
set_option maxRecDepth 100000
theorem yM (l:List (List UInt8)) (w:World) (hl:l.length≤1000) (htot:l.flatten.length≤70368744177664) :
  Calls Tryz.prog 28 #[.slice (some ⟨w.heap.size,0,none⟩) l.length l.length] (w.alloc (.cells (strC l).toArray 9)) fun e w'=>e=.returned (.string (za (zA l.flatten)))∧Below w.heap.size w w':=by
 have b:=zm.lit w.heap.size w w l (Below.refl _ _) (Nat.le_refl _) (by unfold maxLen;omega)
 refine (Xs _ l _ _ b.in (by omega) htot).mono ?_
 rintro e w' ⟨h,c⟩;exact ⟨h,b.below.trans (c.mono b.low)⟩
theorem YU {B:Nat} {w0 w:World} {v:Value} {l:List (List UInt8)} (hj:zm B w0 w v l) (hl:l.length≤1099511627776) (htot:l.flatten.length≤70368744177664) :
  Calls Tryz.prog 28 #[v] w fun e w'=>e=.returned (.string (za (zA l.flatten)))∧Below B w0 w':=by
 refine (Xs _ l _ _ hj.in (by omega) htot).mono ?_
 rintro e w' ⟨b,c⟩;exact ⟨b,hj.below.trans (c.mono hj.low)⟩
theorem zZ {w:World} {N:Nat} {x0 x1 x2 x3 x4:Value} {ty:TypeId} (h:w.heap[N]?=some (.cells #[x0,x1,x2,x3,x4] ty (0,0))):w.cell? ⟨N,0,none⟩=some x0∧w.cell? ⟨N,1,none⟩=some x1∧w.cell? ⟨N,2,none⟩=some x2∧w.cell? ⟨N,3,none⟩=some x3∧w.cell? ⟨N,4,none⟩=some x4:=by
 refine ⟨?_,?_,?_,?_,?_⟩ <;> (simp only [World.cell?,h];rfl)
theorem Zr {w:World} {N:Nat} {x0 x1 x2:Value} {ty:TypeId} (h:w.heap[N]?=some (.cells #[x0,x1,x2] ty (0,0))):w.cell? ⟨N,0,none⟩=some x0∧w.cell? ⟨N,1,none⟩=some x1∧w.cell? ⟨N,2,none⟩=some x2:=by
 refine ⟨?_,?_,?_⟩ <;> (simp only [World.cell?,h];rfl)
structure Yk (w W:World) (g:Nat) (xs:Array Value) (ty:TypeId) (v:Value) (l:List (List UInt8)):Prop where
 strs:zm w.heap.size w W v l
 blk:W.heap[g]?=some (.cells xs ty (0,0))
 tabs:YB w
theorem Yk.new {w W W':World} {g:Nat} {xs:Array Value} {ty:TypeId} {v:Value} {l:List (List UInt8)} (h:Yk w W g xs ty v l) (hb:Below W.heap.size W W'):Yk w W' g xs ty v l :=
 ⟨h.strs.new hb,(hb.block _ (zc h.blk)).trans h.blk,h.tabs⟩
theorem Yk.app {w W W':World} {g:Nat} {xs:Array Value} {ty:TypeId} {v v':Value} {l m:List (List UInt8)} {o:Obj} (h:Yk w W g xs ty v l) (hne:ty≠9) (hj:zm w.heap.size w W' v' m) (hg:(W.alloc o).grownBy W' v.ownBlock):Yk w W' g xs ty v' m :=
 ⟨hj,zn (h.strs.row.alloc _) hg ((Below.heap_alloc _ _ _ (zc h.blk)).trans h.blk) hne,h.tabs⟩
theorem Y5 (vf:Value) (pos status fault:Int) (out:List UInt8) (w:World) (hp:Zq pos) (ht:YB w) (hs:0≤status∧status≤2) :
  Calls Tryz.prog 24 #[Uw vf pos status fault out] w fun e w'=>e=.returned (.string (za (Zk pos status fault)))∧Below w.heap.size w w':=by
 obtain ⟨w1,z,u,D,O⟩:=yj w (.cells #[.int .i64 pos,.int .i64 status,.int .i64 fault,vf,.string (za out)] 29);have T:Hid (w1=w.alloc (.cells #[.int .i64 pos,.int .i64 status,.int .i64 fault,vf,.string (za out)] 29)):=z;have A:Hid (Below w.heap.size w w1):=u;have K:Hid (w1.heap[w.heap.size]?=some (.cells #[.int .i64 pos,.int .i64 status,.int .i64 fault,vf,.string (za out)] 29 (0,0))):=O;have E:Hid (YB w1):=ht.below u (Nat.le_refl _);have U:=xl pos hp w1 E.out.tabs;obtain ⟨I,G⟩:∃I,I=Lib.itoa pos:=⟨_,rfl⟩;have aa:I.length≤30:=by rw [G];exact ZR pos hp.1 hp.2
 rw [←G] at U
 have q:Hid (Zk pos status fault=zA (if status=0 then [[97,116,32],I,[32,114,117,110,110,105,110,103]] else if status=1 then [[97,116,32],I,[32,100,111,110,101]] else [[97,116,32],I,[32,102,97,117,108,116,32],zS fault]).flatten):=by
  show _=_
  rw [G];rfl
 obtain ⟨R,Z⟩:∃R,R=Zk pos status fault:=⟨_,rfl⟩;rw [←Z] at q ⊢;have M:Hid (w1.heap.size=w.heap.size+1):=D;obtain ⟨p0,Y,X,-,-⟩:=zZ O;clear z u O Z G ht hp D
 go_enter Tryz.func24,Tryz.ntmps24
 go_wp2_with fail
 rw [←T.out];refine U.mono ?_;clear U p0 Y X;rintro e y ⟨rfl,o⟩;obtain ⟨p0,Y,X,-,-⟩:=zZ ((o.block w.heap.size (by have:=M.out;omega)).trans K.out)
 have c:Hid (Below w.heap.size w y):=A.out.trans (o.mono A.out.size);have J:Hid (YB y):=E.out.below o (Nat.le_refl _);clear o
 by_cases s0:status=0
 ·subst s0
  rw [if_pos rfl] at q;have h:=yM [[97,116,32],I,[32,114,117,110,110,105,110,103]] y (by simp) (by simp;omega)
  rw [←q.out] at h;go_wp2_with fail
  refine h.mono ?_;rintro e B ⟨rfl,b⟩;have m:Hid (Below w.heap.size w B):=c.out.trans (b.mono c.out.size);clear h b;go_wp2
  go_ret
  exact ⟨rfl,m.out⟩
 ·rw [if_neg s0] at q
  by_cases s1:status=1
  ·subst s1
   rw [if_pos rfl] at q;have h:=yM [[97,116,32],I,[32,100,111,110,101]] y (by simp) (by simp;omega)
   rw [←q.out] at h;go_wp2_with fail
   refine h.mono ?_;rintro e B ⟨rfl,b⟩;have m:Hid (Below w.heap.size w B):=c.out.trans (b.mono c.out.size);clear h b;go_wp2
   go_ret
   exact ⟨rfl,m.out⟩
  ·rw [if_neg s1] at q
   obtain rfl:status=2:=by omega
   have V:=yf fault y J.out;have H:=X0 fault;obtain ⟨F,W⟩:∃F,F=zS fault:=⟨_,rfl⟩;rw [←W] at V H q;have h:=yM [[97,116,32],I,[32,102,97,117,108,116,32],F] y (by simp) (by simp;omega)
   rw [←q.out] at h;clear W s0 s1;go_wp2_with fail
   refine V.mono ?_;clear V;rintro e w4 ⟨rfl,rfl⟩;go_wp2_with fail
   refine h.mono ?_;rintro e B ⟨rfl,b⟩;have m:Hid (Below w.heap.size w B):=c.out.trans (b.mono c.out.size);clear h b;go_wp2
   go_ret
   exact ⟨rfl,m.out⟩
end Go.Proofs.YtbjndgachcdbcaaGreatDoor
