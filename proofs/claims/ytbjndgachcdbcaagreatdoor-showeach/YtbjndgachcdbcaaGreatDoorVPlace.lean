import Derived.Test.YtbjndgachcdbcaaGreatDoorVParts
import Derived.Test.YtbjndgachcdbcaaGreatDoorVLine
import Derived.Test.YtbjndgachcdbcaaGreatDoorHShowMath
namespace Go.Proofs.YtbjndgachcdbcaaGreatDoor
open Go.RowKit Go.Shelf
set_option maxHeartbeats 16000000
set_option maxRecDepth 100000
theorem yN (l:List (List UInt8)) (w:World) (hl:l.length≤1000) (htot:l.flatten.length≤70368744177664) :
  Calls Tryz.prog 28 #[.slice (some ⟨w.heap.size,0,none⟩) l.length l.length] (w.alloc (.cells (strC l).toArray 9)) fun e w'=>e=.returned (.string (za (lineB l.flatten)))∧Below w.heap.size w w':=by
 have b:=zl.lit w.heap.size w w l (Below.refl _ _) (Nat.le_refl _) (by unfold maxLen;omega)
 refine (Xz _ l _ _ b.in (by omega) htot).mono ?_
 rintro e w' ⟨c,h⟩;exact ⟨c,b.below.trans (h.mono b.low)⟩
theorem YU {B:Nat} {w0 w:World} {v:Value} {l:List (List UInt8)} (hj:zl B w0 w v l) (hl:l.length≤1099511627776) (htot:l.flatten.length≤70368744177664) :
  Calls Tryz.prog 28 #[v] w fun e w'=>e=.returned (.string (za (lineB l.flatten)))∧Below B w0 w':=by
 refine (Xz _ l _ _ hj.in (by omega) htot).mono ?_
 rintro e w' ⟨b,c⟩;exact ⟨b,hj.below.trans (c.mono hj.low)⟩
theorem zW {w:World} {N:Nat} {x0 x1 x2 x3 x4:Value} {ty:TypeId} (h:w.heap[N]?=some (.cells #[x0,x1,x2,x3,x4] ty (0,0))):w.cell? ⟨N,0,none⟩=some x0∧w.cell? ⟨N,1,none⟩=some x1∧w.cell? ⟨N,2,none⟩=some x2∧w.cell? ⟨N,3,none⟩=some x3∧w.cell? ⟨N,4,none⟩=some x4:=by
 refine ⟨?_,?_,?_,?_,?_⟩ <;> (simp only [World.cell?,h];rfl)
theorem Zn {w:World} {N:Nat} {x0 x1 x2:Value} {ty:TypeId} (h:w.heap[N]?=some (.cells #[x0,x1,x2] ty (0,0))):w.cell? ⟨N,0,none⟩=some x0∧w.cell? ⟨N,1,none⟩=some x1∧w.cell? ⟨N,2,none⟩=some x2:=by
 refine ⟨?_,?_,?_⟩ <;> (simp only [World.cell?,h];rfl)
structure Yk (w W:World) (g:Nat) (xs:Array Value) (ty:TypeId) (v:Value) (l:List (List UInt8)):Prop where
 strs:zl w.heap.size w W v l
 blk:W.heap[g]?=some (.cells xs ty (0,0))
 tabs:Yr w
theorem Yk.new {w W W':World} {g:Nat} {xs:Array Value} {ty:TypeId} {v:Value} {l:List (List UInt8)} (h:Yk w W g xs ty v l) (hb:Below W.heap.size W W'):Yk w W' g xs ty v l :=
 ⟨h.strs.new hb,(hb.block _ (zc h.blk)).trans h.blk,h.tabs⟩
theorem Yk.app {w W W':World} {g:Nat} {xs:Array Value} {ty:TypeId} {v v':Value} {l m:List (List UInt8)} {o:Obj} (h:Yk w W g xs ty v l) (hne:ty≠9) (hj:zl w.heap.size w W' v' m) (hg:(W.alloc o).grownBy W' v.ownBlock):Yk w W' g xs ty v' m :=
 ⟨hj,zm (h.strs.row.alloc _) hg ((Below.heap_alloc _ _ _ (zc h.blk)).trans h.blk) hne,h.tabs⟩
theorem xa (vf:Value) (pos status fault:Int) (out:List UInt8) (w:World) (hp:Zu pos) (ht:Yr w) (hs:0≤status∧status≤2) :
  Calls Tryz.prog 24 #[UD vf pos status fault out] w fun e w'=>e=.returned (.string (za (Zg pos status fault)))∧Below w.heap.size w w':=by
 obtain ⟨w1,E,u,B,U⟩:=Z6 w (.cells #[.int .i64 pos,.int .i64 status,.int .i64 fault,vf,.string (za out)] 29);have H:Hid (w1=w.alloc (.cells #[.int .i64 pos,.int .i64 status,.int .i64 fault,vf,.string (za out)] 29)):=E;have D:Hid (Below w.heap.size w w1):=u;have T:Hid (w1.heap[w.heap.size]?=some (.cells #[.int .i64 pos,.int .i64 status,.int .i64 fault,vf,.string (za out)] 29 (0,0))):=U;have z:Hid (Yr w1):=ht.below u (Nat.le_refl _);have J:=xu pos hp w1 z.out.tabs;obtain ⟨I,G⟩:∃I,I=Lib.itoa pos:=⟨_,rfl⟩;have aa:I.length≤30:=by rw [G];exact ZO pos hp.1 hp.2
 rw [←G] at J
 have q:Hid (Zg pos status fault=lineB (if status=0 then [[97,116,32],I,[32,114,117,110,110,105,110,103]] else if status=1 then [[97,116,32],I,[32,100,111,110,101]] else [[97,116,32],I,[32,102,97,117,108,116,32],zP fault]).flatten):=by
  show _=_
  rw [G];rfl
 obtain ⟨R,Z⟩:∃R,R=Zg pos status fault:=⟨_,rfl⟩;rw [←Z] at q ⊢;have O:Hid (w1.heap.size=w.heap.size+1):=B;obtain ⟨Y,p1,X,-,-⟩:=zW U;clear E u U Z G ht hp B
 go_enter Tryz.func24,Tryz.ntmps24
 go_wp2_with fail
 rw [←H.out];refine J.mono ?_;clear J Y p1 X;rintro e y ⟨rfl,o⟩;obtain ⟨Y,p1,X,-,-⟩:=zW ((o.block w.heap.size (by have:=O.out;omega)).trans T.out)
 have c:Hid (Below w.heap.size w y):=D.out.trans (o.mono D.out.size);have V:Hid (Yr y):=z.out.below o (Nat.le_refl _);clear o
 by_cases s0:status=0
 ·subst s0
  rw [if_pos rfl] at q;have m:=yN [[97,116,32],I,[32,114,117,110,110,105,110,103]] y (by simp) (by simp;omega)
  rw [←q.out] at m;go_wp2_with fail
  refine m.mono ?_;rintro e A ⟨rfl,b⟩;have h:Hid (Below w.heap.size w A):=c.out.trans (b.mono c.out.size);clear m b;go_wp2
  go_ret
  exact ⟨rfl,h.out⟩
 ·rw [if_neg s0] at q
  by_cases s1:status=1
  ·subst s1
   rw [if_pos rfl] at q;have m:=yN [[97,116,32],I,[32,100,111,110,101]] y (by simp) (by simp;omega)
   rw [←q.out] at m;go_wp2_with fail
   refine m.mono ?_;rintro e A ⟨rfl,b⟩;have h:Hid (Below w.heap.size w A):=c.out.trans (b.mono c.out.size);clear m b;go_wp2
   go_ret
   exact ⟨rfl,h.out⟩
  ·rw [if_neg s1] at q
   obtain rfl:status=2:=by omega
   have K:=yk fault y V.out;have M:=X9 fault;obtain ⟨F,W⟩:∃F,F=zP fault:=⟨_,rfl⟩;rw [←W] at K M q;have m:=yN [[97,116,32],I,[32,102,97,117,108,116,32],F] y (by simp) (by simp;omega)
   rw [←q.out] at m;clear W s0 s1;go_wp2_with fail
   refine K.mono ?_;clear K;rintro e w4 ⟨rfl,rfl⟩;go_wp2_with fail
   refine m.mono ?_;rintro e A ⟨rfl,b⟩;have h:Hid (Below w.heap.size w A):=c.out.trans (b.mono c.out.size);clear m b;go_wp2
   go_ret
   exact ⟨rfl,h.out⟩
end Go.Proofs.YtbjndgachcdbcaaGreatDoor
