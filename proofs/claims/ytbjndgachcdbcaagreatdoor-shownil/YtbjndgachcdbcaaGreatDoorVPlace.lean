import Derived.Test.YtbjndgachcdbcaaGreatDoorVParts
import Derived.Test.YtbjndgachcdbcaaGreatDoorVLine
import Derived.Test.YtbjndgachcdbcaaGreatDoorHShowMath
namespace Go.Proofs.YtbjndgachcdbcaaGreatDoor
open Go.RowKit Go.Shelf
set_option maxHeartbeats 16000000
set_option maxRecDepth 100000
theorem yq (l:List (List UInt8)) (w:World) (hl:l.length≤1000) (htot:l.flatten.length≤70368744177664) :
  Calls Tryz.prog 28 #[.slice (some ⟨w.heap.size,0,none⟩) l.length l.length] (w.alloc (.cells (strC l).toArray 9)) fun e w'=>e=.returned (.string (za (zB l.flatten)))∧Below w.heap.size w w':=by
 have b:=zj.lit w.heap.size w w l (Below.refl _ _) (Nat.le_refl _) (by unfold maxLen;omega)
 refine (xW _ l _ _ b.in (by omega) htot).mono ?_
 rintro e w' ⟨h,c⟩;exact ⟨h,b.below.trans (c.mono b.low)⟩
theorem Yv {B:Nat} {w0 w:World} {v:Value} {l:List (List UInt8)} (hj:zj B w0 w v l) (hl:l.length≤1099511627776) (htot:l.flatten.length≤70368744177664) :
  Calls Tryz.prog 28 #[v] w fun e w'=>e=.returned (.string (za (zB l.flatten)))∧Below B w0 w':=by
 refine (xW _ l _ _ hj.in (by omega) htot).mono ?_
 rintro e w' ⟨b,c⟩;exact ⟨b,hj.below.trans (c.mono hj.low)⟩
theorem zU {w:World} {N:Nat} {x0 x1 x2 x3 x4:Value} {ty:TypeId} (h:w.heap[N]?=some (.cells #[x0,x1,x2,x3,x4] ty (0,0))):w.cell? ⟨N,0,none⟩=some x0∧w.cell? ⟨N,1,none⟩=some x1∧w.cell? ⟨N,2,none⟩=some x2∧w.cell? ⟨N,3,none⟩=some x3∧w.cell? ⟨N,4,none⟩=some x4:=by
 refine ⟨?_,?_,?_,?_,?_⟩ <;> (simp only [World.cell?,h];rfl)
theorem Zg {w:World} {N:Nat} {x0 x1 x2:Value} {ty:TypeId} (h:w.heap[N]?=some (.cells #[x0,x1,x2] ty (0,0))):w.cell? ⟨N,0,none⟩=some x0∧w.cell? ⟨N,1,none⟩=some x1∧w.cell? ⟨N,2,none⟩=some x2:=by
 refine ⟨?_,?_,?_⟩ <;> (simp only [World.cell?,h];rfl)
structure yS (w W:World) (g:Nat) (xs:Array Value) (ty:TypeId) (v:Value) (l:List (List UInt8)):Prop where
 strs:zj w.heap.size w W v l
 blk:W.heap[g]?=some (.cells xs ty (0,0))
 tabs:Yc w
theorem yS.new {w W W':World} {g:Nat} {xs:Array Value} {ty:TypeId} {v:Value} {l:List (List UInt8)} (h:yS w W g xs ty v l) (hb:Below W.heap.size W W'):yS w W' g xs ty v l :=
 ⟨h.strs.new hb,(hb.block _ (zc h.blk)).trans h.blk,h.tabs⟩
theorem yS.app {w W W':World} {g:Nat} {xs:Array Value} {ty:TypeId} {v v':Value} {l m:List (List UInt8)} {o:Obj} (h:yS w W g xs ty v l) (hne:ty≠9) (hj:zj w.heap.size w W' v' m) (hg:(W.alloc o).grownBy W' v.ownBlock):yS w W' g xs ty v' m :=
 ⟨hj,zk (h.strs.row.alloc _) hg ((Below.heap_alloc _ _ _ (zc h.blk)).trans h.blk) hne,h.tabs⟩
theorem YJ (vf:Value) (pos status fault:Int) (out:List UInt8) (w:World) (hp:Zm pos) (ht:Yc w) (hs:0≤status∧status≤2) :
  Calls Tryz.prog 24 #[uD vf pos status fault out] w fun e w'=>e=.returned (.string (za (Zc pos status fault)))∧Below w.heap.size w w':=by
 obtain ⟨w1,y,u,B,M⟩:=Z5 w (.cells #[.int .i64 pos,.int .i64 status,.int .i64 fault,vf,.string (za out)] 29);have K:Hid (w1=w.alloc (.cells #[.int .i64 pos,.int .i64 status,.int .i64 fault,vf,.string (za out)] 29)):=y;have z:Hid (Below w.heap.size w w1):=u;have U:Hid (w1.heap[w.heap.size]?=some (.cells #[.int .i64 pos,.int .i64 status,.int .i64 fault,vf,.string (za out)] 29 (0,0))):=M;have A:Hid (Yc w1):=ht.below u (Nat.le_refl _);have T:=Y2 pos hp w1 A.out.tabs;obtain ⟨I,E⟩:∃I,I=Lib.itoa pos:=⟨_,rfl⟩;have aa:I.length≤30:=by rw [E];exact ZK pos hp.1 hp.2
 rw [←E] at T
 have o:Hid (Zc pos status fault=zB (if status=0 then [[97,116,32],I,[32,114,117,110,110,105,110,103]] else if status=1 then [[97,116,32],I,[32,100,111,110,101]] else [[97,116,32],I,[32,102,97,117,108,116,32],zN fault]).flatten):=by
  show _=_
  rw [E];rfl
 obtain ⟨R,V⟩:∃R,R=Zc pos status fault:=⟨_,rfl⟩;rw [←V] at o ⊢;have H:Hid (w1.heap.size=w.heap.size+1):=B;obtain ⟨X,Z,W,-,-⟩:=zU M;clear y u M V E ht hp B
 go_enter Tryz.func24,Tryz.ntmps24
 go_wp2_with fail
 rw [←K.out];refine T.mono ?_;clear T X Z W;rintro e x ⟨rfl,q⟩;obtain ⟨X,Z,W,-,-⟩:=zU ((q.block w.heap.size (by have:=H.out;omega)).trans U.out)
 have c:Hid (Below w.heap.size w x):=z.out.trans (q.mono z.out.size);have G:Hid (Yc x):=A.out.below q (Nat.le_refl _);clear q
 by_cases s0:status=0
 ·subst s0
  rw [if_pos rfl] at o;have m:=yq [[97,116,32],I,[32,114,117,110,110,105,110,103]] x (by simp) (by simp;omega)
  rw [←o.out] at m;go_wp2_with fail
  refine m.mono ?_;rintro e D ⟨rfl,b⟩;have h:Hid (Below w.heap.size w D):=c.out.trans (b.mono c.out.size);clear m b;go_wp2
  go_ret
  exact ⟨rfl,h.out⟩
 ·rw [if_neg s0] at o
  by_cases s1:status=1
  ·subst s1
   rw [if_pos rfl] at o;have m:=yq [[97,116,32],I,[32,100,111,110,101]] x (by simp) (by simp;omega)
   rw [←o.out] at m;go_wp2_with fail
   refine m.mono ?_;rintro e D ⟨rfl,b⟩;have h:Hid (Below w.heap.size w D):=c.out.trans (b.mono c.out.size);clear m b;go_wp2
   go_ret
   exact ⟨rfl,h.out⟩
  ·rw [if_neg s1] at o
   obtain rfl:status=2:=by omega
   have J:=Z3 fault x G.out;have O:=Xz fault;obtain ⟨F,Y⟩:∃F,F=zN fault:=⟨_,rfl⟩;rw [←Y] at J O o;have m:=yq [[97,116,32],I,[32,102,97,117,108,116,32],F] x (by simp) (by simp;omega)
   rw [←o.out] at m;clear Y s0 s1;go_wp2_with fail
   refine J.mono ?_;clear J;rintro e w4 ⟨rfl,rfl⟩;go_wp2_with fail
   refine m.mono ?_;rintro e D ⟨rfl,b⟩;have h:Hid (Below w.heap.size w D):=c.out.trans (b.mono c.out.size);clear m b;go_wp2
   go_ret
   exact ⟨rfl,h.out⟩
end Go.Proofs.YtbjndgachcdbcaaGreatDoor
