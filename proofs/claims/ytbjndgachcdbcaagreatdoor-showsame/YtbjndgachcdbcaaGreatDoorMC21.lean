import Derived.Test.YtbjndgachcdbcaaGreatDoorMC17
import Derived.Test.YtbjndgachcdbcaaGreatDoorMC18
import Derived.Test.YtbjndgachcdbcaaGreatDoorHLenTag
import Derived.Test.YtbjndgachcdbcaaGreatDoorShelf
import Derived.Test.YtbjndgachcdbcaaGreatDoorVLine
import Derived.Test.YtbjndgachcdbcaaGreatDoorHShowMath
namespace Go.Proofs.YtbjndgachcdbcaaGreatDoor
open Go.RowKit Go.Shelf
set_option maxHeartbeats 16000000
set_option maxRecDepth 100000
def UI (w:World) (hv:Value):Prop:=hv=.pointer none∨∃h,hv=.pointer (some ⟨h,0,none⟩)∧h<w.heap.size∧w.cell? ⟨h,0,none⟩=some (.bool false)
theorem UI.below {w w':World} {hv:Value} (h:UI w hv) (hb:Below w.heap.size w w'):UI w' hv:=by
 rcases h with h | ⟨h,e,b,c⟩
 ·exact .inl h
 ·exact .inr ⟨h,e,Nat.lt_of_lt_of_le b hb.size,(zb hb b).trans c⟩
structure Yz (w:World):Prop where
 tabs:zJ w
 names:∀j (h:j<Z7.length),w.cell? ⟨0,j,none⟩=some (.string (za Z7[j]))
 long:∃m,w.cell? ⟨1,0,none⟩=some (.int .i64 m)
theorem Yz.below {w w':World} {B:Nat} (h:Yz w) (hb:Below B w w') (hB:w.heap.size≤B):Yz w':=by
 have b:∀{p:Addr} {v:Value},w.cell? p=some v→w'.cell? p=some v:=fun {p v} hp=>by
  rw [hb.cell (Nat.lt_of_lt_of_le (World.block_lt_of_cell? w _ hp) hB)];exact hp
 exact ⟨h.tabs.below hb hB,fun j hj=>b (h.names j hj),by obtain ⟨m,c⟩:=h.long;exact ⟨m,b c⟩⟩
theorem xE (n:Int) (hn:ZA n) (w:World) (ht:zJ w):Calls Tryz.prog 38 #[.int .i64 n] w fun e w'=>e=.returned (.string (za (Lib.itoa n)))∧Below w.heap.size w w':=by
 refine (Tryz.strconv_Itoa n hn.1 hn.2 w ht.2).mono ?_;rintro e w' ⟨c,q,os,b⟩;refine ⟨c,?_⟩;rw [b];exact Lib.below_grow w.heap.size w (Nat.le_refl _) q os
theorem yo (f:Int) (w:World) (ht:Yz w):Calls Tryz.prog 8 #[.int .i64 f] w fun e w'=>e=.returned (.string (za (zV f)))∧w=w':=by
 by_cases h0:f<0
 ·have b:zV f=[]:=by unfold zV;rw [if_pos (.inl h0)]
  rw [b]
  go_enter Tryz.func8,Tryz.ntmps8
  go_wp2
  go_ret
  exact ⟨rfl,rfl⟩
 ·by_cases h1:11≤f
  ·have b:zV f=[]:=by unfold zV;rw [if_pos (.inr h1)]
   rw [b]
   go_enter Tryz.func8,Tryz.ntmps8
   go_wp2
   go_ret
   exact ⟨rfl,rfl⟩
  ·have c:f=0∨f=1∨f=2∨f=3∨f=4∨f=5∨f=6∨f=7∨f=8∨f=9∨f=10:=by omega
   have A:=ht.names 0 (by decide)
   have E:=ht.names 1 (by decide)
   have z:=ht.names 2 (by decide)
   have m:=ht.names 3 (by decide)
   have u:=ht.names 4 (by decide)
   have o:=ht.names 5 (by decide)
   have y:=ht.names 6 (by decide)
   have D:=ht.names 7 (by decide)
   have B:=ht.names 8 (by decide)
   have q:=ht.names 9 (by decide)
   have h:=ht.names 10 (by decide)
   clear ht h0 h1;rcases c with rfl | rfl | rfl | rfl | rfl | rfl | rfl | rfl | rfl | rfl | rfl
   all_goals
    go_enter Tryz.func8,Tryz.ntmps8
    go_wp2
    go_ret
    exact ⟨rfl,rfl⟩
theorem VQ {S:Nat→Prop} {most:Nat} {os:List Ob} {h:Nat} {vo vc:Value} (w:World) (H:zs S w most os h vo vc) (ht:zJ w) :
  Calls Tryz.prog 22 #[.pointer (some ⟨h,0,none⟩)] w fun e w'=>e=.returned (.bool true)∧Below w.heap.size w w':=by
 have c:=UG ⟨0,0,[]⟩ w H (by simp [zr]) ht (by simp [vy])
 clear H ht
 go_enter Tryz.func22,Tryz.ntmps22
 go_wp2_with fail
 refine c.mono ?_;clear c;rintro e w1 ⟨rfl,b⟩;have m:Hid (Below w.heap.size w w1):=b;clear b;go_wp2
 go_ret
 exact ⟨rfl,m.out⟩
theorem yO (l:List (List UInt8)) (w:World) (hl:l.length≤1000) (htot:l.flatten.length≤70368744177664) :
  Calls Tryz.prog 28 #[.slice (some ⟨w.heap.size,0,none⟩) l.length l.length] (w.alloc (.cells (strC l).toArray 9)) fun e w'=>e=.returned (.string (za (zG l.flatten)))∧Below w.heap.size w w':=by
 have b:=zo.lit w.heap.size w w l (Below.refl _ _) (Nat.le_refl _) (by unfold maxLen;omega)
 refine (XO _ l _ _ b.in (by omega) htot).mono ?_
 rintro e w' ⟨h,c⟩;exact ⟨h,b.below.trans (c.mono b.low)⟩
theorem Y4 {B:Nat} {w0 w:World} {v:Value} {l:List (List UInt8)} (hj:zo B w0 w v l) (hl:l.length≤1099511627776) (htot:l.flatten.length≤70368744177664) :
  Calls Tryz.prog 28 #[v] w fun e w'=>e=.returned (.string (za (zG l.flatten)))∧Below B w0 w':=by
 refine (XO _ l _ _ hj.in (by omega) htot).mono ?_
 rintro e w' ⟨c,b⟩;exact ⟨c,hj.below.trans (b.mono hj.low)⟩
theorem Zb {w:World} {N:Nat} {x0 x1 x2 x3 x4:Value} {ty:TypeId} (h:w.heap[N]?=some (.cells #[x0,x1,x2,x3,x4] ty (0,0))):w.cell? ⟨N,0,none⟩=some x0∧w.cell? ⟨N,1,none⟩=some x1∧w.cell? ⟨N,2,none⟩=some x2∧w.cell? ⟨N,3,none⟩=some x3∧w.cell? ⟨N,4,none⟩=some x4:=by
 refine ⟨?_,?_,?_,?_,?_⟩ <;> (simp only [World.cell?,h];rfl)
theorem Zp {w:World} {N:Nat} {x0 x1 x2:Value} {ty:TypeId} (h:w.heap[N]?=some (.cells #[x0,x1,x2] ty (0,0))):w.cell? ⟨N,0,none⟩=some x0∧w.cell? ⟨N,1,none⟩=some x1∧w.cell? ⟨N,2,none⟩=some x2:=by
 refine ⟨?_,?_,?_⟩ <;> (simp only [World.cell?,h];rfl)
structure Yt (w W:World) (g:Nat) (xs:Array Value) (ty:TypeId) (v:Value) (l:List (List UInt8)):Prop where
 strs:zo w.heap.size w W v l
 blk:W.heap[g]?=some (.cells xs ty (0,0))
 tabs:Yz w
theorem Yt.new {w W W':World} {g:Nat} {xs:Array Value} {ty:TypeId} {v:Value} {l:List (List UInt8)} (h:Yt w W g xs ty v l) (hb:Below W.heap.size W W'):Yt w W' g xs ty v l :=
 ⟨h.strs.new hb,(hb.block _ (zc h.blk)).trans h.blk,h.tabs⟩
theorem Yt.app {w W W':World} {g:Nat} {xs:Array Value} {ty:TypeId} {v v':Value} {l m:List (List UInt8)} {o:Obj} (h:Yt w W g xs ty v l) (hne:ty≠9) (hj:zo w.heap.size w W' v' m) (hg:(W.alloc o).grownBy W' v.ownBlock):Yt w W' g xs ty v' m :=
 ⟨hj,zp (h.strs.row.alloc _) hg ((Below.heap_alloc _ _ _ (zc h.blk)).trans h.blk) hne,h.tabs⟩
theorem xj (vf:Value) (pos status fault:Int) (out:List UInt8) (w:World) (hp:ZA pos) (ht:Yz w) (hs:0≤status∧status≤2) :
  Calls Tryz.prog 24 #[UY vf pos status fault out] w fun e w'=>e=.returned (.string (za (Zm pos status fault)))∧Below w.heap.size w w':=by
 obtain ⟨w1,D,u,B,U⟩:=yE w (.cells #[.int .i64 pos,.int .i64 status,.int .i64 fault,vf,.string (za out)] 29);have O:Hid (w1=w.alloc (.cells #[.int .i64 pos,.int .i64 status,.int .i64 fault,vf,.string (za out)] 29)):=D;have z:Hid (Below w.heap.size w w1):=u;have J:Hid (w1.heap[w.heap.size]?=some (.cells #[.int .i64 pos,.int .i64 status,.int .i64 fault,vf,.string (za out)] 29 (0,0))):=U;have E:Hid (Yz w1):=ht.below u (Nat.le_refl _);have K:=xE pos hp w1 E.out.tabs;obtain ⟨I,G⟩:∃I,I=Lib.itoa pos:=⟨_,rfl⟩;have aa:I.length≤30:=by rw [G];exact Z0 pos hp.1 hp.2
 rw [←G] at K
 have q:Hid (Zm pos status fault=zG (if status=0 then [[97,116,32],I,[32,114,117,110,110,105,110,103]] else if status=1 then [[97,116,32],I,[32,100,111,110,101]] else [[97,116,32],I,[32,102,97,117,108,116,32],zV fault]).flatten):=by
  show _=_
  rw [G];rfl
 obtain ⟨R,X⟩:∃R,R=Zm pos status fault:=⟨_,rfl⟩;rw [←X] at q ⊢;have V:Hid (w1.heap.size=w.heap.size+1):=B;obtain ⟨Y,W,p2,-,-⟩:=Zb U;clear D u U X G ht hp B
 go_enter Tryz.func24,Tryz.ntmps24
 go_wp2_with fail
 rw [←O.out];refine K.mono ?_;clear K Y W p2;rintro e y ⟨rfl,o⟩;obtain ⟨Y,W,p2,-,-⟩:=Zb ((o.block w.heap.size (by have:=V.out;omega)).trans J.out)
 have c:Hid (Below w.heap.size w y):=z.out.trans (o.mono z.out.size);have M:Hid (Yz y):=E.out.below o (Nat.le_refl _);clear o
 by_cases s0:status=0
 ·subst s0
  rw [if_pos rfl] at q;have h:=yO [[97,116,32],I,[32,114,117,110,110,105,110,103]] y (by simp) (by simp;omega)
  rw [←q.out] at h;go_wp2_with fail
  refine h.mono ?_;rintro e A ⟨rfl,b⟩;have m:Hid (Below w.heap.size w A):=c.out.trans (b.mono c.out.size);clear h b;go_wp2
  go_ret
  exact ⟨rfl,m.out⟩
 ·rw [if_neg s0] at q
  by_cases s1:status=1
  ·subst s1
   rw [if_pos rfl] at q;have h:=yO [[97,116,32],I,[32,100,111,110,101]] y (by simp) (by simp;omega)
   rw [←q.out] at h;go_wp2_with fail
   refine h.mono ?_;rintro e A ⟨rfl,b⟩;have m:Hid (Below w.heap.size w A):=c.out.trans (b.mono c.out.size);clear h b;go_wp2
   go_ret
   exact ⟨rfl,m.out⟩
  ·rw [if_neg s1] at q
   obtain rfl:status=2:=by omega
   have H:=yo fault y M.out;have T:=vI fault;obtain ⟨F,Z⟩:∃F,F=zV fault:=⟨_,rfl⟩;rw [←Z] at H T q;have h:=yO [[97,116,32],I,[32,102,97,117,108,116,32],F] y (by simp) (by simp;omega)
   rw [←q.out] at h;clear Z s0 s1;go_wp2_with fail
   refine H.mono ?_;clear H;rintro e w4 ⟨rfl,rfl⟩;go_wp2_with fail
   refine h.mono ?_;rintro e A ⟨rfl,b⟩;have m:Hid (Below w.heap.size w A):=c.out.trans (b.mono c.out.size);clear h b;go_wp2
   go_ret
   exact ⟨rfl,m.out⟩
end Go.Proofs.YtbjndgachcdbcaaGreatDoor
