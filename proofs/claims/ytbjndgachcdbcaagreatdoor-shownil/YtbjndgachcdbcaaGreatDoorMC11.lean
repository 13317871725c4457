import Derived.Test.YtbjndgachcdbcaaGreatDoorMC10
import Derived.Test.YtbjndgachcdbcaaGreatDoorWAll
import Derived.BigRegion
import Derived.Lib.MinMax
namespace Go.Proofs.YtbjndgachcdbcaaGreatDoor
open Go.RowKit Go.Shelf
set_option maxHeartbeats 16000000
set_option maxRecDepth 100000
theorem Zu {n:Nat} {w w':World} (h:Below n w w') (k:Nat):Below n w (w'.drewN k):=h.trans (⟨rfl,rfl,rfl,Nat.le_refl _,fun _ _=>rfl⟩:Below n w' (w'.drewN k))
theorem yM {S:Nat→Prop} {most:Nat} {os:List Ob} {h:Nat} {vo vc:Value} (w:World) (H:zA S w most os h vo vc) :
  Calls Tryz.prog 47 #[.pointer (some ⟨h,0,none⟩)] w fun e w'=>e=.returned (.bool true)∧w=w':=by
 obtain ⟨b,-,-,-,-⟩:=Yg H.blk;clear H
 go_enter Tryz.func47,Tryz.ntmps47
 go_wp2
 go_ret
 exact ⟨rfl,rfl⟩
theorem xI (w:World) :
  Calls Tryz.prog 47 #[.pointer none] w fun e w'=>e=.returned (.bool false)∧w=w':=by
 go_enter Tryz.func47,Tryz.ntmps47
 go_wp2
 go_ret
 exact ⟨rfl,rfl⟩
theorem xd (h:Nat) (w:World) (h0:w.cell? ⟨h,0,none⟩=some (.bool false)) :
  Calls Tryz.prog 47 #[.pointer (some ⟨h,0,none⟩)] w fun e w'=>e=.returned (.bool false)∧w=w':=by
 go_enter Tryz.func47,Tryz.ntmps47
 go_wp2
 go_ret
 exact ⟨rfl,rfl⟩
theorem xJ (tag:ByteArray) (a b:Int) (n:Nat) (h0:0≤a) (h1:b≤9223372036854775000) (hab:b-a=(n:Int)) (w:World) :
  Calls Tryz.prog 46 #[.agg #[.string tag,.int .i64 a,.int .i64 b]] w fun e w'=>e=.returned (.int .i64 (n:Int))∧Below w.heap.size w w':=by
 go_enter Tryz.func46,Tryz.ntmps46
 go_wp2
 go_ret
 exact ⟨rfl,(Below.refl _ w).alloc (Nat.le_refl _) _⟩
abbrev yN (w:World) (v:Vl):World:=(w.alloc (.cells #[.int .i64 v.k,.int .i64 v.n,.string (za v.s)] 56)).alloc (.cells #[.string ⟨#[]⟩,.int .i64 0,.int .i64 0] 92)
theorem yO (w:World) (v:Vl):(yN w v).heap.size=w.heap.size+2∧Below w.heap.size w (yN w v)∧(yN w v).heap[w.heap.size]?=some (.cells #[.int .i64 v.k,.int .i64 v.n,.string (za v.s)] 56 (0,0))∧(yN w v).heap[w.heap.size+1]?=some (.cells #[.string ⟨#[]⟩,.int .i64 0,.int .i64 0] 92 (0,0)):=by
 refine ⟨by simp,((Below.refl _ w).alloc (Nat.le_refl _) _).alloc (by simp) _,?_,?_⟩
 ·rw [Below.heap_alloc _ _ _ (by simp)];exact World.alloc_heap_new _ _
 ·have:=World.alloc_heap_new (w.alloc (.cells #[.int .i64 v.k,.int .i64 v.n,.string (za v.s)] 56)) (.cells #[.string ⟨#[]⟩,.int .i64 0,.int .i64 0] 92)
  simpa using this
abbrev ub:Value:=.agg #[.string ⟨#[]⟩,.int .i64 0,.int .i64 0]
theorem Yh {B N:Nat} {a w:World} (h:Below B a w) (hN:B≤N) (x y z:Value):Below B a (((w.setCell ⟨N,0,none⟩ x).setCell ⟨N,1,none⟩ y).setCell ⟨N,2,none⟩ z) :=
 ((h.setCell (p:=⟨N,0,none⟩) hN x).setCell (p:=⟨N,1,none⟩) hN y).setCell (p:=⟨N,2,none⟩) hN z
theorem Yi {w:World} {N:Nat} {x0 x1 x2:Value} {ty:TypeId} (h:w.heap[N]?=some (.cells #[x0,x1,x2] ty (0,0))) (x y z:Value) :
  (((w.setCell ⟨N,0,none⟩ x).setCell ⟨N,1,none⟩ y).setCell ⟨N,2,none⟩ z).cell? ⟨N,0,none⟩=some x∧(((w.setCell ⟨N,0,none⟩ x).setCell ⟨N,1,none⟩ y).setCell ⟨N,2,none⟩ z).cell? ⟨N,1,none⟩=some y∧(((w.setCell ⟨N,0,none⟩ x).setCell ⟨N,1,none⟩ y).setCell ⟨N,2,none⟩ z).cell? ⟨N,2,none⟩=some z:=by
 obtain ⟨a,b,c,-⟩:=zv (x0:=x) (x1:=y) (x2:=z) (zn (j:=2) z (zn (j:=1) y (zn (j:=0) x h)));exact ⟨a,b,c⟩
theorem VG {S:Nat→Prop} {most:Nat} {os:List Ob} {h:Nat} {vo vc:Value} (v:Vl) (w:World) (H:zA S w most os h vo vc) (hv:zw v) (ht:zQ w) (hno:v.k≠4∨zb v os.length=false) :
  Calls Tryz.prog 45 #[.pointer (some ⟨h,0,none⟩),V5 v] w fun e w'=>e=.returned (.tuple #[ub,.int .i64 2])∧Below w.heap.size w w':=by
 obtain ⟨F,o,D,q⟩:=yO w v;obtain ⟨b,u⟩:∃b,b=yN w v:=⟨_,rfl⟩;rw [←u] at F o D q;have A:=H.below o;have E:=yM b A;have X:=H.lt;obtain ⟨-,-,R,-,-⟩:=Yg A.blk;obtain ⟨ob,oc,M,T,aa⟩:=ym A.objs;subst M;obtain ⟨p0,p1,Y,-⟩:=zv D;have B:Hid (Below w.heap.size w b):=o;have x:=u.symm;have z:Hid (b.heap[w.heap.size+1]?=some (.cells #[.string ⟨#[]⟩,.int .i64 0,.int .i64 0] 92 (0,0))):=q
 by_cases hk:v.k=4
 ·have hr:zb v os.length=false:=by rcases hno with K | K;exact absurd hk K;exact K
  have V:Hid (∀wx,Below b.heap.size b wx→Calls Tryz.prog 15 #[V5 v,.int .i64 (os.length:Int)] wx fun e w''=>e=.returned (.int .i64 2)∧Below b.heap.size b w''):=fun wx hx =>
   (YU v os.length wx hv ((ht.below o (Nat.le_refl _)).below hx (Nat.le_refl _))).mono fun e w'' ⟨he,hb⟩=>⟨by rw [he,hr];rfl,hx.trans (hb.mono hx.size)⟩
  obtain ⟨k,m,s⟩:=v;simp only at hk;subst hk;have x0:=zZ (n:=b.heap.size) p0 (by simp only;omega)
  have x1:=zZ (n:=b.heap.size) p1 (by simp only;omega)
  have x2:=zZ (n:=b.heap.size) Y (by simp only;omega)
  have Z:=zZ (n:=b.heap.size) R (by simp only;omega)
  clear H A o D q u ht hno hv
  unfold yN at x
  go_enter Tryz.func45,Tryz.ntmps45
  go_wp2_with fail
  refine E.mono ?_;clear E;rintro e w3 ⟨rfl,rfl⟩;go_wp2_with fail
  refine Zx (n:=b.heap.size) (w0:=b) (Below.refl _ _) (by kernel_rfl) (by kernel_rfl) ?_
  iterate 10 (go_big_quiet_step (fail))
  go_big_quiet_step (exact ZD V.out _)
  iterate 3 (go_big_quiet_step (fail))
  refine wpQuiet_nil ?_;rintro _ ⟨c,rfl⟩;have q:=(c.2.block (w.heap.size+1) (by omega)).trans z.out
  obtain ⟨U,r1,r2,rf⟩:=zv q;obtain ⟨J,G,I⟩:=Yi q (.string ⟨#[]⟩) (.int .i64 0) (.int .i64 0);have y:Hid (Below w.heap.size w (((c.1.setCell ⟨w.heap.size+1,0,none⟩ (.string ⟨#[]⟩)).setCell ⟨w.heap.size+1,1,none⟩ (.int .i64 0)).setCell ⟨w.heap.size+1,2,none⟩ (.int .i64 0))):=Yh (B.out.trans (c.2.mono (by omega))) (by omega) _ _ _
  clear x0 x1 x2 Z q;go_wp2
  exact bodyPost_ret (v:=.tuple #[ub,.int .i64 2]) (by simp [results,Tryz.results45,go_sem,J,G,I]) rfl ⟨rfl,y.out⟩
 ·obtain ⟨k,m,s⟩:=v
  simp only at hk;have W:(k != 4)=true:=by rw [bne_iff_ne];exact hk
  have O:(k==4)=false:=by rw [beq_eq_false_iff_ne];exact hk
  clear H A o D q u ht hno hv
  unfold yN at x
  go_enter Tryz.func45,Tryz.ntmps45
  go_wp2_with fail
  refine E.mono ?_;clear E;rintro e w3 ⟨rfl,rfl⟩;go_wp2_with fail
  go_quiet (fail)
  have q:(b.drewN nq).heap[w.heap.size+1]?=some (.cells #[.string ⟨#[]⟩,.int .i64 0,.int .i64 0] 92 (0,0)):=z.out;obtain ⟨U,r1,r2,rf⟩:=zv q;obtain ⟨J,G,I⟩:=Yi q (.string ⟨#[]⟩) (.int .i64 0) (.int .i64 0);have y:Hid (Below w.heap.size w ((((b.drewN nq).setCell ⟨w.heap.size+1,0,none⟩ (.string ⟨#[]⟩)).setCell ⟨w.heap.size+1,1,none⟩ (.int .i64 0)).setCell ⟨w.heap.size+1,2,none⟩ (.int .i64 0))):=Yh (Zu B.out nq) (by omega) _ _ _
  clear q;go_wp2
  exact bodyPost_ret (v:=.tuple #[ub,.int .i64 2]) (by simp [results,Tryz.results45,go_sem,J,G,I]) rfl ⟨rfl,y.out⟩
abbrev Z9 (os:List Ob) (i:Nat) (h:i<os.length):Value:=.agg #[.string (za (os[i]).1),.int .i64 ((fromO os i:Nat):Int),.int .i64 ((fromO os i+(os[i]).2.length:Nat):Int)]
theorem xK {S:Nat→Prop} {most:Nat} {os:List Ob} {h:Nat} {vo vc:Value} (i:Nat) (hi:i<os.length) (w:World) (H:zA S w most os h vo vc) :
  Calls Tryz.prog 70 #[.pointer (some ⟨h,0,none⟩),Z9 os i hi] w fun e w'=>∃base,e=.returned (.slice base (os[i]).2.length (os[i]).2.length)∧Below w.heap.size w w'∧(1≤(os[i]).2.length→∃g n cp,vc=.slice (some ⟨g,0,none⟩) n cp∧base=some ⟨g,fromO os i*3,none⟩):=by
 have M:=H.use;have I:=H.may;obtain ⟨hcut,-⟩:=ZV os i hi;obtain ⟨w2,m⟩:∃w2,w2=w.alloc (.cells #[.string (za (os[i]).1),.int .i64 ((fromO os i:Nat):Int),.int .i64 ((fromO os i+(os[i]).2.length:Nat):Int)] 92):=⟨_,rfl⟩;have x:Below w.heap.size w w2:=by rw [m];exact (Below.refl _ w).alloc (Nat.le_refl _) _
 have U:w2.heap[w.heap.size]?=some (.cells #[.string (za (os[i]).1),.int .i64 ((fromO os i:Nat):Int),.int .i64 ((fromO os i+(os[i]).2.length:Nat):Int)] 92 (0,0)):=by rw [m];exact World.alloc_heap_new _ _
 have D:=H.below x;obtain ⟨-,-,-,c3,-⟩:=Yg D.blk;obtain ⟨J,O,c,aa,Y⟩:=ym D.cells
 have q:Hid (J=none∧(zX os).length=0∧O=0∨∃g,J=some ⟨g,0,none⟩):=by
  show _∨_
  rcases D.cells.2 with ⟨G,X⟩ | ⟨g',K,W,G,-⟩
  ·rw [G] at c
   have e:=c;simp only [Value.slice.injEq] at e;exact .inl ⟨e.1.symm,X,e.2.2.symm⟩
  ·rw [G] at c
   simp only [Value.slice.injEq] at c;exact .inr ⟨g',c.1.symm⟩
 subst c;obtain ⟨Z,T,V,-⟩:=zv U;have z:Hid (Below w.heap.size w w2):=x;obtain ⟨n,F⟩:∃n,n=(os[i]).2.length:=⟨_,rfl⟩;obtain ⟨fr,y⟩:∃fr:Nat,fr=fromO os i:=⟨_,rfl⟩;obtain ⟨up,o⟩:∃up:Int,up=((fromO os i+(os[i]).2.length:Nat):Int):=⟨_,rfl⟩;have b:=m.symm
 unfold Z9
 rw [←o] at V b ⊢;rw [←y] at T b hcut ⊢;rw [←F] at hcut ⊢;rw [←y,←F] at o;have u1:(fr:Int)≤up:=by omega
 have u2:up≤(O:Int):=by omega
 have u3:up-(fr:Int)=(n:Int):=by omega
 have u4:(up-(fr:Int)).toNat=n:=by omega
 have A:Hid (up=((fr+n:Nat):Int)):=o;obtain ⟨R,B⟩:∃R,R=(os[i]).1:=⟨_,rfl⟩;rw [←B] at Z b ⊢;obtain ⟨fi,u⟩:∃fi:Int,fi=(fr:Int):=⟨_,rfl⟩;rw [←u] at T b u1 u3 u4 ⊢;have u0:0≤fi:=by omega
 have u5:fi.toNat=fr:=by omega
 have u6:up.toNat-fr=n:=by omega
 clear F y B o m U x D H;rcases q.out with ⟨rfl,E,rfl⟩ | ⟨g,rfl⟩
 ·obtain rfl:n=0:=by omega
  obtain rfl:fi=0:=by omega
  obtain rfl:up=0:=by omega
  clear u0 u1 u2 u3 u4 u5 u6 u A q;rw [E] at c3
  go_enter Tryz.func70,Tryz.ntmps70
  go_wp2_with fail
  go_quiet (fail)
  go_wp2
  go_ret
  exact ⟨_,rfl,Zu z.out _,fun h=>by omega⟩
 ·clear q u A
  rcases Nat.eq_zero_or_pos n with E | E
  ·subst E
   have u7:up.toNat=fr:=by omega
   go_enter Tryz.func70,Tryz.ntmps70
   go_wp2_with fail
   go_quiet (fail)
   go_wp2
   go_ret
   exact ⟨_,rfl,Zu z.out _,fun h=>by omega⟩
  ·have u7:¬ up.toNat=fr:=by omega
   go_enter Tryz.func70,Tryz.ntmps70
   go_wp2_with fail
   go_quiet (fail)
   go_wp2
   go_ret
   exact ⟨_,rfl,Zu z.out _,fun _=>⟨g,_,_,rfl,rfl⟩⟩
def mostN (m:Int):Nat:=(min (max m 0) 4096).toNat
theorem vg (m:Int):((mostN m:Nat):Int)=min (max m 0) 4096:=by unfold mostN;omega
theorem vV (m:Int):mostN m≤4096:=by unfold mostN;omega
theorem zA.made (w:World) (m:Nat) (hm:m≤4096):zA (fun k=>w.heap.size≤k) (w.alloc (.cells #[.bool true,.int .i64 (m:Int),.slice none 0 0,.slice none 0 0] 70)) m [] w.heap.size (.slice none 0 0) (.slice none 0 0) where
 blk:=World.alloc_heap_new _ _
 objs:=World.ownsRow_nil _ _ _ _
 cells:=World.ownsRow_nil _ _ _ _
 sh:=Nat.le_refl _
 so:=fun k e=>by simp [Value.ownBlock] at e
 sc:=fun k e=>by simp [Value.ownBlock] at e
 ok:=fun o ho=>by cases ho
 use:=Nat.zero_le _
 may:=hm
theorem VH (m:Int) (w:World) :
  Calls Tryz.prog 18 #[.int .i64 m] w fun e w'=>e=.returned (.pointer (some ⟨w.heap.size,0,none⟩))∧zA (fun k=>w.heap.size≤k) w' (mostN m) [] w.heap.size (.slice none 0 0) (.slice none 0 0)∧Below w.heap.size w w':=by
 have b:=zA.made w (mostN m) (vV m);rw [vg] at b;have c:Hid (zA (fun k=>w.heap.size≤k) (w.alloc (.cells #[.bool true,.int .i64 (min (max m 0) 4096),.slice none 0 0,.slice none 0 0] 70)) (mostN m) [] w.heap.size (.slice none 0 0) (.slice none 0 0)):=b
 clear b
 go_enter Tryz.func18,Tryz.ntmps18
 go_wp2
 go_ret
 exact ⟨rfl,c.out,(Below.refl _ w).alloc (Nat.le_refl _) _⟩
end Go.Proofs.YtbjndgachcdbcaaGreatDoor
