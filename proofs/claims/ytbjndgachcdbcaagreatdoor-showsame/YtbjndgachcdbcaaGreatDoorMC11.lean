import Derived.Test.YtbjndgachcdbcaaGreatDoorMC10
import Derived.Test.YtbjndgachcdbcaaGreatDoorWAll
import Derived.BigRegion
import Derived.Lib.MinMax
namespace Go.Proofs.YtbjndgachcdbcaaGreatDoor
open Go.RowKit Go.Shelf
set_option maxHeartbeats 16000000
set_option maxRecDepth 100000
theorem ZJ {n:Nat} {w w':World} (h:Below n w w') (k:Nat):Below n w (w'.drewN k):=h.trans (⟨rfl,rfl,rfl,Nat.le_refl _,fun _ _=>rfl⟩:Below n w' (w'.drewN k))
theorem Yp {S:Nat→Prop} {most:Nat} {os:List Ob} {h:Nat} {vo vc:Value} (w:World) (H:zs S w most os h vo vc) :
  Calls Tryz.prog 47 #[.pointer (some ⟨h,0,none⟩)] w fun e w'=>e=.returned (.bool true)∧w=w':=by
 obtain ⟨b,-,-,-,-⟩:=Zy H.blk;clear H
 go_enter Tryz.func47,Tryz.ntmps47
 go_wp2
 go_ret
 exact ⟨rfl,rfl⟩
theorem uj (tag:ByteArray) (b:Option Addr) (n c:Nat) (hn:n≤9223372036854775000) (w:World) :
  Calls Tryz.prog 20 #[.agg #[.string tag,.slice b n c]] w fun e w'=>e=.returned (.int .i64 (1+(n:Int)))∧Below w.heap.size w w':=by
 go_enter Tryz.func20,Tryz.ntmps20
 go_wp2
 go_ret
 exact ⟨rfl,(Below.refl _ w).alloc (Nat.le_refl _) _⟩
theorem uk (tag:ByteArray) (a b:Int) (n:Nat) (h0:0≤a) (h1:b≤9223372036854775000) (hab:b-a=(n:Int)) (w:World) :
  Calls Tryz.prog 46 #[.agg #[.string tag,.int .i64 a,.int .i64 b]] w fun e w'=>e=.returned (.int .i64 (n:Int))∧Below w.heap.size w w':=by
 go_enter Tryz.func46,Tryz.ntmps46
 go_wp2
 go_ret
 exact ⟨rfl,(Below.refl _ w).alloc (Nat.le_refl _) _⟩
abbrev YP (w:World) (v:Vl):World:=(w.alloc (.cells #[.int .i64 v.k,.int .i64 v.n,.string (za v.s)] 56)).alloc (.cells #[.string ⟨#[]⟩,.int .i64 0,.int .i64 0] 92)
theorem XB (w:World) (v:Vl):(YP w v).heap.size=w.heap.size+2∧Below w.heap.size w (YP w v)∧(YP w v).heap[w.heap.size]?=some (.cells #[.int .i64 v.k,.int .i64 v.n,.string (za v.s)] 56 (0,0))∧(YP w v).heap[w.heap.size+1]?=some (.cells #[.string ⟨#[]⟩,.int .i64 0,.int .i64 0] 92 (0,0)):=by
 refine ⟨by simp,((Below.refl _ w).alloc (Nat.le_refl _) _).alloc (by simp) _,?_,?_⟩
 ·rw [Below.heap_alloc _ _ _ (by simp)];exact World.alloc_heap_new _ _
 ·have:=World.alloc_heap_new (w.alloc (.cells #[.int .i64 v.k,.int .i64 v.n,.string (za v.s)] 56)) (.cells #[.string ⟨#[]⟩,.int .i64 0,.int .i64 0] 92)
  simpa using this
abbrev UT:Value:=.agg #[.string ⟨#[]⟩,.int .i64 0,.int .i64 0]
theorem YQ {B N:Nat} {a w:World} (h:Below B a w) (hN:B≤N) (x y z:Value):Below B a (((w.setCell ⟨N,0,none⟩ x).setCell ⟨N,1,none⟩ y).setCell ⟨N,2,none⟩ z) :=
 ((h.setCell (p:=⟨N,0,none⟩) hN x).setCell (p:=⟨N,1,none⟩) hN y).setCell (p:=⟨N,2,none⟩) hN z
theorem YR {w:World} {N:Nat} {x0 x1 x2:Value} {ty:TypeId} (h:w.heap[N]?=some (.cells #[x0,x1,x2] ty (0,0))) (x y z:Value) :
  (((w.setCell ⟨N,0,none⟩ x).setCell ⟨N,1,none⟩ y).setCell ⟨N,2,none⟩ z).cell? ⟨N,0,none⟩=some x∧(((w.setCell ⟨N,0,none⟩ x).setCell ⟨N,1,none⟩ y).setCell ⟨N,2,none⟩ z).cell? ⟨N,1,none⟩=some y∧(((w.setCell ⟨N,0,none⟩ x).setCell ⟨N,1,none⟩ y).setCell ⟨N,2,none⟩ z).cell? ⟨N,2,none⟩=some z:=by
 obtain ⟨a,b,c,-⟩:=zt (x0:=x) (x1:=y) (x2:=z) (zi (j:=2) z (zi (j:=1) y (zi (j:=0) x h)));exact ⟨a,b,c⟩
theorem Ud {S:Nat→Prop} {most:Nat} {os:List Ob} {h:Nat} {vo vc:Value} (v:Vl) (w:World) (H:zs S w most os h vo vc) (hv:zr v) (ht:zJ w) (hno:v.k≠4∨rightV v os.length=false) :
  Calls Tryz.prog 45 #[.pointer (some ⟨h,0,none⟩),Uc v] w fun e w'=>e=.returned (.tuple #[UT,.int .i64 2])∧Below w.heap.size w w':=by
 obtain ⟨M,o,E,q⟩:=XB w v;obtain ⟨b,u⟩:∃b,b=YP w v:=⟨_,rfl⟩;rw [←u] at M o E q;have D:=H.below o;have F:=Yp b D;have aa:=H.lt;obtain ⟨-,-,V,-,-⟩:=Zy D.blk;obtain ⟨ob,oc,K,Y,ab⟩:=zT D.objs;subst K;obtain ⟨Z,U,p2,-⟩:=zt E;have B:Hid (Below w.heap.size w b):=o;have y:=u.symm;have A:Hid (b.heap[w.heap.size+1]?=some (.cells #[.string ⟨#[]⟩,.int .i64 0,.int .i64 0] 92 (0,0))):=q
 by_cases hk:v.k=4
 ·have hr:rightV v os.length=false:=by rcases hno with I | I;exact absurd hk I;exact I
  have HC:Hid (∀wx,Below b.heap.size b wx→Calls Tryz.prog 15 #[Uc v,.int .i64 (os.length:Int)] wx fun e w''=>e=.returned (.int .i64 2)∧Below b.heap.size b w''):=fun wx hx =>
   (yj v os.length wx hv ((ht.below o (Nat.le_refl _)).below hx (Nat.le_refl _))).mono fun e w'' ⟨he,hb⟩=>⟨by rw [he,hr];rfl,hx.trans (hb.mono hx.size)⟩
  obtain ⟨k,m,s⟩:=v;simp only at hk;subst hk;have x0:=Zh (n:=b.heap.size) Z (by simp only;omega)
  have x1:=Zh (n:=b.heap.size) U (by simp only;omega)
  have x2:=Zh (n:=b.heap.size) p2 (by simp only;omega)
  have x3:=Zh (n:=b.heap.size) V (by simp only;omega)
  clear H D o E q u ht hno hv
  unfold YP at y
  go_enter Tryz.func45,Tryz.ntmps45
  go_wp2_with fail
  refine F.mono ?_;clear F;rintro e T ⟨rfl,rfl⟩;go_wp2_with fail
  refine ZM (n:=b.heap.size) (w0:=b) (Below.refl _ _) (by kernel_rfl) (by kernel_rfl) ?_
  iterate 10 (go_big_quiet_step (fail))
  go_big_quiet_step (exact ZT HC.out _)
  iterate 3 (go_big_quiet_step (fail))
  refine wpQuiet_nil ?_;rintro _ ⟨c,rfl⟩;have q:=(c.2.block (w.heap.size+1) (by omega)).trans A.out
  obtain ⟨r0,X,r2,W⟩:=zt q;obtain ⟨O,G,J⟩:=YR q (.string ⟨#[]⟩) (.int .i64 0) (.int .i64 0);have z:Hid (Below w.heap.size w (((c.1.setCell ⟨w.heap.size+1,0,none⟩ (.string ⟨#[]⟩)).setCell ⟨w.heap.size+1,1,none⟩ (.int .i64 0)).setCell ⟨w.heap.size+1,2,none⟩ (.int .i64 0))):=YQ (B.out.trans (c.2.mono (by omega))) (by omega) _ _ _
  clear x0 x1 x2 x3 q;go_wp2
  exact bodyPost_ret (v:=.tuple #[UT,.int .i64 2]) (by simp [results,Tryz.results45,go_sem,O,G,J]) rfl ⟨rfl,z.out⟩
 ·obtain ⟨k,m,s⟩:=v
  simp only at hk;have ad:(k != 4)=true:=by rw [bne_iff_ne];exact hk
  have R:(k==4)=false:=by rw [beq_eq_false_iff_ne];exact hk
  clear H D o E q u ht hno hv
  unfold YP at y
  go_enter Tryz.func45,Tryz.ntmps45
  go_wp2_with fail
  refine F.mono ?_;clear F;rintro e T ⟨rfl,rfl⟩;go_wp2_with fail
  go_quiet (fail)
  have q:(b.drewN nq).heap[w.heap.size+1]?=some (.cells #[.string ⟨#[]⟩,.int .i64 0,.int .i64 0] 92 (0,0)):=A.out;obtain ⟨r0,X,r2,W⟩:=zt q;obtain ⟨O,G,J⟩:=YR q (.string ⟨#[]⟩) (.int .i64 0) (.int .i64 0);have z:Hid (Below w.heap.size w ((((b.drewN nq).setCell ⟨w.heap.size+1,0,none⟩ (.string ⟨#[]⟩)).setCell ⟨w.heap.size+1,1,none⟩ (.int .i64 0)).setCell ⟨w.heap.size+1,2,none⟩ (.int .i64 0))):=YQ (ZJ B.out nq) (by omega) _ _ _
  clear q;go_wp2
  exact bodyPost_ret (v:=.tuple #[UT,.int .i64 2]) (by simp [results,Tryz.results45,go_sem,O,G,J]) rfl ⟨rfl,z.out⟩
abbrev yB (os:List Ob) (i:Nat) (h:i<os.length):Value:=.agg #[.string (za (os[i]).1),.int .i64 ((fromO os i:Nat):Int),.int .i64 ((fromO os i+(os[i]).2.length:Nat):Int)]
theorem XC {S:Nat→Prop} {most:Nat} {os:List Ob} {h:Nat} {vo vc:Value} (i:Nat) (hi:i<os.length) (w:World) (H:zs S w most os h vo vc) :
  Calls Tryz.prog 70 #[.pointer (some ⟨h,0,none⟩),yB os i hi] w fun e w'=>∃base,e=.returned (.slice base (os[i]).2.length (os[i]).2.length)∧Below w.heap.size w w'∧(1≤(os[i]).2.length→∃g n cp,vc=.slice (some ⟨g,0,none⟩) n cp∧base=some ⟨g,fromO os i*3,none⟩):=by
 have O:=H.use;have U:=H.may;obtain ⟨hcut,-⟩:=ZX os i hi;obtain ⟨w2,m⟩:∃w2,w2=w.alloc (.cells #[.string (za (os[i]).1),.int .i64 ((fromO os i:Nat):Int),.int .i64 ((fromO os i+(os[i]).2.length:Nat):Int)] 92):=⟨_,rfl⟩;have u:Below w.heap.size w w2:=by rw [m];exact (Below.refl _ w).alloc (Nat.le_refl _) _
 have T:w2.heap[w.heap.size]?=some (.cells #[.string (za (os[i]).1),.int .i64 ((fromO os i:Nat):Int),.int .i64 ((fromO os i+(os[i]).2.length:Nat):Int)] 92 (0,0)):=by rw [m];exact World.alloc_heap_new _ _
 have E:=H.below u;obtain ⟨-,-,-,X,-⟩:=Zy E.blk;obtain ⟨K,M,c,ab,Y⟩:=zT E.cells
 have A:Hid (K=none∧(zq os).length=0∧M=0∨∃g,K=some ⟨g,0,none⟩):=by
  show _∨_
  rcases E.cells.2 with ⟨G,Z⟩ | ⟨W,R,aa,G,-⟩
  ·rw [G] at c
   have e:=c;simp only [Value.slice.injEq] at e;exact .inl ⟨e.1.symm,Z,e.2.2.symm⟩
  ·rw [G] at c
   simp only [Value.slice.injEq] at c;exact .inr ⟨W,c.1.symm⟩
 subst c;obtain ⟨p0,J,p2,-⟩:=zt T;have q:Hid (Below w.heap.size w w2):=u;obtain ⟨n,I⟩:∃n,n=(os[i]).2.length:=⟨_,rfl⟩;obtain ⟨fr,z⟩:∃fr:Nat,fr=fromO os i:=⟨_,rfl⟩;obtain ⟨up,o⟩:∃up:Int,up=((fromO os i+(os[i]).2.length:Nat):Int):=⟨_,rfl⟩;have b:=m.symm
 unfold yB
 rw [←o] at p2 b ⊢;rw [←z] at J b hcut ⊢;rw [←I] at hcut ⊢;rw [←z,←I] at o;have u1:(fr:Int)≤up:=by omega
 have u2:up≤(M:Int):=by omega
 have u3:up-(fr:Int)=(n:Int):=by omega
 have u4:(up-(fr:Int)).toNat=n:=by omega
 have B:Hid (up=((fr+n:Nat):Int)):=o;obtain ⟨V,D⟩:∃V,V=(os[i]).1:=⟨_,rfl⟩;rw [←D] at p0 b ⊢;obtain ⟨fi,y⟩:∃fi:Int,fi=(fr:Int):=⟨_,rfl⟩;rw [←y] at J b u1 u3 u4 ⊢;have u0:0≤fi:=by omega
 have u5:fi.toNat=fr:=by omega
 have u6:up.toNat-fr=n:=by omega
 clear I z D o m T u E H;rcases A.out with ⟨rfl,F,rfl⟩ | ⟨g,rfl⟩
 ·obtain rfl:n=0:=by omega
  obtain rfl:fi=0:=by omega
  obtain rfl:up=0:=by omega
  clear u0 u1 u2 u3 u4 u5 u6 y B A;rw [F] at X
  go_enter Tryz.func70,Tryz.ntmps70
  go_wp2_with fail
  go_quiet (fail)
  go_wp2
  go_ret
  exact ⟨_,rfl,ZJ q.out _,fun h=>by omega⟩
 ·clear A y B
  rcases Nat.eq_zero_or_pos n with F | F
  ·subst F
   have u7:up.toNat=fr:=by omega
   go_enter Tryz.func70,Tryz.ntmps70
   go_wp2_with fail
   go_quiet (fail)
   go_wp2
   go_ret
   exact ⟨_,rfl,ZJ q.out _,fun h=>by omega⟩
  ·have u7:¬ up.toNat=fr:=by omega
   go_enter Tryz.func70,Tryz.ntmps70
   go_wp2_with fail
   go_quiet (fail)
   go_wp2
   go_ret
   exact ⟨_,rfl,ZJ q.out _,fun _=>⟨g,_,_,rfl,rfl⟩⟩
def mostN (m:Int):Nat:=(min (max m 0) 4096).toNat
theorem VH (m:Int):((mostN m:Nat):Int)=min (max m 0) 4096:=by unfold mostN;omega
theorem XD (m:Int):mostN m≤4096:=by unfold mostN;omega
theorem zs.made (w:World) (m:Nat) (hm:m≤4096):zs (fun k=>w.heap.size≤k) (w.alloc (.cells #[.bool true,.int .i64 (m:Int),.slice none 0 0,.slice none 0 0] 70)) m [] w.heap.size (.slice none 0 0) (.slice none 0 0) where
 blk:=World.alloc_heap_new _ _
 objs:=World.ownsRow_nil _ _ _ _
 cells:=World.ownsRow_nil _ _ _ _
 sh:=Nat.le_refl _
 so:=fun k e=>by simp [Value.ownBlock] at e
 sc:=fun k e=>by simp [Value.ownBlock] at e
 ok:=fun o ho=>by cases ho
 use:=Nat.zero_le _
 may:=hm
theorem Vh (m:Int) (w:World) :
  Calls Tryz.prog 18 #[.int .i64 m] w fun e w'=>e=.returned (.pointer (some ⟨w.heap.size,0,none⟩))∧zs (fun k=>w.heap.size≤k) w' (mostN m) [] w.heap.size (.slice none 0 0) (.slice none 0 0)∧Below w.heap.size w w':=by
 have c:=zs.made w (mostN m) (XD m);rw [VH] at c;have b:Hid (zs (fun k=>w.heap.size≤k) (w.alloc (.cells #[.bool true,.int .i64 (min (max m 0) 4096),.slice none 0 0,.slice none 0 0] 70)) (mostN m) [] w.heap.size (.slice none 0 0) (.slice none 0 0)):=c
 clear c
 go_enter Tryz.func18,Tryz.ntmps18
 go_wp2
 go_ret
 exact ⟨rfl,b.out,(Below.refl _ w).alloc (Nat.le_refl _) _⟩
end Go.Proofs.YtbjndgachcdbcaaGreatDoor
