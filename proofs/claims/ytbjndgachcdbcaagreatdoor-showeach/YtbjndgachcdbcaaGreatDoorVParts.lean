import Derived.Test.YtbjndgachcdbcaaGreatDoorMC18
import Derived.Test.YtbjndgachcdbcaaGreatDoorHLenTag
import Derived.Test.YtbjndgachcdbcaaGreatDoorHNil
import Derived.Test.YtbjndgachcdbcaaGreatDoorShelf
namespace Go.Proofs.YtbjndgachcdbcaaGreatDoor
open Go.RowKit Go.Shelf
set_option maxHeartbeats 16000000
set_option maxRecDepth 100000
structure Yr (w:World):Prop where
 tabs:zD w
 names:∀j (h:j<ZW.length),w.cell? ⟨0,j,none⟩=some (.string (za ZW[j]))
 long:∃m,w.cell? ⟨1,0,none⟩=some (.int .i64 m)
theorem Yr.below {w w':World} {B:Nat} (h:Yr w) (hb:Below B w w') (hB:w.heap.size≤B):Yr w':=by
 have b:∀{p:Addr} {v:Value},w.cell? p=some v→w'.cell? p=some v:=fun {p v} hp=>by
  rw [hb.cell (Nat.lt_of_lt_of_le (World.block_lt_of_cell? w _ hp) hB)];exact hp
 exact ⟨h.tabs.below hb hB,fun j hj=>b (h.names j hj),by obtain ⟨m,c⟩:=h.long;exact ⟨m,b c⟩⟩
theorem xu (n:Int) (hn:Zu n) (w:World) (ht:zD w):Calls Tryz.prog 38 #[.int .i64 n] w fun e w'=>e=.returned (.string (za (Lib.itoa n)))∧Below w.heap.size w w':=by
 refine (Tryz.strconv_Itoa n hn.1 hn.2 w ht.2).mono ?_;rintro e w' ⟨c,q,os,b⟩;refine ⟨c,?_⟩;rw [b];exact Lib.below_grow w.heap.size w (Nat.le_refl _) q os
theorem yk (f:Int) (w:World) (ht:Yr w):Calls Tryz.prog 8 #[.int .i64 f] w fun e w'=>e=.returned (.string (za (zP f)))∧w=w':=by
 by_cases h0:f<0
 ·have b:zP f=[]:=by unfold zP;rw [if_pos (.inl h0)]
  rw [b]
  go_enter Tryz.func8,Tryz.ntmps8
  go_wp2
  go_ret
  exact ⟨rfl,rfl⟩
 ·by_cases h1:11≤f
  ·have b:zP f=[]:=by unfold zP;rw [if_pos (.inr h1)]
   rw [b]
   go_enter Tryz.func8,Tryz.ntmps8
   go_wp2
   go_ret
   exact ⟨rfl,rfl⟩
  ·have h:f=0∨f=1∨f=2∨f=3∨f=4∨f=5∨f=6∨f=7∨f=8∨f=9∨f=10:=by omega
   have B:=ht.names 0 (by decide)
   have z:=ht.names 1 (by decide)
   have E:=ht.names 2 (by decide)
   have A:=ht.names 3 (by decide)
   have u:=ht.names 4 (by decide)
   have D:=ht.names 5 (by decide)
   have m:=ht.names 6 (by decide)
   have o:=ht.names 7 (by decide)
   have q:=ht.names 8 (by decide)
   have y:=ht.names 9 (by decide)
   have c:=ht.names 10 (by decide)
   clear ht h0 h1;rcases h with rfl | rfl | rfl | rfl | rfl | rfl | rfl | rfl | rfl | rfl | rfl
   all_goals
    go_enter Tryz.func8,Tryz.ntmps8
    go_wp2
    go_ret
    exact ⟨rfl,rfl⟩
theorem Vk {S:Nat→Prop} {most:Nat} {os:List Ob} {h:Nat} {vo vc:Value} (w:World) (H:zw S w most os h vo vc) (ht:zD w) :
  Calls Tryz.prog 22 #[.pointer (some ⟨h,0,none⟩)] w fun e w'=>e=.returned (.bool true)∧Below w.heap.size w w':=by
 have c:=Ui ⟨0,0,[]⟩ w H (by simp [zq]) ht (by simp [XZ])
 clear H ht
 go_enter Tryz.func22,Tryz.ntmps22
 go_wp2_with fail
 refine c.mono ?_;clear c;rintro e w1 ⟨rfl,b⟩;have m:Hid (Below w.heap.size w w1):=b;clear b;go_wp2
 go_ret
 exact ⟨rfl,m.out⟩
end Go.Proofs.YtbjndgachcdbcaaGreatDoor
