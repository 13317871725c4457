import Derived.Test.YtbjndgachcdbcaaGreatDoorVLives
namespace Go.Proofs.YtbjndgachcdbcaaGreatDoor
open Go.RowKit Go.Shelf
set_option maxHeartbeats 16000000
set_option maxRecDepth 100000
theorem Yo (f:Int) (w:World):Calls Tryz.prog 9 #[.int .i64 f] w fun e w'=>e=.returned (.string (za (zw f)))∧Below w.heap.size w w':=by
 have b:Below w.heap.size w (w.alloc (.cells #[.string ⟨#[]⟩,.string ⟨#[100,105,118,105,115,105,111,110]⟩,.string ⟨#[105,110,100,101,120]⟩,.string ⟨#[115,105,122,101]⟩,.string ⟨#[116,101,120,116]⟩,.string ⟨#[105,110,112,117,116]⟩,.string ⟨#[104,101,97,112]⟩,.string ⟨#[102,114,97,109,101,115]⟩,.string ⟨#[111,117,116,112,117,116]⟩,.string ⟨#[115,116,101,112,115]⟩,.string ⟨#[107,105,110,100]⟩] 9)):=(Below.refl _ _).alloc (Nat.le_refl _) _;have c:Hid _:=b
 by_cases h0:f<0
 ·have h:zw f=[]:=by unfold zw;rw [if_pos (.inl h0)]
  rw [h];clear b
  go_enter Tryz.func9,Tryz.ntmps9
  go_wp2
  go_ret
  exact ⟨rfl,c.out⟩
 ·by_cases h1:11≤f
  ·have h:zw f=[]:=by unfold zw;rw [if_pos (.inr h1)]
   rw [h];clear b
   go_enter Tryz.func9,Tryz.ntmps9
   go_wp2
   go_ret
   exact ⟨rfl,c.out⟩
  ·have m:f=0∨f=1∨f=2∨f=3∨f=4∨f=5∨f=6∨f=7∨f=8∨f=9∨f=10:=by omega
   clear h0 h1 b;rcases m with rfl | rfl | rfl | rfl | rfl | rfl | rfl | rfl | rfl | rfl | rfl
   all_goals
    go_enter Tryz.func9,Tryz.ntmps9
    go_wp2
    go_ret
    exact ⟨rfl,c.out⟩
theorem Yp (n:Int) (w:World) (ht:yW w) :
  Calls Tryz.prog 3 #[.int .i64 n] w fun e w'=>e=.returned (.bool true)∧Below w.heap.size w w':=by
 have A:Hid (yW w):=ht;have q:=ZI n w ht;have m:=Yo n w;obtain ⟨F,u⟩:∃F,F=zw n:=⟨_,rfl⟩;rw [←u] at q m;clear u ht
 go_enter Tryz.func3,Tryz.ntmps3
 go_wp2_with fail
 refine q.mono ?_;clear q;rintro e w1 ⟨rfl,rfl⟩;go_wp2_with fail
 refine m.mono ?_;clear m;rintro e x ⟨rfl,c⟩;have b:Hid (Below w.heap.size w x):=c;clear c;have y:=xR x (A.out.below b.out (Nat.le_refl _));go_wp2_with fail
 refine y.mono ?_;clear y;rintro e z ⟨rfl,h⟩;have o:Hid (Below w.heap.size w z):=b.out.trans (h.mono b.out.size);clear h;go_wp2
 go_ret
 exact ⟨rfl,o.out⟩
end Go.Proofs.YtbjndgachcdbcaaGreatDoor
