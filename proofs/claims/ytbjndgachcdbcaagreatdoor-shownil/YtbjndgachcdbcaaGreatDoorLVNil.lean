import Derived.Test.YtbjndgachcdbcaaGreatDoorVLives
namespace Go.Proofs.YtbjndgachcdbcaaGreatDoor
open Go.RowKit Go.Shelf
set_option maxHeartbeats 16000000
set_option maxRecDepth 100000
theorem Xg (v:Vw) (bf bs:Option Addr) (nf cf ns cs:Nat) (w:World) (ht:Yc w) :
  Calls Tryz.prog 7 #[VO (.slice bf nf cf) (.slice bs ns cs) v] w fun e w'=>e=.returned (.bool true)∧Below w.heap.size w w':=by
 obtain ⟨w1,h,z,V,U⟩:=Z5 w (.cells #[.int .i64 v.look.pos,.int .i64 v.look.status,.int .i64 v.look.fault,.slice bf nf cf,.string (za v.look.out),.int .i64 v.sel,.slice bs ns cs,.int .i64 v.last.err,.int .i64 v.last.n,.string (za v.last.says)] 35);have q:Hid (w1=w.alloc (.cells #[.int .i64 v.look.pos,.int .i64 v.look.status,.int .i64 v.look.fault,.slice bf nf cf,.string (za v.look.out),.int .i64 v.sel,.slice bs ns cs,.int .i64 v.last.err,.int .i64 v.last.n,.string (za v.last.says)] 35)):=h;have m:Hid (Below w.heap.size w w1):=z;have HT:Hid (Yc w):=ht;have y:Hid _:=U;have cl:=Y6 v bf bs nf cf ns cs w1;have T:Hid (∀W,Calls Tryz.prog 14 #[VO (.slice bf nf cf) (.slice bs ns cs) v,.pointer none] W fun e w'=>e=.returned (.tuple #[.slice none 0 0,.int .i64 1])∧Below W.heap.size W w'):=fun W=>vD v bf bs nf cf ns cs W
 obtain ⟨J,O,G,A,H,F,I,E,M,B⟩:=zu U;obtain ⟨⟨ad,K,R,D,af⟩,ab,X,⟨ae,n,aa⟩⟩:=v;simp only at J O G A H F I E M B q;clear h z U V ht
 go_enter Tryz.func7,Tryz.ntmps7
 go_wp2_with fail
 rw [←q.out];refine cl.mono ?_;clear cl J O G A H F I E M B;rintro e w2 ⟨rfl,c⟩;have u:Hid (Below w.heap.size w w2):=m.out.trans (c.mono m.out.size);obtain ⟨J,O,G,A,H,F,I,E,M,B⟩:=zu ((c.block _ (zc y.out)).trans y.out);clear c;have Z:=T.out w2;go_wp2_with fail
 refine Z.mono ?_;clear Z J O G A H F I E M B;rintro e w3 ⟨rfl,o⟩;have b:Hid (Below w.heap.size w w3):=u.out.trans (o.mono u.out.size);clear o;have cv:=Xf w3 (HT.out.below b.out (Nat.le_refl _));go_wp2_with fail
 refine cv.mono ?_;clear cv;rintro e w4 ⟨rfl,x⟩;have Y:Hid (Below w.heap.size w w4):=b.out.trans (x.mono b.out.size);clear x;go_wp2
 go_ret
 exact ⟨rfl,Y.out⟩
end Go.Proofs.YtbjndgachcdbcaaGreatDoor
