import Derived.Test.YtbjndgachcdbcaaGreatDoorVLives
namespace Go.Proofs.YtbjndgachcdbcaaGreatDoor
open Go.RowKit Go.Shelf
set_option maxHeartbeats 16000000
set_option maxRecDepth 100000
theorem Xg (v:Vw) (bf bs:Option Addr) (nf cf ns cs:Nat) (w:World) (ht:Yc w) :
  Calls Tryz.prog 7 #[VO (.slice bf nf cf) (.slice bs ns cs) v] w fun e w'=>e=.returned (.bool true)∧Below w.heap.size w w':=by
 obtain ⟨w1,m,q,U,X⟩:=Z5 w (.cells #[.int .i64 v.look.pos,.int .i64 v.look.status,.int .i64 v.look.fault,.slice bf nf cf,.string (za v.look.out),.int .i64 v.sel,.slice bs ns cs,.int .i64 v.last.err,.int .i64 v.last.n,.string (za v.last.says)] 35);have u:Hid (w1=w.alloc (.cells #[.int .i64 v.look.pos,.int .i64 v.look.status,.int .i64 v.look.fault,.slice bf nf cf,.string (za v.look.out),.int .i64 v.sel,.slice bs ns cs,.int .i64 v.last.err,.int .i64 v.last.n,.string (za v.last.says)] 35)):=m;have h:Hid (Below w.heap.size w w1):=q;have HT:Hid (Yc w):=ht;have x:Hid _:=X;have cl:=Y6 v bf bs nf cf ns cs w1;have Y:Hid (∀W,Calls Tryz.prog 14 #[VO (.slice bf nf cf) (.slice bs ns cs) v,.pointer none] W fun e w'=>e=.returned (.tuple #[.slice none 0 0,.int .i64 1])∧Below W.heap.size W w'):=fun W=>vD v bf bs nf cf ns cs W
 obtain ⟨O,I,B,M,E,K,D,F,A,H⟩:=zu X;obtain ⟨⟨ad,G,R,J,af⟩,ab,V,⟨ae,n,aa⟩⟩:=v;simp only at O I B M E K D F A H u;clear m q X U ht
 go_enter Tryz.func7,Tryz.ntmps7
 go_wp2_with fail
 rw [←u.out];refine cl.mono ?_;clear cl O I B M E K D F A H;rintro e Z ⟨rfl,c⟩;have z:Hid (Below w.heap.size w Z):=h.out.trans (c.mono h.out.size);obtain ⟨O,I,B,M,E,K,D,F,A,H⟩:=zu ((c.block _ (zc x.out)).trans x.out);clear c;have cb:=Y.out Z;go_wp2_with fail
 refine cb.mono ?_;clear cb O I B M E K D F A H;rintro e w3 ⟨rfl,y⟩;have b:Hid (Below w.heap.size w w3):=z.out.trans (y.mono z.out.size);clear y;have cv:=Xf w3 (HT.out.below b.out (Nat.le_refl _));go_wp2_with fail
 refine cv.mono ?_;clear cv;rintro e w4 ⟨rfl,o⟩;have T:Hid (Below w.heap.size w w4):=b.out.trans (o.mono b.out.size);clear o;go_wp2
 go_ret
 exact ⟨rfl,T.out⟩
end Go.Proofs.YtbjndgachcdbcaaGreatDoor
