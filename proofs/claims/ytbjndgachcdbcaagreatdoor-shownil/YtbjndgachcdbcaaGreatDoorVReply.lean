import Derived.Test.YtbjndgachcdbcaaGreatDoorVPlace
import Derived.Deep.DeepCutAuto
namespace Go.Proofs.YtbjndgachcdbcaaGreatDoor
open Go.RowKit Go.Shelf
set_option maxHeartbeats 16000000
set_option maxRecDepth 100000
theorem YL (err n:Int) (says:List UInt8) (w:World) (he:Zm err) (hn:Zm n) (hs:says.length≤1048576) (ht:Yc w) :
  Calls Tryz.prog 30 #[uH err n says] w fun e w'=>e=.returned (.string (za (ZB err n says)))∧Below w.heap.size w w':=by
 obtain ⟨w1,H,o,z,h0⟩:=Z5 w (.cells #[.int .i64 err,.int .i64 n,.string (za says)] 33);have ab:Hid (w1=w.alloc (.cells #[.int .i64 err,.int .i64 n,.string (za says)] 33)):=H;have F:w1.heap.size=w.heap.size+1:=z.out;have U:Hid (ZB err n says=zB (Ys err n says).flatten):=rfl;have M:Hid (Ys err n says=(if err≠0 then [[101,114,114,111,114,32],Lib.itoa err] else [[111,107]])++(if n≠0 then [[32],Lib.itoa n] else [])++(if says≠[] then [[32],says] else [])):=rfl
 obtain ⟨L,hL⟩:∃L,L=Ys err n says:=⟨_,rfl⟩;obtain ⟨R,hR⟩:∃R,R=ZB err n says:=⟨_,rfl⟩;rw [←hL] at U M;rw [←hR] at U ⊢
 have ad:Hid (L.flatten.length≤70368744177664):=by
  have h1:=ZK err he.1 he.2;have h2:=ZK n hn.1 hn.2;show _≤_
  rw [M.out]
  split <;> split <;> split <;> simp <;> omega
 obtain ⟨I,X⟩:∃I,I=Lib.itoa err:=⟨_,rfl⟩;obtain ⟨J,hJ⟩:∃J,J=Lib.itoa n:=⟨_,rfl⟩;rw [←X,←hJ] at M
 have ag:Hid (∀W,Below w.heap.size w W→Calls Tryz.prog 38 #[.int .i64 err] W fun e w'=>e=.returned (.string (za I))∧Below W.heap.size W w'):=fun W hW=>by
  rw [X];exact Y2 err he W (ht.below hW (Nat.le_refl _)).tabs
 have aa:Hid (∀W,Below w.heap.size w W→Calls Tryz.prog 38 #[.int .i64 n] W fun e w'=>e=.returned (.string (za J))∧Below W.heap.size W w'):=fun W hW=>by
  rw [hJ];exact Y2 n hn W (ht.below hW (Nat.le_refl _)).tabs
 obtain ⟨P1,u⟩:∃P1,P1=if err≠0 then [[101,114,114,111,114,32],I] else [[111,107]]:=⟨_,rfl⟩
 obtain ⟨y,x⟩:∃y,y=if n≠0 then P1++[[32],J] else P1:=⟨_,rfl⟩
 have D:Hid (L=if says≠[] then y++[[32],says] else y):=by
  show _=_
  rw [M.out,x,u]
  split <;> split <;> split <;> simp
 have G:Hid (P1=if err≠0 then [[101,114,114,111,114,32],I] else [[111,107]]):=u
 have O:Hid (y=if n≠0 then P1++[[32],J] else P1):=x
 have ah:P1.length≤2:=by rw [u];split <;> simp
 have ak:y.length≤4:=by
  rw [x]
  split
  ·rw [List.length_append];simp;omega
  ·omega
 have ai:Hid (yS w w1 w.heap.size #[.int .i64 err,.int .i64 n,.string (za says)] 33 (.slice none 0 0) []):=⟨zj.nil _ _ _ o o.size,h0,ht⟩
 have h:Hid (yS w (w1.alloc (.cells #[.string ⟨#[111,107]⟩] 9)) w.heap.size #[.int .i64 err,.int .i64 n,.string (za says)] 33 (.slice (some ⟨w1.heap.size,0,none⟩) 1 1) [[111,107]]) :=
  ⟨zj.lit w.heap.size w w1 [[111,107]] o o.size (by decide),(Below.heap_alloc _ _ _ (by omega)).trans h0,ht⟩
 rw [F] at h;have HZ:Hid (w1.heap.size=w.heap.size+1):=z;obtain ⟨p0,Z,V⟩:=Zg h.out.blk;clear hL hR ht he hn z X hJ u x M H o h0 F
 go_enter Tryz.func30,Tryz.ntmps30
 go_upto_region 2 with fail
 rw [←ab.out];generalize w1.alloc (.cells #[.string ⟨#[111,107]⟩] 9)=w2 at h p0 Z V ⊢
 go_upto_if 7 with fail
 go_cut [3] (fun t wx=>yS w wx w.heap.size #[.int .i64 err,.int .i64 n,.string (za says)] 33 t P1)
 case first =>
  by_cases e0:err=0
  ·subst e0
   go_wp2_with fail
   go_meet
   rw [G.out,if_neg (by simp)]
   exact h.out
  ·have hq:(err==0)=false:=by rw [beq_eq_false_iff_ne];exact e0
   have c:=ag.out w2 h.out.strs.below;go_wp2_with fail
   refine c.mono ?_;clear c p0 Z V;rintro e w3 ⟨rfl,T⟩;have b:=h.out.new T;go_wp2_with fail
   go_meet
   rw [G.out,if_pos e0];exact ⟨zj.lit w.heap.size w w3 [[101,114,114,111,114,32],I] b.strs.below b.strs.low (by simp [maxLen]),(Below.heap_alloc _ _ _ (zc b.blk)).trans b.blk,b.tabs⟩
 case rest =>
  have E:Hid (yS w wc w.heap.size #[.int .i64 err,.int .i64 n,.string (za says)] 33 u3 P1):=hcut;obtain ⟨q0,q1,q2⟩:=Zg hcut.blk;clear hcut p0 Z V
  go_upto_if 14 with fail
  go_cut [3] (fun t wx=>yS w wx w.heap.size #[.int .i64 err,.int .i64 n,.string (za says)] 33 t y)
  case first =>
   by_cases e0:n=0
   ·subst e0
    go_wp2_with fail
    go_meet
    rw [O.out,if_neg (by simp)]
    exact E.out
   ·have hq:(n==0)=false:=by rw [beq_eq_false_iff_ne];exact e0
    have c:=aa.out wc E.out.strs.below;go_wp2_with fail
    refine c.mono ?_;clear c q0 q1 q2;rintro e w3 ⟨rfl,T⟩;have b:Hid _:=E.out.new T;clear T
    go_wp2_with (at_builtin;refine Za rfl _ _ rfl w.heap.size _ P1 [[32],J] rfl w3 w b.out.strs rfl rfl (by simp;omega) ?_;intro v5 w5 q m;have A:Hid _:=b.out.app (by decide) q m;clear q m)
    go_meet
    rw [O.out,if_pos e0];exact A.out
  case rest =>
   have B:Hid (yS w wc w.heap.size #[.int .i64 err,.int .i64 n,.string (za says)] 33 u3 y):=hcut;obtain ⟨r0,r1,r2⟩:=Zg hcut.blk;clear hcut q0 q1 q2
   go_upto_if 23 with fail
   go_cut [3] (fun t wx=>yS w wx w.heap.size #[.int .i64 err,.int .i64 n,.string (za says)] 33 t L)
   case first =>
    by_cases e0:says=[]
    ·subst e0
     go_wp2_with fail
     go_meet
     rw [D.out,if_neg (by simp)]
     exact B.out
    ·obtain ⟨c9,t9,rfl⟩:=List.exists_cons_of_ne_nil e0
     go_wp2_with (at_builtin;refine Za rfl _ _ rfl w.heap.size _ y [[32],c9::t9] rfl wc w B.out.strs rfl rfl (by simp;omega) ?_;intro v5 w5 q m;have A:Hid _:=B.out.app (by decide) q m;clear q m)
     go_meet
     rw [D.out,if_pos e0];exact A.out
   case rest =>
    have ae:Hid (yS w wc w.heap.size #[.int .i64 err,.int .i64 n,.string (za says)] 33 u3 L):=hcut
    have aj:L.length≤6:=by
     rw [D.out]
     split
     ·rw [List.length_append];simp;omega
     ·omega
    have Y:=Yv ae.out.strs (by omega) ad.out
    rw [←U.out] at Y;clear hcut r0 r1 r2;go_wp2_with fail
    refine Y.mono ?_;clear Y;rintro e w9 ⟨rfl,K⟩;have af:Hid (Below w.heap.size w w9):=K;clear K;go_wp2
    go_ret
    exact ⟨rfl,af.out⟩
end Go.Proofs.YtbjndgachcdbcaaGreatDoor
