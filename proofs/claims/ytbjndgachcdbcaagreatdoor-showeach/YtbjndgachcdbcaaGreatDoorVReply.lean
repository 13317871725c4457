import Derived.Test.YtbjndgachcdbcaaGreatDoorVPlace
import Derived.Deep.DeepCutAuto
namespace Go.Proofs.YtbjndgachcdbcaaGreatDoor
open Go.RowKit Go.Shelf
set_option maxHeartbeats 16000000
set_option maxRecDepth 100000
theorem xc (err n:Int) (says:List UInt8) (w:World) (he:Zu err) (hn:Zu n) (hs:says.length≤1048576) (ht:Yr w) :
  Calls Tryz.prog 30 #[UH err n says] w fun e w'=>e=.returned (.string (za (ZG err n says)))∧Below w.heap.size w w':=by
 obtain ⟨w1,T,q,F,h0⟩:=Z6 w (.cells #[.int .i64 err,.int .i64 n,.string (za says)] 33);have V:Hid (w1=w.alloc (.cells #[.int .i64 err,.int .i64 n,.string (za says)] 33)):=T;have K:w1.heap.size=w.heap.size+1:=F.out;have HR:Hid (ZG err n says=lineB (YR err n says).flatten):=rfl;have G:Hid (YR err n says=(if err≠0 then [[101,114,114,111,114,32],Lib.itoa err] else [[111,107]])++(if n≠0 then [[32],Lib.itoa n] else [])++(if says≠[] then [[32],says] else [])):=rfl
 obtain ⟨L,hL⟩:∃L,L=YR err n says:=⟨_,rfl⟩;obtain ⟨R,hR⟩:∃R,R=ZG err n says:=⟨_,rfl⟩;rw [←hL] at HR G;rw [←hR] at HR ⊢
 have aa:Hid (L.flatten.length≤70368744177664):=by
  have h1:=ZO err he.1 he.2;have h2:=ZO n hn.1 hn.2;show _≤_
  rw [G.out]
  split <;> split <;> split <;> simp <;> omega
 obtain ⟨I,hI⟩:∃I,I=Lib.itoa err:=⟨_,rfl⟩;obtain ⟨J,hJ⟩:∃J,J=Lib.itoa n:=⟨_,rfl⟩;rw [←hI,←hJ] at G
 have ae:Hid (∀W,Below w.heap.size w W→Calls Tryz.prog 38 #[.int .i64 err] W fun e w'=>e=.returned (.string (za I))∧Below W.heap.size W w'):=fun W hW=>by
  rw [hI];exact xu err he W (ht.below hW (Nat.le_refl _)).tabs
 have ab:Hid (∀W,Below w.heap.size w W→Calls Tryz.prog 38 #[.int .i64 n] W fun e w'=>e=.returned (.string (za J))∧Below W.heap.size W w'):=fun W hW=>by
  rw [hJ];exact xu n hn W (ht.below hW (Nat.le_refl _)).tabs
 obtain ⟨P1,u⟩:∃P1,P1=if err≠0 then [[101,114,114,111,114,32],I] else [[111,107]]:=⟨_,rfl⟩
 obtain ⟨z,y⟩:∃z,z=if n≠0 then P1++[[32],J] else P1:=⟨_,rfl⟩
 have B:Hid (L=if says≠[] then z++[[32],says] else z):=by
  show _=_
  rw [G.out,y,u]
  split <;> split <;> split <;> simp
 have M:Hid (P1=if err≠0 then [[101,114,114,111,114,32],I] else [[111,107]]):=u
 have H:Hid (z=if n≠0 then P1++[[32],J] else P1):=y
 have ai:P1.length≤2:=by rw [u];split <;> simp
 have af:z.length≤4:=by
  rw [y]
  split
  ·rw [List.length_append];simp;omega
  ·omega
 have ag:Hid (Yk w w1 w.heap.size #[.int .i64 err,.int .i64 n,.string (za says)] 33 (.slice none 0 0) []):=⟨zl.nil _ _ _ q q.size,h0,ht⟩
 have h:Hid (Yk w (w1.alloc (.cells #[.string ⟨#[111,107]⟩] 9)) w.heap.size #[.int .i64 err,.int .i64 n,.string (za says)] 33 (.slice (some ⟨w1.heap.size,0,none⟩) 1 1) [[111,107]]) :=
  ⟨zl.lit w.heap.size w w1 [[111,107]] q q.size (by decide),(Below.heap_alloc _ _ _ (by omega)).trans h0,ht⟩
 rw [K] at h;have HZ:Hid (w1.heap.size=w.heap.size+1):=F;obtain ⟨p0,p1,Y⟩:=Zn h.out.blk;clear hL hR ht he hn F hI hJ u y G T q h0 K
 go_enter Tryz.func30,Tryz.ntmps30
 go_upto_region 2 with fail
 rw [←V.out];generalize w1.alloc (.cells #[.string ⟨#[111,107]⟩] 9)=w2 at h p0 p1 Y ⊢
 go_upto_if 7 with fail
 go_cut [3] (fun t wx=>Yk w wx w.heap.size #[.int .i64 err,.int .i64 n,.string (za says)] 33 t P1)
 case first =>
  by_cases e0:err=0
  ·subst e0
   go_wp2_with fail
   go_meet
   rw [M.out,if_neg (by simp)]
   exact h.out
  ·have hq:(err==0)=false:=by rw [beq_eq_false_iff_ne];exact e0
   have c:=ae.out w2 h.out.strs.below;go_wp2_with fail
   refine c.mono ?_;clear c p0 p1 Y;rintro e Z ⟨rfl,U⟩;have b:=h.out.new U;go_wp2_with fail
   go_meet
   rw [M.out,if_pos e0];exact ⟨zl.lit w.heap.size w Z [[101,114,114,111,114,32],I] b.strs.below b.strs.low (by simp [maxLen]),(Below.heap_alloc _ _ _ (zc b.blk)).trans b.blk,b.tabs⟩
 case rest =>
  have D:Hid (Yk w wc w.heap.size #[.int .i64 err,.int .i64 n,.string (za says)] 33 u3 P1):=hcut;obtain ⟨q0,q1,q2⟩:=Zn hcut.blk;clear hcut p0 p1 Y
  go_upto_if 14 with fail
  go_cut [3] (fun t wx=>Yk w wx w.heap.size #[.int .i64 err,.int .i64 n,.string (za says)] 33 t z)
  case first =>
   by_cases e0:n=0
   ·subst e0
    go_wp2_with fail
    go_meet
    rw [H.out,if_neg (by simp)]
    exact D.out
   ·have hq:(n==0)=false:=by rw [beq_eq_false_iff_ne];exact e0
    have c:=ab.out wc D.out.strs.below;go_wp2_with fail
    refine c.mono ?_;clear c q0 q1 q2;rintro e Z ⟨rfl,U⟩;have b:Hid _:=D.out.new U;clear U
    go_wp2_with (at_builtin;refine Zd rfl _ _ rfl w.heap.size _ P1 [[32],J] rfl Z w b.out.strs rfl rfl (by simp;omega) ?_;intro v5 w5 o m;have A:Hid _:=b.out.app (by decide) o m;clear o m)
    go_meet
    rw [H.out,if_pos e0];exact A.out
  case rest =>
   have E:Hid (Yk w wc w.heap.size #[.int .i64 err,.int .i64 n,.string (za says)] 33 u3 z):=hcut;obtain ⟨r0,r1,r2⟩:=Zn hcut.blk;clear hcut q0 q1 q2
   go_upto_if 23 with fail
   go_cut [3] (fun t wx=>Yk w wx w.heap.size #[.int .i64 err,.int .i64 n,.string (za says)] 33 t L)
   case first =>
    by_cases e0:says=[]
    ·subst e0
     go_wp2_with fail
     go_meet
     rw [B.out,if_neg (by simp)]
     exact E.out
    ·obtain ⟨c9,t9,rfl⟩:=List.exists_cons_of_ne_nil e0
     go_wp2_with (at_builtin;refine Zd rfl _ _ rfl w.heap.size _ z [[32],c9::t9] rfl wc w E.out.strs rfl rfl (by simp;omega) ?_;intro v5 w5 o m;have A:Hid _:=E.out.app (by decide) o m;clear o m)
     go_meet
     rw [B.out,if_pos e0];exact A.out
   case rest =>
    have ad:Hid (Yk w wc w.heap.size #[.int .i64 err,.int .i64 n,.string (za says)] 33 u3 L):=hcut
    have ah:L.length≤6:=by
     rw [B.out]
     split
     ·rw [List.length_append];simp;omega
     ·omega
    have cl:=YU ad.out.strs (by omega) aa.out
    rw [←HR.out] at cl;clear hcut r0 r1 r2;go_wp2_with fail
    refine cl.mono ?_;clear cl;rintro e w9 ⟨rfl,O⟩;have X:Hid (Below w.heap.size w w9):=O;clear O;go_wp2
    go_ret
    exact ⟨rfl,X.out⟩
end Go.Proofs.YtbjndgachcdbcaaGreatDoor
