import Derived.Test.YtbjndgachcdbcaaGreatDoorMC21
import Derived.Deep.DeepCutAuto
namespace Go.Proofs.YtbjndgachcdbcaaGreatDoor
open Go.RowKit Go.Shelf
set_option maxHeartbeats 16000000
set_option maxRecDepth 100000
theorem xo (err n:Int) (says:List UInt8) (w:World) (he:ZA err) (hn:ZA n) (hs:says.length≤1048576) (ht:Yz w) :
  Calls Tryz.prog 30 #[U2 err n says] w fun e w'=>e=.returned (.string (za (ZO err n says)))∧Below w.heap.size w w':=by
 obtain ⟨w1,K,o,D,h0⟩:=yE w (.cells #[.int .i64 err,.int .i64 n,.string (za says)] 33);have Z:Hid (w1=w.alloc (.cells #[.int .i64 err,.int .i64 n,.string (za says)] 33)):=K;have M:w1.heap.size=w.heap.size+1:=D.out;have HR:Hid (ZO err n says=zG (Y0 err n says).flatten):=rfl;have T:Hid (Y0 err n says=(if err≠0 then [[101,114,114,111,114,32],Lib.itoa err] else [[111,107]])++(if n≠0 then [[32],Lib.itoa n] else [])++(if says≠[] then [[32],says] else [])):=rfl
 obtain ⟨L,hL⟩:∃L,L=Y0 err n says:=⟨_,rfl⟩;obtain ⟨R,hR⟩:∃R,R=ZO err n says:=⟨_,rfl⟩;rw [←hL] at HR T;rw [←hR] at HR ⊢
 have ae:Hid (L.flatten.length≤70368744177664):=by
  have h1:=Z0 err he.1 he.2;have h2:=Z0 n hn.1 hn.2;show _≤_
  rw [T.out]
  split <;> split <;> split <;> simp <;> omega
 obtain ⟨I,hI⟩:∃I,I=Lib.itoa err:=⟨_,rfl⟩;obtain ⟨J,hJ⟩:∃J,J=Lib.itoa n:=⟨_,rfl⟩;rw [←hI,←hJ] at T
 have ab:Hid (∀W,Below w.heap.size w W→Calls Tryz.prog 38 #[.int .i64 err] W fun e w'=>e=.returned (.string (za I))∧Below W.heap.size W w'):=fun W hW=>by
  rw [hI];exact xE err he W (ht.below hW (Nat.le_refl _)).tabs
 have ad:Hid (∀W,Below w.heap.size w W→Calls Tryz.prog 38 #[.int .i64 n] W fun e w'=>e=.returned (.string (za J))∧Below W.heap.size W w'):=fun W hW=>by
  rw [hJ];exact xE n hn W (ht.below hW (Nat.le_refl _)).tabs
 obtain ⟨P1,u⟩:∃P1,P1=if err≠0 then [[101,114,114,111,114,32],I] else [[111,107]]:=⟨_,rfl⟩
 obtain ⟨y,z⟩:∃y,y=if n≠0 then P1++[[32],J] else P1:=⟨_,rfl⟩
 have B:Hid (L=if says≠[] then y++[[32],says] else y):=by
  show _=_
  rw [T.out,z,u]
  split <;> split <;> split <;> simp
 have H:Hid (P1=if err≠0 then [[101,114,114,111,114,32],I] else [[111,107]]):=u
 have O:Hid (y=if n≠0 then P1++[[32],J] else P1):=z
 have ah:P1.length≤2:=by rw [u];split <;> simp
 have ag:y.length≤4:=by
  rw [z]
  split
  ·rw [List.length_append];simp;omega
  ·omega
 have af:Hid (Yt w w1 w.heap.size #[.int .i64 err,.int .i64 n,.string (za says)] 33 (.slice none 0 0) []):=⟨zo.nil _ _ _ o o.size,h0,ht⟩
 have h:Hid (Yt w (w1.alloc (.cells #[.string ⟨#[111,107]⟩] 9)) w.heap.size #[.int .i64 err,.int .i64 n,.string (za says)] 33 (.slice (some ⟨w1.heap.size,0,none⟩) 1 1) [[111,107]]) :=
  ⟨zo.lit w.heap.size w w1 [[111,107]] o o.size (by decide),(Below.heap_alloc _ _ _ (by omega)).trans h0,ht⟩
 rw [M] at h;have HZ:Hid (w1.heap.size=w.heap.size+1):=D;obtain ⟨p0,X,p2⟩:=Zp h.out.blk;clear hL hR ht he hn D hI hJ u z T K o h0 M
 go_enter Tryz.func30,Tryz.ntmps30
 go_upto_region 2 with fail
 rw [←Z.out];generalize w1.alloc (.cells #[.string ⟨#[111,107]⟩] 9)=w2 at h p0 X p2 ⊢
 go_upto_if 7 with fail
 go_cut [3] (fun t wx=>Yt w wx w.heap.size #[.int .i64 err,.int .i64 n,.string (za says)] 33 t P1)
 case first =>
  by_cases e0:err=0
  ·subst e0
   go_wp2_with fail
   go_meet
   rw [H.out,if_neg (by simp)]
   exact h.out
  ·have hq:(err==0)=false:=by rw [beq_eq_false_iff_ne];exact e0
   have c:=ab.out w2 h.out.strs.below;go_wp2_with fail
   refine c.mono ?_;clear c p0 X p2;rintro e Y ⟨rfl,U⟩;have b:=h.out.new U;go_wp2_with fail
   go_meet
   rw [H.out,if_pos e0];exact ⟨zo.lit w.heap.size w Y [[101,114,114,111,114,32],I] b.strs.below b.strs.low (by simp [maxLen]),(Below.heap_alloc _ _ _ (zc b.blk)).trans b.blk,b.tabs⟩
 case rest =>
  have F:Hid (Yt w wc w.heap.size #[.int .i64 err,.int .i64 n,.string (za says)] 33 u3 P1):=hcut;obtain ⟨q0,q1,q2⟩:=Zp hcut.blk;clear hcut p0 X p2
  go_upto_if 14 with fail
  go_cut [3] (fun t wx=>Yt w wx w.heap.size #[.int .i64 err,.int .i64 n,.string (za says)] 33 t y)
  case first =>
   by_cases e0:n=0
   ·subst e0
    go_wp2_with fail
    go_meet
    rw [O.out,if_neg (by simp)]
    exact F.out
   ·have hq:(n==0)=false:=by rw [beq_eq_false_iff_ne];exact e0
    have c:=ad.out wc F.out.strs.below;go_wp2_with fail
    refine c.mono ?_;clear c q0 q1 q2;rintro e Y ⟨rfl,U⟩;have b:Hid _:=F.out.new U;clear U
    go_wp2_with (at_builtin;refine Zk rfl _ _ rfl w.heap.size _ P1 [[32],J] rfl Y w b.out.strs rfl rfl (by simp;omega) ?_;intro v5 w5 q m;have A:Hid _:=b.out.app (by decide) q m;clear q m)
    go_meet
    rw [O.out,if_pos e0];exact A.out
  case rest =>
   have E:Hid (Yt w wc w.heap.size #[.int .i64 err,.int .i64 n,.string (za says)] 33 u3 y):=hcut;obtain ⟨r0,r1,r2⟩:=Zp hcut.blk;clear hcut q0 q1 q2
   go_upto_if 23 with fail
   go_cut [3] (fun t wx=>Yt w wx w.heap.size #[.int .i64 err,.int .i64 n,.string (za says)] 33 t L)
   case first =>
    by_cases e0:says=[]
    ·subst e0
     go_wp2_with fail
     go_meet
     rw [B.out,if_neg (by simp)]
     exact E.out
    ·obtain ⟨c9,t9,rfl⟩:=List.exists_cons_of_ne_nil e0
     go_wp2_with (at_builtin;refine Zk rfl _ _ rfl w.heap.size _ y [[32],c9::t9] rfl wc w E.out.strs rfl rfl (by simp;omega) ?_;intro v5 w5 q m;have A:Hid _:=E.out.app (by decide) q m;clear q m)
     go_meet
     rw [B.out,if_pos e0];exact A.out
   case rest =>
    have aa:Hid (Yt w wc w.heap.size #[.int .i64 err,.int .i64 n,.string (za says)] 33 u3 L):=hcut
    have ai:L.length≤6:=by
     rw [B.out]
     split
     ·rw [List.length_append];simp;omega
     ·omega
    have cl:=Y4 aa.out.strs (by omega) ae.out
    rw [←HR.out] at cl;clear hcut r0 r1 r2;go_wp2_with fail
    refine cl.mono ?_;clear cl;rintro e w9 ⟨rfl,G⟩;have V:Hid (Below w.heap.size w w9):=G;clear G;go_wp2
    go_ret
    exact ⟨rfl,V.out⟩
end Go.Proofs.YtbjndgachcdbcaaGreatDoor
