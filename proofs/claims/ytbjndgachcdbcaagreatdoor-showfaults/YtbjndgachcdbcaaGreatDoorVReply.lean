import Derived.Test.YtbjndgachcdbcaaGreatDoorVPlace
import Derived.Deep.DeepCutAuto
namespace Go.Proofs.YtbjndgachcdbcaaGreatDoor
open Go.RowKit Go.Shelf
set_option maxHeartbeats 16000000
set_option maxRecDepth 100000
theorem YB (err n:Int) (says:List UInt8) (w:World) (he:Zk err) (hn:Zk n) (hs:says.length≤1048576) (ht:yW w) :
  Calls Tryz.prog 30 #[V3 err n says] w fun e w'=>e=.returned (.string (za (Zz err n says)))∧Below w.heap.size w w':=by
 obtain ⟨w1,H,q,A,h0⟩:=yl w (.cells #[.int .i64 err,.int .i64 n,.string (za says)] 33);have ab:Hid (w1=w.alloc (.cells #[.int .i64 err,.int .i64 n,.string (za says)] 33)):=H;have K:w1.heap.size=w.heap.size+1:=A.out;have Z:Hid (Zz err n says=zB (Yg err n says).flatten):=rfl;have O:Hid (Yg err n says=(if err≠0 then [[101,114,114,111,114,32],Lib.itoa err] else [[111,107]])++(if n≠0 then [[32],Lib.itoa n] else [])++(if says≠[] then [[32],says] else [])):=rfl
 obtain ⟨L,hL⟩:∃L,L=Yg err n says:=⟨_,rfl⟩;obtain ⟨R,hR⟩:∃R,R=Zz err n says:=⟨_,rfl⟩;rw [←hL] at Z O;rw [←hR] at Z ⊢
 have X:Hid (L.flatten.length≤70368744177664):=by
  have h1:=ZJ err he.1 he.2;have h2:=ZJ n hn.1 hn.2;show _≤_
  rw [O.out]
  split <;> split <;> split <;> simp <;> omega
 obtain ⟨I,Y⟩:∃I,I=Lib.itoa err:=⟨_,rfl⟩;obtain ⟨J,hJ⟩:∃J,J=Lib.itoa n:=⟨_,rfl⟩;rw [←Y,←hJ] at O
 have V:Hid (∀W,Below w.heap.size w W→Calls Tryz.prog 38 #[.int .i64 err] W fun e w'=>e=.returned (.string (za I))∧Below W.heap.size W w'):=fun W hW=>by
  rw [Y];exact YS err he W (ht.below hW (Nat.le_refl _)).tabs
 have ad:Hid (∀W,Below w.heap.size w W→Calls Tryz.prog 38 #[.int .i64 n] W fun e w'=>e=.returned (.string (za J))∧Below W.heap.size W w'):=fun W hW=>by
  rw [hJ];exact YS n hn W (ht.below hW (Nat.le_refl _)).tabs
 obtain ⟨P1,x⟩:∃P1,P1=if err≠0 then [[101,114,114,111,114,32],I] else [[111,107]]:=⟨_,rfl⟩
 obtain ⟨y,u⟩:∃y,y=if n≠0 then P1++[[32],J] else P1:=⟨_,rfl⟩
 have B:Hid (L=if says≠[] then y++[[32],says] else y):=by
  show _=_
  rw [O.out,u,x]
  split <;> split <;> split <;> simp
 have M:Hid (P1=if err≠0 then [[101,114,114,111,114,32],I] else [[111,107]]):=x
 have F:Hid (y=if n≠0 then P1++[[32],J] else P1):=u
 have ag:P1.length≤2:=by rw [x];split <;> simp
 have ai:y.length≤4:=by
  rw [u]
  split
  ·rw [List.length_append];simp;omega
  ·omega
 have ah:Hid (yL w w1 w.heap.size #[.int .i64 err,.int .i64 n,.string (za says)] 33 (.slice none 0 0) []):=⟨zj.nil _ _ _ q q.size,h0,ht⟩
 have h:Hid (yL w (w1.alloc (.cells #[.string ⟨#[111,107]⟩] 9)) w.heap.size #[.int .i64 err,.int .i64 n,.string (za says)] 33 (.slice (some ⟨w1.heap.size,0,none⟩) 1 1) [[111,107]]) :=
  ⟨zj.lit w.heap.size w w1 [[111,107]] q q.size (by decide),(Below.heap_alloc _ _ _ (by omega)).trans h0,ht⟩
 rw [K] at h;have HZ:Hid (w1.heap.size=w.heap.size+1):=A;obtain ⟨p0,U,p2⟩:=Zf h.out.blk;clear hL hR ht he hn A Y hJ x u O H q h0 K
 go_enter Tryz.func30,Tryz.ntmps30
 go_upto_region 2 with fail
 rw [←ab.out];generalize w1.alloc (.cells #[.string ⟨#[111,107]⟩] 9)=w2 at h p0 U p2 ⊢
 go_upto_if 7 with fail
 go_cut [3] (fun t wx=>yL w wx w.heap.size #[.int .i64 err,.int .i64 n,.string (za says)] 33 t P1)
 case first =>
  by_cases e0:err=0
  ·subst e0
   go_wp2_with fail
   go_meet
   rw [M.out,if_neg (by simp)]
   exact h.out
  ·have hq:(err==0)=false:=by rw [beq_eq_false_iff_ne];exact e0
   have c:=V.out w2 h.out.strs.below;go_wp2_with fail
   refine c.mono ?_;clear c p0 U p2;rintro e w3 ⟨rfl,T⟩;have b:=h.out.new T;go_wp2_with fail
   go_meet
   rw [M.out,if_pos e0];exact ⟨zj.lit w.heap.size w w3 [[101,114,114,111,114,32],I] b.strs.below b.strs.low (by simp [maxLen]),(Below.heap_alloc _ _ _ (zc b.blk)).trans b.blk,b.tabs⟩
 case rest =>
  have E:Hid (yL w wc w.heap.size #[.int .i64 err,.int .i64 n,.string (za says)] 33 u3 P1):=hcut;obtain ⟨q0,q1,q2⟩:=Zf hcut.blk;clear hcut p0 U p2
  go_upto_if 14 with fail
  go_cut [3] (fun t wx=>yL w wx w.heap.size #[.int .i64 err,.int .i64 n,.string (za says)] 33 t y)
  case first =>
   by_cases e0:n=0
   ·subst e0
    go_wp2_with fail
    go_meet
    rw [F.out,if_neg (by simp)]
    exact E.out
   ·have hq:(n==0)=false:=by rw [beq_eq_false_iff_ne];exact e0
    have c:=ad.out wc E.out.strs.below;go_wp2_with fail
    refine c.mono ?_;clear c q0 q1 q2;rintro e w3 ⟨rfl,T⟩;have b:Hid _:=E.out.new T;clear T
    go_wp2_with (at_builtin;refine z8 rfl _ _ rfl w.heap.size _ P1 [[32],J] rfl w3 w b.out.strs rfl rfl (by simp;omega) ?_;intro v5 w5 o m;have z:Hid _:=b.out.app (by decide) o m;clear o m)
    go_meet
    rw [F.out,if_pos e0];exact z.out
  case rest =>
   have D:Hid (yL w wc w.heap.size #[.int .i64 err,.int .i64 n,.string (za says)] 33 u3 y):=hcut;obtain ⟨r0,r1,r2⟩:=Zf hcut.blk;clear hcut q0 q1 q2
   go_upto_if 23 with fail
   go_cut [3] (fun t wx=>yL w wx w.heap.size #[.int .i64 err,.int .i64 n,.string (za says)] 33 t L)
   case first =>
    by_cases e0:says=[]
    ·subst e0
     go_wp2_with fail
     go_meet
     rw [B.out,if_neg (by simp)]
     exact D.out
    ·obtain ⟨c9,t9,rfl⟩:=List.exists_cons_of_ne_nil e0
     go_wp2_with (at_builtin;refine z8 rfl _ _ rfl w.heap.size _ y [[32],c9::t9] rfl wc w D.out.strs rfl rfl (by simp;omega) ?_;intro v5 w5 o m;have z:Hid _:=D.out.app (by decide) o m;clear o m)
     go_meet
     rw [B.out,if_pos e0];exact z.out
   case rest =>
    have aa:Hid (yL w wc w.heap.size #[.int .i64 err,.int .i64 n,.string (za says)] 33 u3 L):=hcut
    have af:L.length≤6:=by
     rw [B.out]
     split
     ·rw [List.length_append];simp;omega
     ·omega
    have cl:=Yj aa.out.strs (by omega) X.out
    rw [←Z.out] at cl;clear hcut r0 r1 r2;go_wp2_with fail
    refine cl.mono ?_;clear cl;rintro e w9 ⟨rfl,G⟩;have ae:Hid (Below w.heap.size w w9):=G;clear G;go_wp2
    go_ret
    exact ⟨rfl,ae.out⟩
end Go.Proofs.YtbjndgachcdbcaaGreatDoor
