import Derived.Test.YtbjndgachcdbcaaGreatDoorVPlace
import Derived.Deep.DeepCutAuto
namespace Go.Proofs.YtbjndgachcdbcaaGreatDoor
open Go.RowKit Go.Shelf
set_option maxHeartbeats 16000000
set_option maxRecDepth 100000
theorem Y7 (err n:Int) (says:List UInt8) (w:World) (he:Zq err) (hn:Zq n) (hs:says.length≤1048576) (ht:YB w) :
  Calls Tryz.prog 30 #[UA err n says] w fun e w'=>e=.returned (.string (za (ZI err n says)))∧Below w.heap.size w w':=by
 obtain ⟨w1,G,o,E,h0⟩:=yj w (.cells #[.int .i64 err,.int .i64 n,.string (za says)] 33);have ad:Hid (w1=w.alloc (.cells #[.int .i64 err,.int .i64 n,.string (za says)] 33)):=G;have O:w1.heap.size=w.heap.size+1:=E.out;have HR:Hid (ZI err n says=zA (YR err n says).flatten):=rfl;have K:Hid (YR err n says=(if err≠0 then [[101,114,114,111,114,32],Lib.itoa err] else [[111,107]])++(if n≠0 then [[32],Lib.itoa n] else [])++(if says≠[] then [[32],says] else [])):=rfl
 obtain ⟨L,hL⟩:∃L,L=YR err n says:=⟨_,rfl⟩;obtain ⟨R,hR⟩:∃R,R=ZI err n says:=⟨_,rfl⟩;rw [←hL] at HR K;rw [←hR] at HR ⊢
 have V:Hid (L.flatten.length≤70368744177664):=by
  have h1:=ZR err he.1 he.2;have h2:=ZR n hn.1 hn.2;show _≤_
  rw [K.out]
  split <;> split <;> split <;> simp <;> omega
 obtain ⟨I,hI⟩:∃I,I=Lib.itoa err:=⟨_,rfl⟩;obtain ⟨J,Z⟩:∃J,J=Lib.itoa n:=⟨_,rfl⟩;rw [←hI,←Z] at K
 have ab:Hid (∀W,Below w.heap.size w W→Calls Tryz.prog 38 #[.int .i64 err] W fun e w'=>e=.returned (.string (za I))∧Below W.heap.size W w'):=fun W hW=>by
  rw [hI];exact xl err he W (ht.below hW (Nat.le_refl _)).tabs
 have X:Hid (∀W,Below w.heap.size w W→Calls Tryz.prog 38 #[.int .i64 n] W fun e w'=>e=.returned (.string (za J))∧Below W.heap.size W w'):=fun W hW=>by
  rw [Z];exact xl n hn W (ht.below hW (Nat.le_refl _)).tabs
 obtain ⟨P1,y⟩:∃P1,P1=if err≠0 then [[101,114,114,111,114,32],I] else [[111,107]]:=⟨_,rfl⟩
 obtain ⟨z,u⟩:∃z,z=if n≠0 then P1++[[32],J] else P1:=⟨_,rfl⟩
 have D:Hid (L=if says≠[] then z++[[32],says] else z):=by
  show _=_
  rw [K.out,u,y]
  split <;> split <;> split <;> simp
 have H:Hid (P1=if err≠0 then [[101,114,114,111,114,32],I] else [[111,107]]):=y
 have T:Hid (z=if n≠0 then P1++[[32],J] else P1):=u
 have ah:P1.length≤2:=by rw [y];split <;> simp
 have af:z.length≤4:=by
  rw [u]
  split
  ·rw [List.length_append];simp;omega
  ·omega
 have ag:Hid (Yk w w1 w.heap.size #[.int .i64 err,.int .i64 n,.string (za says)] 33 (.slice none 0 0) []):=⟨zm.nil _ _ _ o o.size,h0,ht⟩
 have h:Hid (Yk w (w1.alloc (.cells #[.string ⟨#[111,107]⟩] 9)) w.heap.size #[.int .i64 err,.int .i64 n,.string (za says)] 33 (.slice (some ⟨w1.heap.size,0,none⟩) 1 1) [[111,107]]) :=
  ⟨zm.lit w.heap.size w w1 [[111,107]] o o.size (by decide),(Below.heap_alloc _ _ _ (by omega)).trans h0,ht⟩
 rw [O] at h;have HZ:Hid (w1.heap.size=w.heap.size+1):=E;obtain ⟨p0,p1,p2⟩:=Zr h.out.blk;clear hL hR ht he hn E hI Z y u K G o h0 O
 go_enter Tryz.func30,Tryz.ntmps30
 go_upto_region 2 with fail
 rw [←ad.out];generalize w1.alloc (.cells #[.string ⟨#[111,107]⟩] 9)=w2 at h p0 p1 p2 ⊢
 go_upto_if 7 with fail
 go_cut [3] (fun t wx=>Yk w wx w.heap.size #[.int .i64 err,.int .i64 n,.string (za says)] 33 t P1)
 case first =>
  by_cases e0:err=0
  ·subst e0
   go_wp2_with fail
   go_meet
   rw [H.out,if_neg (by simp)]
   exact h.out
  ·have hq:(err==0)=false:=by rw [beq_eq_false_iff_ne];exact e0
   have c:=ab.out w2 h.out.strs.below;go_wp2_with fail
   refine c.mono ?_;clear c p0 p1 p2;rintro e Y ⟨rfl,U⟩;have b:=h.out.new U;go_wp2_with fail
   go_meet
   rw [H.out,if_pos e0];exact ⟨zm.lit w.heap.size w Y [[101,114,114,111,114,32],I] b.strs.below b.strs.low (by simp [maxLen]),(Below.heap_alloc _ _ _ (zc b.blk)).trans b.blk,b.tabs⟩
 case rest =>
  have A:Hid (Yk w wc w.heap.size #[.int .i64 err,.int .i64 n,.string (za says)] 33 u3 P1):=hcut;obtain ⟨q0,q1,q2⟩:=Zr hcut.blk;clear hcut p0 p1 p2
  go_upto_if 14 with fail
  go_cut [3] (fun t wx=>Yk w wx w.heap.size #[.int .i64 err,.int .i64 n,.string (za says)] 33 t z)
  case first =>
   by_cases e0:n=0
   ·subst e0
    go_wp2_with fail
    go_meet
    rw [T.out,if_neg (by simp)]
    exact A.out
   ·have hq:(n==0)=false:=by rw [beq_eq_false_iff_ne];exact e0
    have c:=X.out wc A.out.strs.below;go_wp2_with fail
    refine c.mono ?_;clear c q0 q1 q2;rintro e Y ⟨rfl,U⟩;have b:Hid _:=A.out.new U;clear U
    go_wp2_with (at_builtin;refine Zg rfl _ _ rfl w.heap.size _ P1 [[32],J] rfl Y w b.out.strs rfl rfl (by simp;omega) ?_;intro v5 w5 q m;have B:Hid _:=b.out.app (by decide) q m;clear q m)
    go_meet
    rw [T.out,if_pos e0];exact B.out
  case rest =>
   have F:Hid (Yk w wc w.heap.size #[.int .i64 err,.int .i64 n,.string (za says)] 33 u3 z):=hcut;obtain ⟨r0,r1,r2⟩:=Zr hcut.blk;clear hcut q0 q1 q2
   go_upto_if 23 with fail
   go_cut [3] (fun t wx=>Yk w wx w.heap.size #[.int .i64 err,.int .i64 n,.string (za says)] 33 t L)
   case first =>
    by_cases e0:says=[]
    ·subst e0
     go_wp2_with fail
     go_meet
     rw [D.out,if_neg (by simp)]
     exact F.out
    ·obtain ⟨c9,t9,rfl⟩:=List.exists_cons_of_ne_nil e0
     go_wp2_with (at_builtin;refine Zg rfl _ _ rfl w.heap.size _ z [[32],c9::t9] rfl wc w F.out.strs rfl rfl (by simp;omega) ?_;intro v5 w5 q m;have B:Hid _:=F.out.app (by decide) q m;clear q m)
     go_meet
     rw [D.out,if_pos e0];exact B.out
   case rest =>
    have ae:Hid (Yk w wc w.heap.size #[.int .i64 err,.int .i64 n,.string (za says)] 33 u3 L):=hcut
    have ai:L.length≤6:=by
     rw [D.out]
     split
     ·rw [List.length_append];simp;omega
     ·omega
    have cl:=YU ae.out.strs (by omega) V.out
    rw [←HR.out] at cl;clear hcut r0 r1 r2;go_wp2_with fail
    refine cl.mono ?_;clear cl;rintro e w9 ⟨rfl,M⟩;have aa:Hid (Below w.heap.size w w9):=M;clear M;go_wp2
    go_ret
    exact ⟨rfl,aa.out⟩
end Go.Proofs.YtbjndgachcdbcaaGreatDoor
