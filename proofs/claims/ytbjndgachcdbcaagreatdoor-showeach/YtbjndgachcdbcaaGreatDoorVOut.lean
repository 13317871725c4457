import Derived.Test.YtbjndgachcdbcaaGreatDoorVOutM
import Derived.Test.YtbjndgachcdbcaaGreatDoorVParts
namespace Go.Proofs.YtbjndgachcdbcaaGreatDoor
open Go.RowKit Go.Shelf
set_option maxHeartbeats 16000000
set_option maxRecDepth 100000
theorem xd (out:List UInt8) (w:World) (hl:out.length≤1048576) (ht:Yr w) :
  Calls Tryz.prog 27 #[.string (za out)] w fun e y=>∃v,e=.returned v∧zl w.heap.size w y v (yM out):=by
 obtain ⟨rest,hr,B,Y⟩:=ZA out [] (fun _ h=>by cases h)
 rw [List.nil_append] at B;obtain ⟨ls,H⟩:∃ls,ls=endsAt [] out:=⟨_,rfl⟩;rw [←H] at B Y;have hR:yM out=ls.drop (ls.length-4):=by unfold yM;rw [←H];rfl
 rw [hR];obtain ⟨ml,O⟩:=ht.long;have ae:(za out).size=out.length:=rfl;have z:ls.take ls.length=ls:=List.take_length;have Z:endB ls ls.length=(ze ls).length:=by unfold endB;rw [z]
 have X:endB ls ls.length≤out.length:=by rw [Z,B];simp
 have q:∀k,k≤ls.length→endB ls k≤endB ls ls.length:=fun k hk=>by
  by_cases h:k=ls.length
  ·rw [h];exact Nat.le_refl _
  ·exact Nat.le_of_lt (xw (by omega) (Nat.le_refl _))
 have c1:Calls Tryz.prog 40 #[.string (za out),.int .u8 10] w fun e y=>e=.returned (.int .i64 ((endB ls ls.length:Int)-1))∧y=w:=by
  have h:=Tryz.strings_LastIndexByte (za out) 10 (by rw [ae];omega) w
  have e:=XA ls rest hr;rw [←B,←Z] at e;rw [show ((endB ls ls.length:Int)-1)=Lib.lastIndexByte (za out) 10 by omega]
  exact h
 have C2:Hid (∀k,k<ls.length→Calls Tryz.prog 40 #[.string (za (out.take (endB ls (k+1)-1))),.int .u8 10] w fun e y=>e=.returned (.int .i64 ((endB ls k:Int)-1))∧y=w):=fun k hk=>by
  have h:=Tryz.strings_LastIndexByte (za (out.take (endB ls (k+1)-1))) 10 (by show (out.take _).length<_;rw [List.length_take];omega) w
  have e:=XA (ls.take k) ls[k] (Y _ (List.getElem_mem hk));rw [←Vq B hk] at e;rw [show ((endB ls k:Int)-1)=Lib.lastIndexByte (za (out.take (endB ls (k+1)-1))) 10 by unfold endB at e ⊢;omega]
  exact h
 have o:Hid (∀j k,j<k→k≤ls.length→endB ls j<endB ls k):=fun j k h hk=>xw h hk
 have b:Hid (∀k,k≤ls.length→endB ls k≤endB ls ls.length):=q;have HO:Hid (out=ze ls++rest):=B;have HN:Hid (∀s∈ls,ZP s):=Y;have R:endB ls 0=0:=rfl
 have C3:Hid (ls≠[]→Calls Tryz.prog 41 #[.string (za ((out.take (endB ls ls.length-1)).drop (endB ls (ls.length-4)))),.string ⟨#[10]⟩] w fun e y=>∃v,e=.returned v∧zl w.heap.size w y v (ls.drop (ls.length-4))):=fun u=>by
  have K:0<ls.length:=List.length_pos_iff.2 u;obtain ⟨M,V⟩:∃M,M=ls.drop (ls.length-4):=⟨_,rfl⟩;have m:M≠[]:=by rw [V];intro e;have:=congrArg List.length e;rw [List.length_drop] at this;simp at this;omega
  have ai:∀s∈M,ZP s:=fun s hs=>Y s (by rw [V] at hs;exact List.mem_of_mem_drop hs)
  obtain ⟨I,h2⟩:=XC M m ai
  have hcut:(out.take (endB ls ls.length-1)).drop (endB ls (ls.length-4))=zu M:=by
   have e1:out=ze (ls.take (ls.length-4))++zu M++([10]++rest):=by
    rw [B]
    conv=>lhs;rw [←List.take_append_drop (ls.length-4) ls]
    rw [zQ,←V,yD M m];simp
   have e2:endB ls ls.length-1=(ze (ls.take (ls.length-4))++zu M).length:=by
    rw [Z]
    conv=>lhs;rw [←List.take_append_drop (ls.length-4) ls]
    rw [zQ,←V,yD M m];simp
   rw [e2]
   conv=>lhs;rw [e1]
   rw [List.take_left,show endB ls (ls.length-4)=(ze (ls.take (ls.length-4))).length from rfl,List.drop_left]
  rw [hcut,←V]
  have al:(za (zu M)).size≤1048576:=by
   show (zu M).length≤_
   rw [←hcut,List.length_drop,List.length_take];omega
  have T:M.length≤maxLen:=by
   have:M.length≤(za (zu M)).size+1:=by have:=Lib.countB_le (za [10]) (by decide) _ (za (zu M)) (Nat.le_refl _);omega
   unfold maxLen;omega
  refine (Tryz.strings_Split (za (zu M)) (za [10]) ml w (by omega) O (by decide)).mono ?_
  rintro e y ⟨he,hw⟩;rw [h2] at he;rw [I] at hw;refine ⟨_,he,?_⟩;have e3:(M.map za).map Value.string=strC M:=by unfold strC;rw [List.map_map];rfl
  rw [hw,e3];exact zl.lit w.heap.size w w M (Below.refl _ _) (Nat.le_refl _) T
 obtain ⟨n,D⟩:∃n,n=ls.length:=⟨_,rfl⟩;have u:n≠0→ls≠[]:=fun h e=>h (by rw [D,e];rfl)
 have A:n=0→ls=[]:=fun h=>List.length_eq_zero_iff.1 (by omega)
 rw [←D] at c1 X b C2 C3 o ⊢;obtain ⟨E,G⟩:∃E,E=endB ls n:=⟨_,rfl⟩;rw [←G] at c1 X;have c:Hid (E=endB ls n):=G;have HT:Hid (zl w.heap.size w w (.slice none 0 0) []):=zl.nil _ _ _ (Below.refl _ _) (Nat.le_refl _);have U:Hid ((n≠0→ls≠[])∧(n=0→ls=[])):=⟨u,A⟩;clear ht O z Z q B Y hr hR H D u A G
 go_enter Tryz.func27,Tryz.ntmps27
 go_wp2_with fail
 refine c1.mono ?_;clear c1;rintro e w1 ⟨rfl,rfl⟩;go_wp2
 go_loopw [4,9] (fun vf vi wr=>∃i:Nat,i≤4∧vi=.int .i64 (i:Int)∧vf=.int .i64 ((endB ls (n-i):Nat):Int)∧wr=w1) (fun _ vi _=>4-(intOf vi).toNat)
 case atStart=>exact ⟨0,by omega,rfl,by rw [c.out];simp,rfl⟩
 case round =>
  obtain ⟨i,hi,rfl,rfl,rfl⟩:=hrel
  by_cases hlt:i<4
  ·have ah:(i:Int)<4:=by omega
   by_cases hk:i<n
   ·obtain ⟨k,ab⟩:∃k,n-i=k+1:=⟨n-i-1,by omega⟩
    have I:=o.out 0 (k+1) (by omega) (by omega)
    have h2:=b.out (k+1) (by omega)
    rw [←c.out] at h2;have h3:=b.out k (by omega)
    rw [←c.out] at h3;have c2:=C2.out k (by omega)
    have af:n-(i+1)=k:=by omega
    rw [ab];obtain ⟨F,J⟩:∃F,F=endB ls (k+1):=⟨_,rfl⟩;rw [←J] at I h2 c2 ⊢;have K:(0:Int)<(F:Int):=by omega
    have aa:∀W:World,(Instr.slice 9 (.string (za out)) none (some (.int .i64 ((F:Int)-1))) none).run Tryz.prog W=.ok (.string (za (out.take (F-1)))) W:=fun W=>by
     have:=XR W out (F-1) (by omega)
     rw [show ((F-1:Nat):Int)=(F:Int)-1 by omega] at this
     exact this
    clear J;go_wp2_with fail
    refine c2.mono ?_;clear c2;rintro e w2 ⟨rfl,rfl⟩;go_wp2
    exact ⟨⟨i+1,by omega,by go_num,by rw [af],trivial⟩,by simp [intOf];omega⟩
   ·have e0:n-i=0:=by omega
    have e1:n-(i+1)=0:=by omega
    rw [e0,R];go_wp2
    exact ⟨⟨i+1,by omega,by go_num,by rw [e1,R],trivial⟩,by simp [intOf];omega⟩
  ·have ah:¬ (i:Int)<4:=by omega
   obtain rfl:i=4:=by omega
   by_cases h0:n=0
   ·have ad:Hid (ls=[]):=U.out.2 h0
    subst h0;have hb:((endB ls (0-4):Nat):Int)=(E:Int):=by rw [c.out]
    rw [hb];go_wp2
    go_ret
    refine ⟨_,rfl,?_⟩;rw [ad.out];exact HT.out
   ·have I:=o.out (n-4) n (by omega) (Nat.le_refl _)
    have c3:=C3.out (U.out.1 h0);rw [←c.out] at I c3;obtain ⟨F,J⟩:∃F,F=endB ls (n-4):=⟨_,rfl⟩;rw [←J] at I c3 ⊢;have aj:((F:Int)==(E:Int))=false:=by rw [beq_eq_false_iff_ne];omega
    have ak:¬ (F:Int)=(E:Int):=by omega
    have aa:∀W:World,(Instr.slice 9 (.string (za out)) (some (.int .i64 (F:Int))) (some (.int .i64 ((E:Int)-1))) none).run Tryz.prog W=.ok (.string (za ((out.take (E-1)).drop F))) W:=fun W=>by
     have:=uv W out F (E-1-F) (by omega)
     rw [show (F:Int)+((E-1-F:Nat):Int)=(E:Int)-1 by omega] at this
     rw [List.drop_take];exact this
    clear J;go_wp2_with fail
    refine c3.mono ?_;clear c3;rintro e w2 ⟨v,rfl,hj⟩;have ag:Hid _:=hj;clear hj;go_wp2
    go_ret
    exact ⟨_,rfl,ag.out⟩
end Go.Proofs.YtbjndgachcdbcaaGreatDoor
