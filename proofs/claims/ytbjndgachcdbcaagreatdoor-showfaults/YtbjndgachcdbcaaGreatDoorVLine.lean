import Derived.Test.YtbjndgachcdbcaaGreatDoorVMath
import Derived.Deep.DeepCutAuto
namespace Go.Proofs.YtbjndgachcdbcaaGreatDoor
open Go.RowKit Go.Shelf
set_option maxHeartbeats 16000000
set_option maxRecDepth 100000
theorem Xk {l:List (List UInt8)} {i:Nat} (h:i<l.length):(l.take (i+1)).flatten=(l.take i).flatten++l[i]:=by
 have e:l.take i++[l[i]]=l.take (i+1):=List.take_append_getElem h;rw [←e,List.flatten_append];simp
theorem vG (l:List (List UInt8)) (i:Nat):(l.take i).flatten.length≤l.flatten.length:=by
 conv=>rhs;rw [←List.take_append_drop i l]
 rw [List.flatten_append,List.length_append];omega
theorem xI (S:Nat→Prop) (l:List (List UInt8)) (v:Value) (w:World) (hin:rowIn S w v 1 xE l) (hl:l.length≤1099511627776) (htot:l.flatten.length≤70368744177664) :
  Calls Tryz.prog 28 #[v] w fun e w'=>e=.returned (.string (za (zB l.flatten)))∧Below w.heap.size w w':=by
 obtain ⟨base,ax,rfl,ag,am,ab⟩:=hin.at
 have al:Hid (∀i (hi:i<l.length),∃b o,base=some ⟨b,o,none⟩∧S b∧b<w.heap.size∧xE w b (o+i*1) l[i]):=ab
 have ah:l.length≤9223372036854775000:=by omega
 have ak:Hid (∀i,(l.take i).flatten.length≤70368744177664):=fun i=>Nat.le_trans (vG l i) htot
 have HR:Hid (zB l.flatten=if 200<l.flatten.length then (Zj l.flatten).take 197++zS else Zj l.flatten):=rfl
 obtain ⟨R,hR⟩:∃R,R=zB l.flatten:=⟨_,rfl⟩;rw [←hR] at HR ⊢;have I:Hid (l.flatten.length≤70368744177664):=htot;clear ab hin hR htot hl
 go_enter Tryz.func28,Tryz.ntmps28
 go_wp2
 go_loopw [3,10] (fun vb vi wr=>∃i:Nat,i≤l.length∧vi=.int .i64 (i:Int)∧zf w.heap.size wr vb (l.take i).flatten∧Below w.heap.size w wr) (fun _ vi _=>l.length-(intOf vi).toNat)
 case atStart=>exact ⟨0,Nat.zero_le _,rfl,World.ownsRow_nil _ _ _ _,Below.refl _ _⟩
 case round =>
  obtain ⟨i,hi,rfl,B,x⟩:=hrel;have O:Hid (zf w.heap.size wr u3 (l.take i).flatten):=B;have HB:Hid (Below w.heap.size w wr):=x;have ar:=x.size;clear B x
  by_cases hlt:i<l.length
  ·have F:(i:Int)<l.length:=by omega
   obtain ⟨b,o,rfl,-,af,hc⟩:=al.out i hlt
   have u:wr.cell? ⟨b,o+i,none⟩=some (.string (za l[i])):=by
    have:=(zh (g:=b) (j:=o+i*1) HB.out af).trans hc
    simpa only [Nat.mul_one] using this
   have HN:Hid ((l.take (i+1)).flatten=(l.take i).flatten++l[i]):=Xk hlt;have T:=ak.out (i+1);rw [HN.out,List.length_append] at T;obtain ⟨s,hs⟩:∃s,s=l[i]:=⟨_,rfl⟩;rw [←hs] at u T HN;obtain ⟨P,hP⟩:∃P,P=(l.take i).flatten:=⟨_,rfl⟩;rw [←hP] at O T HN;clear hc hs hP
   go_wp2_with (at_builtin;refine ze rfl _ _ rfl w.heap.size _ P rfl O.out.own s rfl (by omega) (by omega) ?_;intro v5 w5 D E)
   have U:Hid (Below w.heap.size w w5):=HB.out.grown E (by omega) (fun q hq=>by have:=O.out.lt q hq;omega)
   have aj:Hid (zf w.heap.size w5 v5 (P++s)):=D;clear D E;go_wp2
   exact ⟨⟨i+1,by omega,by go_num,by rw [HN.out];exact aj.out,U.out⟩,by simp [intOf];omega⟩
  ·have F:¬ (i:Int)<l.length:=by omega
   obtain rfl:i=l.length:=by omega
   rw [List.take_length] at O;obtain ⟨X,hX⟩:∃X,X=l.flatten:=⟨_,rfl⟩;rw [←hX] at O HR I;have au:=I.out;obtain ⟨J,h,rfl,Z,ao,aq,aw⟩:=Zq O.out.own;clear hX Z F ah ag am;go_wp2
   go_loopw [20] (fun vi wr=>∃i:Nat,i≤X.length∧vi=.int .i64 (i:Int)∧zf w.heap.size wr (.slice J X.length h) (zs X i)∧Below w.heap.size w wr) (fun vi _=>X.length-(intOf vi).toNat)
   case atStart=>exact ⟨0,Nat.zero_le _,rfl,by simpa [zs,Zj] using O.out,HB.out⟩
   case round =>
    obtain ⟨i,hi,rfl,B,x⟩:=hrel;have y:Hid (zf w.heap.size wr (.slice J X.length h) (zs X i)):=B;have A:Hid (Below w.heap.size w wr):=x;have an:=x.size;clear B x
    by_cases hlt:i<X.length
    ·have F:(i:Int)<X.length:=by omega
     obtain ⟨g,rfl,hg,u,ap,G⟩:=Vf y.out (k:=i) (by rw [Xe];exact hlt)
     rw [Xf X i hlt] at u;obtain ⟨c,hc⟩:∃c,c=X[i]:=⟨_,rfl⟩;rw [←hc] at u;have K:Hid (∀z:UInt8,zf w.heap.size (wr.setCell ⟨g,i,none⟩ (.int .u8 (z.toNat:Int))) (.slice (some ⟨g,0,none⟩) X.length h) ((zs X i).set i z)):=G;have HC:Hid (c=X[i]):=hc;clear G hc
     by_cases h1:c.toNat<32
     ·have d1:((c.toNat:Nat):Int)<32:=by omega
      have HS:Hid ((zs X i).set i 63=zs X (i+1)):=Ye X i hlt 63 (by unfold yK;rw [if_pos (.inl (by rw [←HC.out,UInt8.lt_iff_toNat_lt];exact h1))])
      go_wp2
      have h9:=K.out 63;rw [HS.out] at h9;exact ⟨⟨i+1,by omega,by go_num,h9,A.out.setCell (p:=⟨g,i,none⟩) hg _⟩,by simp [intOf];omega⟩
     ·have d1:¬ ((c.toNat:Nat):Int)<32:=by omega
      by_cases h2:126<c.toNat
      ·have d2:(126:Int)<((c.toNat:Nat):Int):=by omega
       have HS:Hid ((zs X i).set i 63=zs X (i+1)):=Ye X i hlt 63 (by unfold yK;rw [if_pos (.inr (by rw [←HC.out,UInt8.lt_iff_toNat_lt];exact h2))])
       go_wp2
       have h9:=K.out 63;rw [HS.out] at h9;exact ⟨⟨i+1,by omega,by go_num,h9,A.out.setCell (p:=⟨g,i,none⟩) hg _⟩,by simp [intOf];omega⟩
      ·have d2:¬ (126:Int)<((c.toNat:Nat):Int):=by omega
       have HS:Hid (zs X i=zs X (i+1)):=xF X i hlt (by
        unfold yK
        rw [if_neg];rw [←HC.out,not_or,UInt8.lt_iff_toNat_lt,UInt8.lt_iff_toNat_lt]
        exact ⟨h1,h2⟩)
       rw [HS.out] at y;go_wp2
       exact ⟨⟨i+1,by omega,by go_num,y.out,A.out⟩,by simp [intOf];omega⟩
    ·have F:¬ (i:Int)<X.length:=by omega
     obtain rfl:i=X.length:=by omega
     rw [Xg] at y;obtain ⟨Y,hY⟩:∃Y,Y=Zj X:=⟨_,rfl⟩;have V:Y.length=X.length:=by rw [hY,Zh]
     rw [←hY] at y HR;clear hY
     by_cases h2:200<X.length
     ·have ai:(200:Int)<(X.length:Int):=by omega
      have aa:Hid (zf w.heap.size wr (.slice J 197 h) (Y.take 197)):=by
       have:=y.out
       rw [←V] at this;exact Yb this 197 (by omega)
      have av:∀W:World,(Instr.slice 44 (.slice J X.length h) none (some (.int .i64 197)) none).run Tryz.prog W=.ok (.slice J 197 h) W:=fun W=>by
       rw [run_slice_h (P:=Tryz.prog) (w:=W) 44 J X.length h Tryz.underlying44 .i64 197 (by omega) (by omega)]
       cases J <;> simp [sliced,go_sem,Addr.add]
      have ad:(Y.take 197).length=197:=by rw [List.length_take];omega
      go_wp2_with (at_builtin;refine ze rfl _ _ rfl w.heap.size _ (Y.take 197) rfl aa.out.own zS rfl (by rw [ad];simp [zS]) (by omega) ?_;intro v5 w5 D E;obtain ⟨b5,H,rfl,m,-,-,-⟩:=Zq D;have M:=ZA w5 b5 _ H m;rw [show (Y.take 197++zS).length=200 by rw [List.length_append,ad];rfl] at M ⊢)
      have U:Hid (Below w.heap.size w w5):=A.out.grown E (by omega) (fun q hq=>by have:=aa.out.lt q hq;omega)
      clear m D E;go_ret
      rw [HR.out,if_pos h2];exact ⟨rfl,U.out⟩
     ·have ai:¬ (200:Int)<(X.length:Int):=by omega
      obtain ⟨b5,H,ae,m,-,-,-⟩:=Zq y.out.own;rw [V] at ae;cases ae
      have M:=ZA wr J _ h m;rw [V] at M;go_wp2
      go_ret
      rw [HR.out,if_neg h2];exact ⟨rfl,A.out⟩
end Go.Proofs.YtbjndgachcdbcaaGreatDoor
