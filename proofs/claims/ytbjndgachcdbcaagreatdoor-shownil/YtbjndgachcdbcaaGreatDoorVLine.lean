import Derived.Test.YtbjndgachcdbcaaGreatDoorVMath
import Derived.Deep.DeepCutAuto
namespace Go.Proofs.YtbjndgachcdbcaaGreatDoor
open Go.RowKit Go.Shelf
set_option maxHeartbeats 16000000
set_option maxRecDepth 100000
theorem XD {l:List (List UInt8)} {i:Nat} (h:i<l.length):(l.take (i+1)).flatten=(l.take i).flatten++l[i]:=by
 have e:l.take i++[l[i]]=l.take (i+1):=List.take_append_getElem h;rw [←e,List.flatten_append];simp
theorem Vg (l:List (List UInt8)) (i:Nat):(l.take i).flatten.length≤l.flatten.length:=by
 conv=>rhs;rw [←List.take_append_drop i l]
 rw [List.flatten_append,List.length_append];omega
theorem xW (S:Nat→Prop) (l:List (List UInt8)) (v:Value) (w:World) (hin:rowIn S w v 1 xS l) (hl:l.length≤1099511627776) (htot:l.flatten.length≤70368744177664) :
  Calls Tryz.prog 28 #[v] w fun e w'=>e=.returned (.string (za (zB l.flatten)))∧Below w.heap.size w w':=by
 obtain ⟨base,au,rfl,ai,ag,ae⟩:=hin.at
 have am:Hid (∀i (hi:i<l.length),∃b o,base=some ⟨b,o,none⟩∧S b∧b<w.heap.size∧xS w b (o+i*1) l[i]):=ae
 have al:l.length≤9223372036854775000:=by omega
 have ah:Hid (∀i,(l.take i).flatten.length≤70368744177664):=fun i=>Nat.le_trans (Vg l i) htot
 have HR:Hid (zB l.flatten=if 200<l.flatten.length then (Zl l.flatten).take 197++zS else Zl l.flatten):=rfl
 obtain ⟨R,hR⟩:∃R,R=zB l.flatten:=⟨_,rfl⟩;rw [←hR] at HR ⊢;have I:Hid (l.flatten.length≤70368744177664):=htot;clear ae hin hR htot hl
 go_enter Tryz.func28,Tryz.ntmps28
 go_wp2
 go_loopw [3,10] (fun vb vi wr=>∃i:Nat,i≤l.length∧vi=.int .i64 (i:Int)∧zf w.heap.size wr vb (l.take i).flatten∧Below w.heap.size w wr) (fun _ vi _=>l.length-(intOf vi).toNat)
 case atStart=>exact ⟨0,Nat.zero_le _,rfl,World.ownsRow_nil _ _ _ _,Below.refl _ _⟩
 case round =>
  obtain ⟨i,hi,rfl,B,y⟩:=hrel;have M:Hid (zf w.heap.size wr u3 (l.take i).flatten):=B;have HB:Hid (Below w.heap.size w wr):=y;have aw:=y.size;clear B y
  by_cases hlt:i<l.length
  ·have F:(i:Int)<l.length:=by omega
   obtain ⟨b,o,rfl,-,ak,hc⟩:=am.out i hlt
   have m:wr.cell? ⟨b,o+i,none⟩=some (.string (za l[i])):=by
    have:=(zh (g:=b) (j:=o+i*1) HB.out ak).trans hc
    simpa only [Nat.mul_one] using this
   have HN:Hid ((l.take (i+1)).flatten=(l.take i).flatten++l[i]):=XD hlt;have O:=ah.out (i+1);rw [HN.out,List.length_append] at O;obtain ⟨s,hs⟩:∃s,s=l[i]:=⟨_,rfl⟩;rw [←hs] at m O HN;obtain ⟨P,hP⟩:∃P,P=(l.take i).flatten:=⟨_,rfl⟩;rw [←hP] at M O HN;clear hc hs hP
   go_wp2_with (at_builtin;refine ze rfl _ _ rfl w.heap.size _ P rfl M.out.own s rfl (by omega) (by omega) ?_;intro v5 w5 A D)
   have Z:Hid (Below w.heap.size w w5):=HB.out.grown D (by omega) (fun q hq=>by have:=M.out.lt q hq;omega)
   have aj:Hid (zf w.heap.size w5 v5 (P++s)):=A;clear A D;go_wp2
   exact ⟨⟨i+1,by omega,by go_num,by rw [HN.out];exact aj.out,Z.out⟩,by simp [intOf];omega⟩
  ·have F:¬ (i:Int)<l.length:=by omega
   obtain rfl:i=l.length:=by omega
   rw [List.take_length] at M;obtain ⟨X,hX⟩:∃X,X=l.flatten:=⟨_,rfl⟩;rw [←hX] at M HR I;have aq:=I.out;obtain ⟨H,h,rfl,V,ar,av,ap⟩:=Zs M.out.own;clear hX V F al ai ag;go_wp2
   go_loopw [20] (fun vi wr=>∃i:Nat,i≤X.length∧vi=.int .i64 (i:Int)∧zf w.heap.size wr (.slice H X.length h) (zt X i)∧Below w.heap.size w wr) (fun vi _=>X.length-(intOf vi).toNat)
   case atStart=>exact ⟨0,Nat.zero_le _,rfl,by simpa [zt,Zl] using M.out,HB.out⟩
   case round =>
    obtain ⟨i,hi,rfl,B,y⟩:=hrel;have x:Hid (zf w.heap.size wr (.slice H X.length h) (zt X i)):=B;have E:Hid (Below w.heap.size w wr):=y;have an:=y.size;clear B y
    by_cases hlt:i<X.length
    ·have F:(i:Int)<X.length:=by omega
     obtain ⟨g,rfl,hg,m,ax,K⟩:=VM x.out (k:=i) (by rw [Xv];exact hlt)
     rw [Xw X i hlt] at m;obtain ⟨c,hc⟩:∃c,c=X[i]:=⟨_,rfl⟩;rw [←hc] at m;have J:Hid (∀z:UInt8,zf w.heap.size (wr.setCell ⟨g,i,none⟩ (.int .u8 (z.toNat:Int))) (.slice (some ⟨g,0,none⟩) X.length h) ((zt X i).set i z)):=K;have HC:Hid (c=X[i]):=hc;clear K hc
     by_cases h1:c.toNat<32
     ·have d1:((c.toNat:Nat):Int)<32:=by omega
      have HS:Hid ((zt X i).set i 63=zt X (i+1)):=Yq X i hlt 63 (by unfold yR;rw [if_pos (.inl (by rw [←HC.out,UInt8.lt_iff_toNat_lt];exact h1))])
      go_wp2
      have h9:=J.out 63;rw [HS.out] at h9;exact ⟨⟨i+1,by omega,by go_num,h9,E.out.setCell (p:=⟨g,i,none⟩) hg _⟩,by simp [intOf];omega⟩
     ·have d1:¬ ((c.toNat:Nat):Int)<32:=by omega
      by_cases h2:126<c.toNat
      ·have d2:(126:Int)<((c.toNat:Nat):Int):=by omega
       have HS:Hid ((zt X i).set i 63=zt X (i+1)):=Yq X i hlt 63 (by unfold yR;rw [if_pos (.inr (by rw [←HC.out,UInt8.lt_iff_toNat_lt];exact h2))])
       go_wp2
       have h9:=J.out 63;rw [HS.out] at h9;exact ⟨⟨i+1,by omega,by go_num,h9,E.out.setCell (p:=⟨g,i,none⟩) hg _⟩,by simp [intOf];omega⟩
      ·have d2:¬ (126:Int)<((c.toNat:Nat):Int):=by omega
       have HS:Hid (zt X i=zt X (i+1)):=xT X i hlt (by
        unfold yR
        rw [if_neg];rw [←HC.out,not_or,UInt8.lt_iff_toNat_lt,UInt8.lt_iff_toNat_lt]
        exact ⟨h1,h2⟩)
       rw [HS.out] at x;go_wp2
       exact ⟨⟨i+1,by omega,by go_num,x.out,E.out⟩,by simp [intOf];omega⟩
    ·have F:¬ (i:Int)<X.length:=by omega
     obtain rfl:i=X.length:=by omega
     rw [Xx] at x;obtain ⟨Y,hY⟩:∃Y,Y=Zl X:=⟨_,rfl⟩;have T:Y.length=X.length:=by rw [hY,Zi]
     rw [←hY] at x HR;clear hY
     by_cases h2:200<X.length
     ·have af:(200:Int)<(X.length:Int):=by omega
      have aa:Hid (zf w.heap.size wr (.slice H 197 h) (Y.take 197)):=by
       have:=x.out
       rw [←T] at this;exact Yn this 197 (by omega)
      have ao:∀W:World,(Instr.slice 44 (.slice H X.length h) none (some (.int .i64 197)) none).run Tryz.prog W=.ok (.slice H 197 h) W:=fun W=>by
       rw [run_slice_h (P:=Tryz.prog) (w:=W) 44 H X.length h Tryz.underlying44 .i64 197 (by omega) (by omega)]
       cases H <;> simp [sliced,go_sem,Addr.add]
      have ab:(Y.take 197).length=197:=by rw [List.length_take];omega
      go_wp2_with (at_builtin;refine ze rfl _ _ rfl w.heap.size _ (Y.take 197) rfl aa.out.own zS rfl (by rw [ab];simp [zS]) (by omega) ?_;intro v5 w5 A D;obtain ⟨b5,G,rfl,u,-,-,-⟩:=Zs A;have U:=ZC w5 b5 _ G u;rw [show (Y.take 197++zS).length=200 by rw [List.length_append,ab];rfl] at U ⊢)
      have Z:Hid (Below w.heap.size w w5):=E.out.grown D (by omega) (fun q hq=>by have:=aa.out.lt q hq;omega)
      clear u A D;go_ret
      rw [HR.out,if_pos h2];exact ⟨rfl,Z.out⟩
     ·have af:¬ (200:Int)<(X.length:Int):=by omega
      obtain ⟨b5,G,ad,u,-,-,-⟩:=Zs x.out.own;rw [T] at ad;cases ad
      have U:=ZC wr H _ h u;rw [T] at U;go_wp2
      go_ret
      rw [HR.out,if_neg h2];exact ⟨rfl,E.out⟩
end Go.Proofs.YtbjndgachcdbcaaGreatDoor
