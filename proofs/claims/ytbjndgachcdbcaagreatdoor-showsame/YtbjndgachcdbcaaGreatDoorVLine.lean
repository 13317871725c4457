import Derived.Test.YtbjndgachcdbcaaGreatDoorMC18
import Derived.Deep.DeepCutAuto
namespace Go.Proofs.YtbjndgachcdbcaaGreatDoor
open Go.RowKit Go.Shelf
set_option maxHeartbeats 16000000
set_option maxRecDepth 100000
theorem vK {l:List (List UInt8)} {i:Nat} (h:i<l.length):(l.take (i+1)).flatten=(l.take i).flatten++l[i]:=by
 have e:l.take i++[l[i]]=l.take (i+1):=List.take_append_getElem h;rw [←e,List.flatten_append];simp
theorem ux (l:List (List UInt8)) (i:Nat):(l.take i).flatten.length≤l.flatten.length:=by
 conv=>rhs;rw [←List.take_append_drop i l]
 rw [List.flatten_append,List.length_append];omega
theorem XO (S:Nat→Prop) (l:List (List UInt8)) (v:Value) (w:World) (hin:rowIn S w v 1 zY l) (hl:l.length≤1099511627776) (htot:l.flatten.length≤70368744177664) :
  Calls Tryz.prog 28 #[v] w fun e w'=>e=.returned (.string (za (zG l.flatten)))∧Below w.heap.size w w':=by
 obtain ⟨base,au,rfl,an,ag,ab⟩:=hin.at
 have ai:Hid (∀i (hi:i<l.length),∃b o,base=some ⟨b,o,none⟩∧S b∧b<w.heap.size∧zY w b (o+i*1) l[i]):=ab
 have ah:l.length≤9223372036854775000:=by omega
 have ak:Hid (∀i,(l.take i).flatten.length≤70368744177664):=fun i=>Nat.le_trans (ux l i) htot
 have HR:Hid (zG l.flatten=if 200<l.flatten.length then (Zz l.flatten).take 197++z8 else Zz l.flatten):=rfl
 obtain ⟨R,hR⟩:∃R,R=zG l.flatten:=⟨_,rfl⟩;rw [←hR] at HR ⊢;have I:Hid (l.flatten.length≤70368744177664):=htot;clear ab hin hR htot hl
 go_enter Tryz.func28,Tryz.ntmps28
 go_wp2
 go_loopw [3,10] (fun vb vi wr=>∃i:Nat,i≤l.length∧vi=.int .i64 (i:Int)∧zg w.heap.size wr vb (l.take i).flatten∧Below w.heap.size w wr) (fun _ vi _=>l.length-(intOf vi).toNat)
 case atStart=>exact ⟨0,Nat.zero_le _,rfl,World.ownsRow_nil _ _ _ _,Below.refl _ _⟩
 case round =>
  obtain ⟨i,hi,rfl,E,y⟩:=hrel;have T:Hid (zg w.heap.size wr u3 (l.take i).flatten):=E;have HB:Hid (Below w.heap.size w wr):=y;have aq:=y.size;clear E y
  by_cases hlt:i<l.length
  ·have G:(i:Int)<l.length:=by omega
   obtain ⟨b,o,rfl,-,aj,hc⟩:=ai.out i hlt
   have m:wr.cell? ⟨b,o+i,none⟩=some (.string (za l[i])):=by
    have:=(zb (g:=b) (j:=o+i*1) HB.out aj).trans hc
    simpa only [Nat.mul_one] using this
   have HN:Hid ((l.take (i+1)).flatten=(l.take i).flatten++l[i]):=vK hlt;have V:=ak.out (i+1);rw [HN.out,List.length_append] at V;obtain ⟨s,hs⟩:∃s,s=l[i]:=⟨_,rfl⟩;rw [←hs] at m V HN;obtain ⟨P,hP⟩:∃P,P=(l.take i).flatten:=⟨_,rfl⟩;rw [←hP] at T V HN;clear hc hs hP
   go_wp2_with (at_builtin;refine ze rfl _ _ rfl w.heap.size _ P rfl T.out.own s rfl (by omega) (by omega) ?_;intro v5 w5 F B)
   have aa:Hid (Below w.heap.size w w5):=HB.out.grown B (by omega) (fun q hq=>by have:=T.out.lt q hq;omega)
   have al:Hid (zg w.heap.size w5 v5 (P++s)):=F;clear F B;go_wp2
   exact ⟨⟨i+1,by omega,by go_num,by rw [HN.out];exact al.out,aa.out⟩,by simp [intOf];omega⟩
  ·have G:¬ (i:Int)<l.length:=by omega
   obtain rfl:i=l.length:=by omega
   rw [List.take_length] at T;obtain ⟨X,hX⟩:∃X,X=l.flatten:=⟨_,rfl⟩;rw [←hX] at T HR I;have aw:=I.out;obtain ⟨J,h,rfl,O,ax,ar,ay⟩:=ZH T.out.own;clear hX O G ah an ag;go_wp2
   go_loopw [20] (fun vi wr=>∃i:Nat,i≤X.length∧vi=.int .i64 (i:Int)∧zg w.heap.size wr (.slice J X.length h) (zz X i)∧Below w.heap.size w wr) (fun vi _=>X.length-(intOf vi).toNat)
   case atStart=>exact ⟨0,Nat.zero_le _,rfl,by simpa [zz,Zz] using T.out,HB.out⟩
   case round =>
    obtain ⟨i,hi,rfl,E,y⟩:=hrel;have A:Hid (zg w.heap.size wr (.slice J X.length h) (zz X i)):=E;have D:Hid (Below w.heap.size w wr):=y;have ao:=y.size;clear E y
    by_cases hlt:i<X.length
    ·have G:(i:Int)<X.length:=by omega
     obtain ⟨g,rfl,hg,m,av,K⟩:=Uh A.out (k:=i) (by rw [vF];exact hlt)
     rw [vG X i hlt] at m;obtain ⟨c,hc⟩:∃c,c=X[i]:=⟨_,rfl⟩;rw [←hc] at m;have H:Hid (∀z:UInt8,zg w.heap.size (wr.setCell ⟨g,i,none⟩ (.int .u8 (z.toNat:Int))) (.slice (some ⟨g,0,none⟩) X.length h) ((zz X i).set i z)):=K;have HC:Hid (c=X[i]):=hc;clear K hc
     by_cases h1:c.toNat<32
     ·have d1:((c.toNat:Nat):Int)<32:=by omega
      have HS:Hid ((zz X i).set i 63=zz X (i+1)):=YY X i hlt 63 (by unfold Ys;rw [if_pos (.inl (by rw [←HC.out,UInt8.lt_iff_toNat_lt];exact h1))])
      go_wp2
      have h9:=H.out 63;rw [HS.out] at h9;exact ⟨⟨i+1,by omega,by go_num,h9,D.out.setCell (p:=⟨g,i,none⟩) hg _⟩,by simp [intOf];omega⟩
     ·have d1:¬ ((c.toNat:Nat):Int)<32:=by omega
      by_cases h2:126<c.toNat
      ·have d2:(126:Int)<((c.toNat:Nat):Int):=by omega
       have HS:Hid ((zz X i).set i 63=zz X (i+1)):=YY X i hlt 63 (by unfold Ys;rw [if_pos (.inr (by rw [←HC.out,UInt8.lt_iff_toNat_lt];exact h2))])
       go_wp2
       have h9:=H.out 63;rw [HS.out] at h9;exact ⟨⟨i+1,by omega,by go_num,h9,D.out.setCell (p:=⟨g,i,none⟩) hg _⟩,by simp [intOf];omega⟩
      ·have d2:¬ (126:Int)<((c.toNat:Nat):Int):=by omega
       have HS:Hid (zz X i=zz X (i+1)):=XL X i hlt (by
        unfold Ys
        rw [if_neg];rw [←HC.out,not_or,UInt8.lt_iff_toNat_lt,UInt8.lt_iff_toNat_lt]
        exact ⟨h1,h2⟩)
       rw [HS.out] at A;go_wp2
       exact ⟨⟨i+1,by omega,by go_num,A.out,D.out⟩,by simp [intOf];omega⟩
    ·have G:¬ (i:Int)<X.length:=by omega
     obtain rfl:i=X.length:=by omega
     rw [vH] at A;obtain ⟨Y,hY⟩:∃Y,Y=Zz X:=⟨_,rfl⟩;have U:Y.length=X.length:=by rw [hY,Zt]
     rw [←hY] at A HR;clear hY
     by_cases h2:200<X.length
     ·have am:(200:Int)<(X.length:Int):=by omega
      have af:Hid (zg w.heap.size wr (.slice J 197 h) (Y.take 197)):=by
       have:=A.out
       rw [←U] at this;exact YV this 197 (by omega)
      have ap:∀W:World,(Instr.slice 44 (.slice J X.length h) none (some (.int .i64 197)) none).run Tryz.prog W=.ok (.slice J 197 h) W:=fun W=>by
       rw [run_slice_h (P:=Tryz.prog) (w:=W) 44 J X.length h Tryz.underlying44 .i64 197 (by omega) (by omega)]
       cases J <;> simp [sliced,go_sem,Addr.add]
      have ae:(Y.take 197).length=197:=by rw [List.length_take];omega
      go_wp2_with (at_builtin;refine ze rfl _ _ rfl w.heap.size _ (Y.take 197) rfl af.out.own z8 rfl (by rw [ae];simp [z8]) (by omega) ?_;intro v5 w5 F B;obtain ⟨b5,M,rfl,u,-,-,-⟩:=ZH F;have Z:=ZS w5 b5 _ M u;rw [show (Y.take 197++z8).length=200 by rw [List.length_append,ae];rfl] at Z ⊢)
      have aa:Hid (Below w.heap.size w w5):=D.out.grown B (by omega) (fun q hq=>by have:=af.out.lt q hq;omega)
      clear u F B;go_ret
      rw [HR.out,if_pos h2];exact ⟨rfl,aa.out⟩
     ·have am:¬ (200:Int)<(X.length:Int):=by omega
      obtain ⟨b5,M,ad,u,-,-,-⟩:=ZH A.out.own;rw [U] at ad;cases ad
      have Z:=ZS wr J _ h u;rw [U] at Z;go_wp2
      go_ret
      rw [HR.out,if_neg h2];exact ⟨rfl,D.out⟩
end Go.Proofs.YtbjndgachcdbcaaGreatDoor
