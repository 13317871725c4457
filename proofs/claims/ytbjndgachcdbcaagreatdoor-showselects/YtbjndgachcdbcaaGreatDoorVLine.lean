import Derived.Test.YtbjndgachcdbcaaGreatDoorMC18
import Derived.Deep.DeepCutAuto
namespace Go.Proofs.YtbjndgachcdbcaaGreatDoor
open Go.RowKit Go.Shelf
set_option maxHeartbeats 16000000
set_option maxRecDepth 100000
theorem X1 {l:List (List UInt8)} {i:Nat} (h:i<l.length):(l.take (i+1)).flatten=(l.take i).flatten++l[i]:=by
 have e:l.take i++[l[i]]=l.take (i+1):=List.take_append_getElem h;rw [←e,List.flatten_append];simp
theorem VT (l:List (List UInt8)) (i:Nat):(l.take i).flatten.length≤l.flatten.length:=by
 conv=>rhs;rw [←List.take_append_drop i l]
 rw [List.flatten_append,List.length_append];omega
theorem Xs (S:Nat→Prop) (l:List (List UInt8)) (v:Value) (w:World) (hin:rowIn S w v 1 xG l) (hl:l.length≤1099511627776) (htot:l.flatten.length≤70368744177664) :
  Calls Tryz.prog 28 #[v] w fun e w'=>e=.returned (.string (za (zA l.flatten)))∧Below w.heap.size w w':=by
 obtain ⟨base,ax,rfl,ai,ak,ad⟩:=hin.at
 have al:Hid (∀i (hi:i<l.length),∃b o,base=some ⟨b,o,none⟩∧S b∧b<w.heap.size∧xG w b (o+i*1) l[i]):=ad
 have am:l.length≤9223372036854775000:=by omega
 have aj:Hid (∀i,(l.take i).flatten.length≤70368744177664):=fun i=>Nat.le_trans (VT l i) htot
 have HR:Hid (zA l.flatten=if 200<l.flatten.length then (zY l.flatten).take 197++zO else zY l.flatten):=rfl
 obtain ⟨R,hR⟩:∃R,R=zA l.flatten:=⟨_,rfl⟩;rw [←hR] at HR ⊢;have J:Hid (l.flatten.length≤70368744177664):=htot;clear ad hin hR htot hl
 go_enter Tryz.func28,Tryz.ntmps28
 go_wp2
 go_loopw [3,10] (fun vb vi wr=>∃i:Nat,i≤l.length∧vi=.int .i64 (i:Int)∧zf w.heap.size wr vb (l.take i).flatten∧Below w.heap.size w wr) (fun _ vi _=>l.length-(intOf vi).toNat)
 case atStart=>exact ⟨0,Nat.zero_le _,rfl,World.ownsRow_nil _ _ _ _,Below.refl _ _⟩
 case round =>
  obtain ⟨i,hi,rfl,E,A⟩:=hrel;have T:Hid (zf w.heap.size wr u3 (l.take i).flatten):=E;have HB:Hid (Below w.heap.size w wr):=A;have av:=A.size;clear E A
  by_cases hlt:i<l.length
  ·have G:(i:Int)<l.length:=by omega
   obtain ⟨b,o,rfl,-,ag,hc⟩:=al.out i hlt
   have u:wr.cell? ⟨b,o+i,none⟩=some (.string (za l[i])):=by
    have:=(zb (g:=b) (j:=o+i*1) HB.out ag).trans hc
    simpa only [Nat.mul_one] using this
   have HN:Hid ((l.take (i+1)).flatten=(l.take i).flatten++l[i]):=X1 hlt;have O:=aj.out (i+1);rw [HN.out,List.length_append] at O;obtain ⟨s,hs⟩:∃s,s=l[i]:=⟨_,rfl⟩;rw [←hs] at u O HN;obtain ⟨P,hP⟩:∃P,P=(l.take i).flatten:=⟨_,rfl⟩;rw [←hP] at T O HN;clear hc hs hP
   go_wp2_with (at_builtin;refine ze rfl _ _ rfl w.heap.size _ P rfl T.out.own s rfl (by omega) (by omega) ?_;intro v5 w5 D B)
   have U:Hid (Below w.heap.size w w5):=HB.out.grown B (by omega) (fun q hq=>by have:=T.out.lt q hq;omega)
   have an:Hid (zf w.heap.size w5 v5 (P++s)):=D;clear D B;go_wp2
   exact ⟨⟨i+1,by omega,by go_num,by rw [HN.out];exact an.out,U.out⟩,by simp [intOf];omega⟩
  ·have G:¬ (i:Int)<l.length:=by omega
   obtain rfl:i=l.length:=by omega
   rw [List.take_length] at T;obtain ⟨X,hX⟩:∃X,X=l.flatten:=⟨_,rfl⟩;rw [←hX] at T HR J;have aw:=J.out;obtain ⟨H,h,rfl,V,ay,au,ap⟩:=ZC T.out.own;clear hX V G am ai ak;go_wp2
   go_loopw [20] (fun vi wr=>∃i:Nat,i≤X.length∧vi=.int .i64 (i:Int)∧zf w.heap.size wr (.slice H X.length h) (zy X i)∧Below w.heap.size w wr) (fun vi _=>X.length-(intOf vi).toNat)
   case atStart=>exact ⟨0,Nat.zero_le _,rfl,by simpa [zy,zY] using T.out,HB.out⟩
   case round =>
    obtain ⟨i,hi,rfl,E,A⟩:=hrel;have y:Hid (zf w.heap.size wr (.slice H X.length h) (zy X i)):=E;have F:Hid (Below w.heap.size w wr):=A;have ao:=A.size;clear E A
    by_cases hlt:i<X.length
    ·have G:(i:Int)<X.length:=by omega
     obtain ⟨g,rfl,hg,u,aq,M⟩:=uA y.out (k:=i) (by rw [XX];exact hlt)
     rw [XY X i hlt] at u;obtain ⟨c,hc⟩:∃c,c=X[i]:=⟨_,rfl⟩;rw [←hc] at u;have I:Hid (∀z:UInt8,zf w.heap.size (wr.setCell ⟨g,i,none⟩ (.int .u8 (z.toNat:Int))) (.slice (some ⟨g,0,none⟩) X.length h) ((zy X i).set i z)):=M;have HC:Hid (c=X[i]):=hc;clear M hc
     by_cases h1:c.toNat<32
     ·have d1:((c.toNat:Nat):Int)<32:=by omega
      have HS:Hid ((zy X i).set i 63=zy X (i+1)):=YP X i hlt 63 (by unfold yo;rw [if_pos (.inl (by rw [←HC.out,UInt8.lt_iff_toNat_lt];exact h1))])
      go_wp2
      have h9:=I.out 63;rw [HS.out] at h9;exact ⟨⟨i+1,by omega,by go_num,h9,F.out.setCell (p:=⟨g,i,none⟩) hg _⟩,by simp [intOf];omega⟩
     ·have d1:¬ ((c.toNat:Nat):Int)<32:=by omega
      by_cases h2:126<c.toNat
      ·have d2:(126:Int)<((c.toNat:Nat):Int):=by omega
       have HS:Hid ((zy X i).set i 63=zy X (i+1)):=YP X i hlt 63 (by unfold yo;rw [if_pos (.inr (by rw [←HC.out,UInt8.lt_iff_toNat_lt];exact h2))])
       go_wp2
       have h9:=I.out 63;rw [HS.out] at h9;exact ⟨⟨i+1,by omega,by go_num,h9,F.out.setCell (p:=⟨g,i,none⟩) hg _⟩,by simp [intOf];omega⟩
      ·have d2:¬ (126:Int)<((c.toNat:Nat):Int):=by omega
       have HS:Hid (zy X i=zy X (i+1)):=Xp X i hlt (by
        unfold yo
        rw [if_neg];rw [←HC.out,not_or,UInt8.lt_iff_toNat_lt,UInt8.lt_iff_toNat_lt]
        exact ⟨h1,h2⟩)
       rw [HS.out] at y;go_wp2
       exact ⟨⟨i+1,by omega,by go_num,y.out,F.out⟩,by simp [intOf];omega⟩
    ·have G:¬ (i:Int)<X.length:=by omega
     obtain rfl:i=X.length:=by omega
     rw [XZ] at y;obtain ⟨Y,hY⟩:∃Y,Y=zY X:=⟨_,rfl⟩;have aa:Y.length=X.length:=by rw [hY,Zb]
     rw [←hY] at y HR;clear hY
     by_cases h2:200<X.length
     ·have ah:(200:Int)<(X.length:Int):=by omega
      have ab:Hid (zf w.heap.size wr (.slice H 197 h) (Y.take 197)):=by
       have:=y.out
       rw [←aa] at this;exact YM this 197 (by omega)
      have ar:∀W:World,(Instr.slice 44 (.slice H X.length h) none (some (.int .i64 197)) none).run Tryz.prog W=.ok (.slice H 197 h) W:=fun W=>by
       rw [run_slice_h (P:=Tryz.prog) (w:=W) 44 H X.length h Tryz.underlying44 .i64 197 (by omega) (by omega)]
       cases H <;> simp [sliced,go_sem,Addr.add]
      have af:(Y.take 197).length=197:=by rw [List.length_take];omega
      go_wp2_with (at_builtin;refine ze rfl _ _ rfl w.heap.size _ (Y.take 197) rfl ab.out.own zO rfl (by rw [af];simp [zO]) (by omega) ?_;intro v5 w5 D B;obtain ⟨b5,K,rfl,m,-,-,-⟩:=ZC D;have Z:=ZK w5 b5 _ K m;rw [show (Y.take 197++zO).length=200 by rw [List.length_append,af];rfl] at Z ⊢)
      have U:Hid (Below w.heap.size w w5):=F.out.grown B (by omega) (fun q hq=>by have:=ab.out.lt q hq;omega)
      clear m D B;go_ret
      rw [HR.out,if_pos h2];exact ⟨rfl,U.out⟩
     ·have ah:¬ (200:Int)<(X.length:Int):=by omega
      obtain ⟨b5,K,ae,m,-,-,-⟩:=ZC y.out.own;rw [aa] at ae;cases ae
      have Z:=ZK wr H _ h m;rw [aa] at Z;go_wp2
      go_ret
      rw [HR.out,if_neg h2];exact ⟨rfl,F.out⟩
end Go.Proofs.YtbjndgachcdbcaaGreatDoor
