import Derived.Test.YtbjndgachcdbcaaGreatDoorMC18
import Derived.Deep.DeepCutAuto
namespace Go.Proofs.YtbjndgachcdbcaaGreatDoor
open Go.RowKit Go.Shelf
set_option maxHeartbeats 16000000
set_option maxRecDepth 100000
theorem vd {l:List (List UInt8)} {i:Nat} (h:i<l.length):(l.take (i+1)).flatten=(l.take i).flatten++l[i]:=by
 have e:l.take i++[l[i]]=l.take (i+1):=List.take_append_getElem h;rw [←e,List.flatten_append];simp
theorem V2 (l:List (List UInt8)) (i:Nat):(l.take i).flatten.length≤l.flatten.length:=by
 conv=>rhs;rw [←List.take_append_drop i l]
 rw [List.flatten_append,List.length_append];omega
theorem Xz (S:Nat→Prop) (l:List (List UInt8)) (v:Value) (w:World) (hin:rowIn S w v 1 Y6 l) (hl:l.length≤1099511627776) (htot:l.flatten.length≤70368744177664) :
  Calls Tryz.prog 28 #[v] w fun e w'=>e=.returned (.string (za (lineB l.flatten)))∧Below w.heap.size w w':=by
 obtain ⟨base,au,rfl,ai,ah,ad⟩:=hin.at
 have am:Hid (∀i (hi:i<l.length),∃b o,base=some ⟨b,o,none⟩∧S b∧b<w.heap.size∧Y6 w b (o+i*1) l[i]):=ad
 have al:l.length≤9223372036854775000:=by omega
 have ag:Hid (∀i,(l.take i).flatten.length≤70368744177664):=fun i=>Nat.le_trans (V2 l i) htot
 have HR:Hid (lineB l.flatten=if 200<l.flatten.length then (seenB l.flatten).take 197++zM else seenB l.flatten):=rfl
 obtain ⟨R,hR⟩:∃R,R=lineB l.flatten:=⟨_,rfl⟩;rw [←hR] at HR ⊢;have H:Hid (l.flatten.length≤70368744177664):=htot;clear ad hin hR htot hl
 go_enter Tryz.func28,Tryz.ntmps28
 go_wp2
 go_loopw [3,10] (fun vb vi wr=>∃i:Nat,i≤l.length∧vi=.int .i64 (i:Int)∧zg w.heap.size wr vb (l.take i).flatten∧Below w.heap.size w wr) (fun _ vi _=>l.length-(intOf vi).toNat)
 case atStart=>exact ⟨0,Nat.zero_le _,rfl,World.ownsRow_nil _ _ _ _,Below.refl _ _⟩
 case round =>
  obtain ⟨i,hi,rfl,D,A⟩:=hrel;have HO:Hid (zg w.heap.size wr u3 (l.take i).flatten):=D;have HB:Hid (Below w.heap.size w wr):=A;have ax:=A.size;clear D A
  by_cases hlt:i<l.length
  ·have G:(i:Int)<l.length:=by omega
   obtain ⟨b,o,rfl,-,af,hc⟩:=am.out i hlt
   have m:wr.cell? ⟨b,o+i,none⟩=some (.string (za l[i])):=by
    have:=(zb (g:=b) (j:=o+i*1) HB.out af).trans hc
    simpa only [Nat.mul_one] using this
   have HN:Hid ((l.take (i+1)).flatten=(l.take i).flatten++l[i]):=vd hlt;have T:=ag.out (i+1);rw [HN.out,List.length_append] at T;obtain ⟨s,hs⟩:∃s,s=l[i]:=⟨_,rfl⟩;rw [←hs] at m T HN;obtain ⟨P,hP⟩:∃P,P=(l.take i).flatten:=⟨_,rfl⟩;rw [←hP] at HO T HN;clear hc hs hP
   go_wp2_with (at_builtin;refine zf rfl _ _ rfl w.heap.size _ P rfl HO.out.own s rfl (by omega) (by omega) ?_;intro v5 w5 F B)
   have O:Hid (Below w.heap.size w w5):=HB.out.grown B (by omega) (fun q hq=>by have:=HO.out.lt q hq;omega)
   have aj:Hid (zg w.heap.size w5 v5 (P++s)):=F;clear F B;go_wp2
   exact ⟨⟨i+1,by omega,by go_num,by rw [HN.out];exact aj.out,O.out⟩,by simp [intOf];omega⟩
  ·have G:¬ (i:Int)<l.length:=by omega
   obtain rfl:i=l.length:=by omega
   rw [List.take_length] at HO;obtain ⟨X,hX⟩:∃X,X=l.flatten:=⟨_,rfl⟩;rw [←hX] at HO HR H;have ao:=H.out;obtain ⟨J,h,rfl,Z,ar,aq,av⟩:=Zj HO.out.own;clear hX Z G al ai ah;go_wp2
   go_loopw [20] (fun vi wr=>∃i:Nat,i≤X.length∧vi=.int .i64 (i:Int)∧zg w.heap.size wr (.slice J X.length h) (zx X i)∧Below w.heap.size w wr) (fun vi _=>X.length-(intOf vi).toNat)
   case atStart=>exact ⟨0,Nat.zero_le _,rfl,by simpa [zx,seenB] using HO.out,HB.out⟩
   case round =>
    obtain ⟨i,hi,rfl,D,A⟩:=hrel;have y:Hid (zg w.heap.size wr (.slice J X.length h) (zx X i)):=D;have E:Hid (Below w.heap.size w wr):=A;have an:=A.size;clear D A
    by_cases hlt:i<X.length
    ·have G:(i:Int)<X.length:=by omega
     obtain ⟨g,rfl,hg,m,aw,K⟩:=uI y.out (k:=i) (by rw [X6];exact hlt)
     rw [X7 X i hlt] at m;obtain ⟨c,hc⟩:∃c,c=X[i]:=⟨_,rfl⟩;rw [←hc] at m;have I:Hid (∀z:UInt8,zg w.heap.size (wr.setCell ⟨g,i,none⟩ (.int .u8 (z.toNat:Int))) (.slice (some ⟨g,0,none⟩) X.length h) ((zx X i).set i z)):=K;have HC:Hid (c=X[i]):=hc;clear K hc
     by_cases h1:c.toNat<32
     ·have d1:((c.toNat:Nat):Int)<32:=by omega
      have HS:Hid ((zx X i).set i 63=zx X (i+1)):=YP X i hlt 63 (by unfold Z7;rw [if_pos (.inl (by rw [←HC.out,UInt8.lt_iff_toNat_lt];exact h1))])
      go_wp2
      have h9:=I.out 63;rw [HS.out] at h9;exact ⟨⟨i+1,by omega,by go_num,h9,E.out.setCell (p:=⟨g,i,none⟩) hg _⟩,by simp [intOf];omega⟩
     ·have d1:¬ ((c.toNat:Nat):Int)<32:=by omega
      by_cases h2:126<c.toNat
      ·have d2:(126:Int)<((c.toNat:Nat):Int):=by omega
       have HS:Hid ((zx X i).set i 63=zx X (i+1)):=YP X i hlt 63 (by unfold Z7;rw [if_pos (.inr (by rw [←HC.out,UInt8.lt_iff_toNat_lt];exact h2))])
       go_wp2
       have h9:=I.out 63;rw [HS.out] at h9;exact ⟨⟨i+1,by omega,by go_num,h9,E.out.setCell (p:=⟨g,i,none⟩) hg _⟩,by simp [intOf];omega⟩
      ·have d2:¬ (126:Int)<((c.toNat:Nat):Int):=by omega
       have HS:Hid (zx X i=zx X (i+1)):=Xw X i hlt (by
        unfold Z7
        rw [if_neg];rw [←HC.out,not_or,UInt8.lt_iff_toNat_lt,UInt8.lt_iff_toNat_lt]
        exact ⟨h1,h2⟩)
       rw [HS.out] at y;go_wp2
       exact ⟨⟨i+1,by omega,by go_num,y.out,E.out⟩,by simp [intOf];omega⟩
    ·have G:¬ (i:Int)<X.length:=by omega
     obtain rfl:i=X.length:=by omega
     rw [X8] at y;obtain ⟨Y,hY⟩:∃Y,Y=seenB X:=⟨_,rfl⟩;have U:Y.length=X.length:=by rw [hY,z7]
     rw [←hY] at y HR;clear hY
     by_cases h2:200<X.length
     ·have ak:(200:Int)<(X.length:Int):=by omega
      have ab:Hid (zg w.heap.size wr (.slice J 197 h) (Y.take 197)):=by
       have:=y.out
       rw [←U] at this;exact YM this 197 (by omega)
      have ap:∀W:World,(Instr.slice 44 (.slice J X.length h) none (some (.int .i64 197)) none).run Tryz.prog W=.ok (.slice J 197 h) W:=fun W=>by
       rw [run_slice_h (P:=Tryz.prog) (w:=W) 44 J X.length h Tryz.underlying44 .i64 197 (by omega) (by omega)]
       cases J <;> simp [sliced,go_sem,Addr.add]
      have aa:(Y.take 197).length=197:=by rw [List.length_take];omega
      go_wp2_with (at_builtin;refine zf rfl _ _ rfl w.heap.size _ (Y.take 197) rfl ab.out.own zM rfl (by rw [aa];simp [zM]) (by omega) ?_;intro v5 w5 F B;obtain ⟨b5,M,rfl,u,-,-,-⟩:=Zj F;have V:=Zq w5 b5 _ M u;rw [show (Y.take 197++zM).length=200 by rw [List.length_append,aa];rfl] at V ⊢)
      have O:Hid (Below w.heap.size w w5):=E.out.grown B (by omega) (fun q hq=>by have:=ab.out.lt q hq;omega)
      clear u F B;go_ret
      rw [HR.out,if_pos h2];exact ⟨rfl,O.out⟩
     ·have ak:¬ (200:Int)<(X.length:Int):=by omega
      obtain ⟨b5,M,ae,u,-,-,-⟩:=Zj y.out.own;rw [U] at ae;cases ae
      have V:=Zq wr J _ h u;rw [U] at V;go_wp2
      go_ret
      rw [HR.out,if_neg h2];exact ⟨rfl,E.out⟩
end Go.Proofs.YtbjndgachcdbcaaGreatDoor
