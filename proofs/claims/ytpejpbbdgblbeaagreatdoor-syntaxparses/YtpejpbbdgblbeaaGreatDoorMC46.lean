import Derived.Test.YtpejpbbdgblbeaaGreatDoorMC44
import Derived.BigQuiet
namespace Go.Proofs.YtpejpbbdgblbeaaGreatDoor
open Go.RowKit Go.Shelf
set_option maxHeartbeats 16000000
set_option maxRecDepth 100000
def qV (a:Nat) (R:TR):Value:=.tuple #[.string (za R.s),.int .i64 ((if R.e=0 then a+R.sz else 0:Nat):Int),.int .i64 R.e]
theorem Qd (l:List UInt8) (a:Nat) (w:World) (hl:l.length≤5000) (ha:a<l.length) :
  Calls Tryz.prog 105 #[.string (za l),.int .i64 (a:Nat)] w fun e w'=>e=.returned (qV a (ZI (l.drop a)))∧Below w.heap.size w w':=by
 have hsz:(za l).size=l.length:=rfl
 go_enter Tryz.func105,Tryz.ntmps105
 go_wp2
 go_loopw [7,8,9] (fun vb vg vi wr=>∃(f i j:Nat) (meant:List UInt8),vi=.int .i64 i∧vg=.bool false∧i=a+j∧1≤j∧i≤l.length∧l.length≤i+f∧meant.length≤255∧ZI (l.drop a)=Ze f meant j (l.drop i) ∧
   wr.ownsRow w.heap.size 5 1 vb meant.length (Lib.byteCells meant)∧Below w.heap.size w wr) (fun _ _ vi _=>l.length-(intOf vi).toNat)
 case atStart=>exact ⟨(l.drop a).length,a+1,1,[],by go_num,rfl,rfl,Nat.le_refl _,by omega,by rw [List.length_drop];omega,by simp,by unfold ZI;rw [List.drop_drop],World.ownsRow_nil _ _ _ _,Below.refl _ _⟩
 case round =>
  obtain ⟨f,i,j,meant,rfl,rfl,hij,hj1,hi,hfu,hme,htx,hown,hbw⟩:=hrel;have HIJ:Hid (i=a+j):=hij;have HTX:Hid (ZI (l.drop a)=Ze f meant j (l.drop i)):=htx;have HB:Hid (Below w.heap.size w wr):=hbw;have hszw:=hbw.size;have HO:Hid (wr.ownsRow w.heap.size 5 1 u7 meant.length (Lib.byteCells meant)):=hown;clear htx hbw hown hij
  by_cases hlt:i<l.length
  ·obtain ⟨x,r,hxr⟩:∃x r,l.drop i=x::r:=⟨l[i],l.drop (i+1),List.drop_eq_getElem_cons hlt⟩
   have hx0:l[i]=x:=by
    have h:=List.drop_eq_getElem_cons hlt;rw [hxr] at h;exact (List.cons.inj h).1.symm
   have hidx:=fun wx=>YO wx l i hlt
   rw [hx0] at hidx;obtain ⟨n,hn⟩:∃n,n=x.toNat:=⟨_,rfl⟩;rw [←hn] at hidx;have hn256:n<256:=by rw [hn];exact UInt8.toNat_lt x
   have HN:Hid (n=x.toNat):=hn;obtain ⟨f',rfl⟩:∃f',f=f'+1:=⟨f-1,by omega⟩
   have HT1:Hid (ZI (l.drop a)=if n=34 then ⟨3,meant,0,j+1,0⟩ else if (XV (x::r)).2=0 then ⟨0,[],0,0,6⟩ else if meant.length=255 then ⟨0,[],0,0,5⟩ else Ze f' (meant++[(XV (x::r)).1.toUInt8]) (j+(XV (x::r)).2) ((x::r).drop (XV (x::r)).2)):=show _=_ by
    rw [HTX.out,hxr,hn];rfl
   have HXR:Hid (l.drop i=x::r):=hxr;clear hx0 hn hxr HTX
   by_cases h34:n=34
   ·have HR:Hid (ZI (l.drop a)=⟨3,meant,0,j+1,0⟩):=show _=_ by rw [HT1.out,if_pos h34]
    subst h34;obtain ⟨baseM,capM,rfl,hrowM,-,-,-⟩:=YY HO.out;have hcv:=US wr baseM meant capM hrowM;clear hrowM;go_wp2
    refine bodyPost_ret (v:=qV a ⟨3,meant,0,j+1,0⟩) ?_ rfl ⟨by rw [HR.out],HB.out⟩
    have e9:(((a+(j+1):Nat)):Int)=(i:Int)+1:=by have:=HIJ.out;omega
    simp [results,Tryz.results105,go_sem,qV]
    have:=HIJ.out
    omega
   ·have h34b:((n:Int)==34)=false:=by rw [beq_eq_false_iff_ne];omega
    by_cases hbad:n<32∨126<n
    ·have HR:Hid (ZI (l.drop a)=⟨0,[],0,0,6⟩):=show _=_ by rw [HT1.out,if_neg h34,ui (by rw [←HN.out];exact hbad),if_pos rfl]
     rcases hbad with hb | hb
     ·go_wp2
      exact bodyPost_ret (v:=qV a ⟨0,[],0,0,6⟩) (by simp [results,Tryz.results105,go_sem,qV]) rfl ⟨by rw [HR.out],HB.out⟩
     ·go_wp2
      exact bodyPost_ret (v:=qV a ⟨0,[],0,0,6⟩) (by simp [results,Tryz.results105,go_sem,qV]) rfl ⟨by rw [HR.out],HB.out⟩
    ·have hb1:32≤n:=by omega
     have hb2:n≤126:=by omega
     have HBD:Hid (¬ (n<32∨126<n)):=hbad;clear hbad
     by_cases h92:n=92
     ·by_cases hend:i+1=l.length
      ·have hr0:r=[]:=by
        have h:=congrArg List.length HXR.out;rw [List.length_drop,List.length_cons] at h;exact List.length_eq_zero_iff.1 (by omega)
       have HR:Hid (ZI (l.drop a)=⟨0,[],0,0,6⟩):=show _=_ by
        rw [HT1.out,if_neg h34,hr0,UI (by rw [←HN.out];exact HBD.out) (by rw [←HN.out];exact h92),if_pos rfl]
       have hee:((i:Int)+1==(l.length:Int))=true:=by rw [beq_iff_eq];omega
       clear hr0;subst h92;go_wp2
       exact bodyPost_ret (v:=qV a ⟨0,[],0,0,6⟩) (by simp [results,Tryz.results105,go_sem,qV]) rfl ⟨by rw [HR.out],HB.out⟩
      ·have hlt2:i+1<l.length:=by omega
       have hee:((i:Int)+1==(l.length:Int))=false:=by rw [beq_eq_false_iff_ne];omega
       obtain ⟨y,t,hyt⟩:∃y t,r=y::t:=by
        cases r with
        | nil =>
         have h:=congrArg List.length HXR.out;rw [List.length_drop,List.length_cons,List.length_nil] at h;omega
        | cons y t=>exact ⟨y,t,rfl⟩
       have hy0:l[i+1]=y:=by
        have h:=HXR.out;rw [List.drop_eq_getElem_cons hlt,hyt] at h;have h2:=(List.cons.inj h).2;rw [List.drop_eq_getElem_cons hlt2] at h2;exact (List.cons.inj h2).1
       have hidx2:=fun wx=>YO wx l (i+1) hlt2
       rw [hy0] at hidx2;have e1:((i+1:Nat):Int)=(i:Int)+1:=by omega
       simp only [e1] at hidx2;obtain ⟨m,hm⟩:∃m,m=y.toNat:=⟨_,rfl⟩;rw [←hm] at hidx2;have hm256:m<256:=by rw [hm];exact UInt8.toNat_lt y
       have htb:XV (x::r)=tbE m:=by
        rw [hyt,hm];exact UJ (by rw [←HN.out];exact HBD.out) (by rw [←HN.out];exact h92)
       have HTB:Hid (XV (x::r)=tbE m):=htb;clear hyt hy0 hm htb e1;subst h92
       by_cases m92:m=92
       ·subst m92
        have HT2:Hid (ZI (l.drop a)=if meant.length=255 then ⟨0,[],0,0,5⟩ else Ze f' (meant++[((92:Nat)).toUInt8]) (j+2) (l.drop (i+2))):=show _=_ by
         rw [HT1.out,if_neg h34,show XV (x::r)=(92,2) from HTB.out,if_neg (by simp),←HXR.out,List.drop_drop]
        obtain ⟨ml,hml⟩:∃ml,ml=meant.length:=⟨_,rfl⟩;have HML:Hid (ml=meant.length):=hml;rw [←hml] at hme;clear hml
        by_cases h255:ml=255
        ·have HR:Hid (ZI (l.drop a)=⟨0,[],0,0,5⟩):=show _=_ by rw [HT2.out,if_pos (by rw [←HML.out];exact h255)]
         subst h255
         go_wp2_with (at_builtin;refine ZY rfl _ _ rfl w.heap.size _ meant rfl (HO.out.alloc _) _ [((92:Nat)).toUInt8] rfl (yy (r:=(92:Nat)) (by omega) (by simp)) (by have:=HML.out;simp;omega) (by simp;omega) ?_;intro v3 w3 hown3 hgrow;obtain ⟨b3,cap3,rfl,-,-,-,-⟩:=YY hown3;rw [show (meant++[((92:Nat)).toUInt8]).length=256 by rw [List.length_append,←HML.out];rfl])
         exact bodyPost_ret (v:=qV a ⟨0,[],0,0,5⟩) (by simp [results,Tryz.results105,go_sem,qV]) rfl ⟨by rw [HR.out],(HB.out.alloc (by omega) _).grown hgrow (by simp;omega) (fun q hq=>(HO.out.lt q hq).1)⟩
        ·have h255b:decide ((255:Int)<(ml:Int)+1)=false:=by simp;omega
         have HR:Hid (ZI (l.drop a)=Ze f' (meant++[((92:Nat)).toUInt8]) (j+2) (l.drop (i+2))):=show _=_ by
          rw [HT2.out,if_neg (by rw [←HML.out];exact h255)]
         go_wp2_with (at_builtin;refine ZY rfl _ _ rfl w.heap.size _ meant rfl (HO.out.alloc _) _ [((92:Nat)).toUInt8] rfl (yy (r:=(92:Nat)) (by omega) (by simp)) (by have:=HML.out;simp;omega) (by simp;omega) ?_;intro v3 w3 hown3 hgrow;obtain ⟨b3,cap3,rfl,-,-,-,-⟩:=YY hown3;rw [show (meant++[((92:Nat)).toUInt8]).length=ml+1 by rw [HML.out];simp])
         have HB4:Hid (Below w.heap.size w w3):=(HB.out.alloc (by omega) _).grown hgrow (by simp;omega) (fun q hq=>(HO.out.lt q hq).1)
         have HO4:Hid (w3.ownsRow w.heap.size 5 1 (.slice b3 (ml+1) cap3) (meant++[((92:Nat)).toUInt8]).length (Lib.byteCells (meant++[((92:Nat)).toUInt8]))):=by
          have e9:(meant++[((92:Nat)).toUInt8]).length=ml+1:=by rw [HML.out];simp
          rw [e9] at hown3 ⊢;exact hown3
         clear hgrow hown3;refine ⟨⟨f',i+2,j+2,meant++[((92:Nat)).toUInt8],by go_num,by first | rfl | rw [h255b],by have:=HIJ.out;omega,by omega,by omega,by omega,?_,HR.out,HO4.out,HB4.out⟩,by simp [intOf];omega⟩
         rw [List.length_append,List.length_singleton,←HML.out];omega
       ·have m92b:((m:Int) != 92)=true:=by rw [bne_iff_ne];omega
        by_cases m34:m=34
        ·subst m34
         have HT2:Hid (ZI (l.drop a)=if meant.length=255 then ⟨0,[],0,0,5⟩ else Ze f' (meant++[((34:Nat)).toUInt8]) (j+2) (l.drop (i+2))):=show _=_ by
          rw [HT1.out,if_neg h34,show XV (x::r)=(34,2) from HTB.out,if_neg (by simp),←HXR.out,List.drop_drop]
         obtain ⟨ml,hml⟩:∃ml,ml=meant.length:=⟨_,rfl⟩;have HML:Hid (ml=meant.length):=hml;rw [←hml] at hme;clear hml
         by_cases h255:ml=255
         ·have HR:Hid (ZI (l.drop a)=⟨0,[],0,0,5⟩):=show _=_ by rw [HT2.out,if_pos (by rw [←HML.out];exact h255)]
          subst h255
          go_wp2_with (at_builtin;refine ZY rfl _ _ rfl w.heap.size _ meant rfl (HO.out.alloc _) _ [((34:Nat)).toUInt8] rfl (yy (r:=(34:Nat)) (by omega) (by simp)) (by have:=HML.out;simp;omega) (by simp;omega) ?_;intro v3 w3 hown3 hgrow;obtain ⟨b3,cap3,rfl,-,-,-,-⟩:=YY hown3;rw [show (meant++[((34:Nat)).toUInt8]).length=256 by rw [List.length_append,←HML.out];rfl])
          exact bodyPost_ret (v:=qV a ⟨0,[],0,0,5⟩) (by simp [results,Tryz.results105,go_sem,qV]) rfl ⟨by rw [HR.out],(HB.out.alloc (by omega) _).grown hgrow (by simp;omega) (fun q hq=>(HO.out.lt q hq).1)⟩
         ·have h255b:decide ((255:Int)<(ml:Int)+1)=false:=by simp;omega
          have HR:Hid (ZI (l.drop a)=Ze f' (meant++[((34:Nat)).toUInt8]) (j+2) (l.drop (i+2))):=show _=_ by
           rw [HT2.out,if_neg (by rw [←HML.out];exact h255)]
          go_wp2_with (at_builtin;refine ZY rfl _ _ rfl w.heap.size _ meant rfl (HO.out.alloc _) _ [((34:Nat)).toUInt8] rfl (yy (r:=(34:Nat)) (by omega) (by simp)) (by have:=HML.out;simp;omega) (by simp;omega) ?_;intro v3 w3 hown3 hgrow;obtain ⟨b3,cap3,rfl,-,-,-,-⟩:=YY hown3;rw [show (meant++[((34:Nat)).toUInt8]).length=ml+1 by rw [HML.out];simp])
          have HB4:Hid (Below w.heap.size w w3):=(HB.out.alloc (by omega) _).grown hgrow (by simp;omega) (fun q hq=>(HO.out.lt q hq).1)
          have HO4:Hid (w3.ownsRow w.heap.size 5 1 (.slice b3 (ml+1) cap3) (meant++[((34:Nat)).toUInt8]).length (Lib.byteCells (meant++[((34:Nat)).toUInt8]))):=by
           have e9:(meant++[((34:Nat)).toUInt8]).length=ml+1:=by rw [HML.out];simp
           rw [e9] at hown3 ⊢;exact hown3
          clear hgrow hown3;refine ⟨⟨f',i+2,j+2,meant++[((34:Nat)).toUInt8],by go_num,by first | rfl | rw [h255b],by have:=HIJ.out;omega,by omega,by omega,by omega,?_,HR.out,HO4.out,HB4.out⟩,by simp [intOf];omega⟩
          rw [List.length_append,List.length_singleton,←HML.out];omega
        ·have m34b:((m:Int) != 34)=true:=by rw [bne_iff_ne];omega
         by_cases m110:m=110
         ·subst m110
          have HT2:Hid (ZI (l.drop a)=if meant.length=255 then ⟨0,[],0,0,5⟩ else Ze f' (meant++[((10:Nat)).toUInt8]) (j+2) (l.drop (i+2))):=show _=_ by
           rw [HT1.out,if_neg h34,show XV (x::r)=(10,2) from HTB.out,if_neg (by simp),←HXR.out,List.drop_drop]
          obtain ⟨ml,hml⟩:∃ml,ml=meant.length:=⟨_,rfl⟩;have HML:Hid (ml=meant.length):=hml;rw [←hml] at hme;clear hml
          by_cases h255:ml=255
          ·have HR:Hid (ZI (l.drop a)=⟨0,[],0,0,5⟩):=show _=_ by rw [HT2.out,if_pos (by rw [←HML.out];exact h255)]
           subst h255
           go_wp2_with (at_builtin;refine ZY rfl _ _ rfl w.heap.size _ meant rfl (HO.out.alloc _) _ [((10:Nat)).toUInt8] rfl (yy (r:=(10:Nat)) (by omega) (by simp)) (by have:=HML.out;simp;omega) (by simp;omega) ?_;intro v3 w3 hown3 hgrow;obtain ⟨b3,cap3,rfl,-,-,-,-⟩:=YY hown3;rw [show (meant++[((10:Nat)).toUInt8]).length=256 by rw [List.length_append,←HML.out];rfl])
           exact bodyPost_ret (v:=qV a ⟨0,[],0,0,5⟩) (by simp [results,Tryz.results105,go_sem,qV]) rfl ⟨by rw [HR.out],(HB.out.alloc (by omega) _).grown hgrow (by simp;omega) (fun q hq=>(HO.out.lt q hq).1)⟩
          ·have h255b:decide ((255:Int)<(ml:Int)+1)=false:=by simp;omega
           have HR:Hid (ZI (l.drop a)=Ze f' (meant++[((10:Nat)).toUInt8]) (j+2) (l.drop (i+2))):=show _=_ by
            rw [HT2.out,if_neg (by rw [←HML.out];exact h255)]
           go_wp2_with (at_builtin;refine ZY rfl _ _ rfl w.heap.size _ meant rfl (HO.out.alloc _) _ [((10:Nat)).toUInt8] rfl (yy (r:=(10:Nat)) (by omega) (by simp)) (by have:=HML.out;simp;omega) (by simp;omega) ?_;intro v3 w3 hown3 hgrow;obtain ⟨b3,cap3,rfl,-,-,-,-⟩:=YY hown3;rw [show (meant++[((10:Nat)).toUInt8]).length=ml+1 by rw [HML.out];simp])
           have HB4:Hid (Below w.heap.size w w3):=(HB.out.alloc (by omega) _).grown hgrow (by simp;omega) (fun q hq=>(HO.out.lt q hq).1)
           have HO4:Hid (w3.ownsRow w.heap.size 5 1 (.slice b3 (ml+1) cap3) (meant++[((10:Nat)).toUInt8]).length (Lib.byteCells (meant++[((10:Nat)).toUInt8]))):=by
            have e9:(meant++[((10:Nat)).toUInt8]).length=ml+1:=by rw [HML.out];simp
            rw [e9] at hown3 ⊢;exact hown3
           clear hgrow hown3;refine ⟨⟨f',i+2,j+2,meant++[((10:Nat)).toUInt8],by go_num,by first | rfl | rw [h255b],by have:=HIJ.out;omega,by omega,by omega,by omega,?_,HR.out,HO4.out,HB4.out⟩,by simp [intOf];omega⟩
           rw [List.length_append,List.length_singleton,←HML.out];omega
         ·have m110b:((m:Int) != 110)=true:=by rw [bne_iff_ne];omega
          have HR:Hid (ZI (l.drop a)=⟨0,[],0,0,6⟩):=show _=_ by
           rw [HT1.out,if_neg h34,HTB.out]
           unfold tbE
           rw [if_neg m92,if_neg m34,if_neg m110,if_pos rfl]
          go_wp2
          exact bodyPost_ret (v:=qV a ⟨0,[],0,0,6⟩) (by simp [results,Tryz.results105,go_sem,qV]) rfl ⟨by rw [HR.out],HB.out⟩
     ·have h92b:((n:Int)==92)=false:=by rw [beq_eq_false_iff_ne];omega
      have HTB:Hid (XV (x::r)=(n,1)):=show _=_ by rw [uj (by rw [←HN.out];exact HBD.out) (by rw [←HN.out];exact h92),←HN.out]
      have HT2:Hid (ZI (l.drop a)=if meant.length=255 then ⟨0,[],0,0,5⟩ else Ze f' (meant++[(n).toUInt8]) (j+1) (l.drop (i+1))):=show _=_ by
       rw [HT1.out,if_neg h34,HTB.out,if_neg (by simp),←HXR.out,List.drop_drop]
      obtain ⟨ml,hml⟩:∃ml,ml=meant.length:=⟨_,rfl⟩;have HML:Hid (ml=meant.length):=hml;rw [←hml] at hme;clear hml
      by_cases h255:ml=255
      ·have HR:Hid (ZI (l.drop a)=⟨0,[],0,0,5⟩):=show _=_ by rw [HT2.out,if_pos (by rw [←HML.out];exact h255)]
       subst h255
       go_wp2_with (at_builtin;refine ZY rfl _ _ rfl w.heap.size _ meant rfl (HO.out.alloc _) _ [(n).toUInt8] rfl (yy (r:=n) (by omega) (by simp)) (by have:=HML.out;simp;omega) (by simp;omega) ?_;intro v3 w3 hown3 hgrow;obtain ⟨b3,cap3,rfl,-,-,-,-⟩:=YY hown3;rw [show (meant++[(n).toUInt8]).length=256 by rw [List.length_append,←HML.out];rfl])
       exact bodyPost_ret (v:=qV a ⟨0,[],0,0,5⟩) (by simp [results,Tryz.results105,go_sem,qV]) rfl ⟨by rw [HR.out],(HB.out.alloc (by omega) _).grown hgrow (by simp;omega) (fun q hq=>(HO.out.lt q hq).1)⟩
      ·have h255b:decide ((255:Int)<(ml:Int)+1)=false:=by simp;omega
       have HR:Hid (ZI (l.drop a)=Ze f' (meant++[(n).toUInt8]) (j+1) (l.drop (i+1))):=show _=_ by
        rw [HT2.out,if_neg (by rw [←HML.out];exact h255)]
       go_wp2_with (at_builtin;refine ZY rfl _ _ rfl w.heap.size _ meant rfl (HO.out.alloc _) _ [(n).toUInt8] rfl (yy (r:=n) (by omega) (by simp)) (by have:=HML.out;simp;omega) (by simp;omega) ?_;intro v3 w3 hown3 hgrow;obtain ⟨b3,cap3,rfl,-,-,-,-⟩:=YY hown3;rw [show (meant++[(n).toUInt8]).length=ml+1 by rw [HML.out];simp])
       have HB4:Hid (Below w.heap.size w w3):=(HB.out.alloc (by omega) _).grown hgrow (by simp;omega) (fun q hq=>(HO.out.lt q hq).1)
       have HO4:Hid (w3.ownsRow w.heap.size 5 1 (.slice b3 (ml+1) cap3) (meant++[(n).toUInt8]).length (Lib.byteCells (meant++[(n).toUInt8]))):=by
        have e9:(meant++[(n).toUInt8]).length=ml+1:=by rw [HML.out];simp
        rw [e9] at hown3 ⊢;exact hown3
       clear hgrow hown3;refine ⟨⟨f',i+1,j+1,meant++[(n).toUInt8],by go_num,by first | rfl | rw [h255b],by have:=HIJ.out;omega,by omega,by omega,by omega,?_,HR.out,HO4.out,HB4.out⟩,by simp [intOf];omega⟩
       rw [List.length_append,List.length_singleton,←HML.out];omega
  ·obtain rfl:i=l.length:=by omega
   have HR:Hid (ZI (l.drop a)=⟨0,[],0,0,6⟩):=show _=_ by
    rw [HTX.out,List.drop_length];cases f <;> rfl
   go_wp2
   exact bodyPost_ret (v:=qV a ⟨0,[],0,0,6⟩) (by simp [results,Tryz.results105,go_sem,qV]) rfl ⟨by rw [HR.out],HB.out⟩
theorem zaq (w:World) :
  Calls Tryz.prog 106 #[] w fun e w'=>e=.returned (.slice (some ⟨w.heap.size,0,none⟩) 25 25)∧w'=w.alloc (.cells (refSigns.map fun x=>Value.string (za x)).toArray 9):=by
 go_enter Tryz.func106,Tryz.ntmps106
 go_wp2
 go_ret
 exact ⟨rfl,rfl⟩
def Vx (K N' X E:Nat) (s:List UInt8):Value:=.tuple #[.agg #[.int .i64 K,.string (za s),.int .i64 N',.int .i64 0,.int .i64 0],.int .i64 X,.int .i64 E]
def rtR (a:Nat) (R:TR) (v:Value):Prop:=∃(K N' X:Nat) (s:List UInt8),v=Vx K N' X R.e s∧(R.e=0→K=R.k∧s=R.s∧N'=R.n∧X=a+R.sz)
theorem VP {a:Nat} {R R':TR} (h:R=R'):rtR a R (Vx R'.k R'.n (a+R'.sz) R'.e R'.s):=by
 subst h;exact ⟨_,_,_,_,rfl,fun _=>⟨rfl,rfl,rfl,rfl⟩⟩
theorem uo {a K X e:Nat} {R:TR} {s:List UInt8} (h:R.e=e) (he:e≠0):rtR a R (Vx K 0 X e s):=by
 subst h;exact ⟨_,_,_,_,rfl,fun h=>absurd h he⟩
theorem uT {p:UInt8→Bool} {l:List UInt8} {a k:Nat} (hk:a+k≤l.length) (h1:∀j (h:a+j<l.length),j<k→p l[a+j]=true) (h2:∀h:a+k<l.length,p l[a+k]=false):((l.drop a).takeWhile p).length=k:=by
 refine xH p (l.drop a) k (by rw [List.length_drop];omega) (fun j h hj=>?_) (fun h=>?_)
 ·rw [List.getElem_drop];exact h1 j (by rw [List.length_drop] at h;omega) hj
 ·rw [List.getElem_drop];exact h2 (by rw [List.length_drop] at h;omega)
theorem UK {p:UInt8→Bool} {l:List UInt8} {a k:Nat} (h:((l.drop a).takeWhile p).length=k):(l.drop a).take k=(l.drop a).takeWhile p:=by
 rw [←h];exact XX p _
theorem Qe (l:List UInt8) (a:Nat) (w:World) (hl:l.length≤5000) (ha:a<l.length) (hk:Zv (l[a]).toNat=true) :
  Calls Tryz.prog 58 #[.string (za l),.int .i64 (a:Nat)] w fun e w'=>(∃v,e=.returned v∧rtR a (yH (l.drop a)) v)∧Below w.heap.size w w':=by
 have hsz:(za l).size=l.length:=rfl;have hA:Below w.heap.size w (w.alloc yA):=(Below.refl w.heap.size w).alloc (Nat.le_refl _) _;have HA:Hid (Below w.heap.size w (w.alloc yA)):=hA;have hidx:=fun wx=>YO wx l a ha
 obtain ⟨n,hn⟩:∃n,n=(l[a]).toNat:=⟨_,rfl⟩;rw [←hn] at hidx hk;have hn256:n<256:=by rw [hn];exact UInt8.toNat_lt _
 have c1:=YT n (w.alloc yA) hn256;rw [hk] at c1;clear hA hn
 go_enter Tryz.func58,Tryz.ntmps58
 go_wp2_with fail
 refine c1.mono ?_;clear c1;rintro e w1 ⟨rfl,rfl⟩;go_wp2_with fail
 go_loopw [8] (fun v wr=>∃k:Nat,v=.int .i64 ((a:Int)+k)∧a+k≤l.length∧(∀j (h:a+j<l.length),j<k→Ym (l[a+j]).toNat=true)∧wr=w.alloc yA) (fun v _=>l.length-(intOf v).toNat)
 case atStart=>exact ⟨0,by simp,by omega,fun j h hj=>by omega,rfl⟩
 case round =>
  obtain ⟨k,rfl,hk2,hall,rfl⟩:=hrel;have HAL:Hid (∀j (h:a+j<l.length),j<k→Ym (l[a+j]).toNat=true):=hall;clear hall hidx
  by_cases hlt:a+k<l.length
  ·have hidx:=fun wx=>YO wx l (a+k) hlt
   have e1:((a+k:Nat):Int)=(a:Int)+k:=by omega
   simp only [e1] at hidx;have hi2:(a:Int)+k<l.length:=by omega
   obtain ⟨c,hc⟩:∃c,c=(l[a+k]).toNat:=⟨_,rfl⟩;rw [←hc] at hidx;have hc256:c<256:=by rw [hc];exact UInt8.toNat_lt _
   have HC:Hid (c=(l[a+k]).toNat):=hc;clear hc e1;have c2:=YT c (w.alloc yA) hc256;have c3:=xi c (w.alloc yA) hc256;go_wp2_with fail
   refine c2.mono ?_;clear c2;rintro e w1 ⟨rfl,rfl⟩;cases h1:Zv c with
   | true =>
    go_wp2
    refine ⟨⟨k+1,by go_num,by omega,fun j h hj=>?_,by first | rfl | trivial⟩,by simp [intOf];omega⟩
    by_cases hji:j<k
    ·exact HAL.out j h hji
    ·obtain rfl:j=k:=by omega
     rw [←HC.out];simp [Ym,h1]
   | false =>
    go_wp2_with fail
    refine c3.mono ?_;rintro e w1 ⟨rfl,rfl⟩;cases h2:Zn c with
    | true =>
     go_wp2
     refine ⟨⟨k+1,by go_num,by omega,fun j h hj=>?_,by first | rfl | trivial⟩,by simp [intOf];omega⟩
     by_cases hji:j<k
     ·exact HAL.out j h hji
     ·obtain rfl:j=k:=by omega
      rw [←HC.out];simp [Ym,h2]
    | false =>
     have HL:Hid (((l.drop a).takeWhile fun c=>Ym c.toNat).length=k):=uT hk2 HAL.out (fun _=>by rw [←HC.out];simp [Ym,h1,h2])
     clear hidx;have hsub:=fun wx=>vu wx l a k hk2
     have HNL:Hid ((l.drop a).take k=yz (l.drop a)):=UK HL.out;rw [HNL.out] at hsub;obtain ⟨x,hx⟩:∃x,x=yz (l.drop a):=⟨_,rfl⟩;rw [←hx] at hsub;have hxl:x.length=k:=by rw [hx];exact HL.out
     have hszx:(za x).size=k:=hxl;have HX:Hid (x=yz (l.drop a)):=hx;have cW:=Uo x (w.alloc yA);rw [World.size_alloc] at cW;clear hx;go_wp2_with fail
     refine cW.mono ?_;clear cW;rintro e w2 ⟨rfl,hb2⟩;obtain ⟨hc1,hf1⟩:=YS hb2;have HB:Hid (Below w.heap.size w w2):=HA.out.trans (hb2.mono (by omega))
     clear hb2;cases hq:yZ x with
     | true =>
      have HR:Hid (yH (l.drop a)=⟨5,x,0,k,0⟩):=by unfold yH;rw [←HX.out,if_pos hq,hxl];rfl
      go_wp2
      exact bodyPost_ret (v:=Vx 5 0 (a+k) 0 x) (by simp [results,Tryz.results58,go_sem,Vx,hc1]) rfl ⟨⟨_,rfl,VP HR.out⟩,Zr HB.out _ _ _ _ _⟩
     | false =>
      by_cases h20:20<k
      ·have HR:Hid (yH (l.drop a)=⟨0,[],0,0,5⟩):=by unfold yH;rw [←HX.out,if_neg (by rw [hq];simp),if_pos (by rw [hxl];exact h20)];rfl
       go_wp2
       exact bodyPost_ret (v:=Vx 0 0 0 5 []) (by simp [results,Tryz.results58,go_sem,Vx,hc1]) rfl ⟨⟨_,rfl,uo (by rw [HR.out]) (by decide)⟩,Zr HB.out _ _ _ _ _⟩
      ·have HR:Hid (yH (l.drop a)=⟨1,x,0,k,0⟩):=by unfold yH;rw [←HX.out,if_neg (by rw [hq];simp),if_neg (by rw [hxl];exact h20),hxl];rfl
       go_wp2
       exact bodyPost_ret (v:=Vx 1 0 (a+k) 0 x) (by simp [results,Tryz.results58,go_sem,Vx,hc1]) rfl ⟨⟨_,rfl,VP HR.out⟩,Zr HB.out _ _ _ _ _⟩
  ·have hi2:¬ (a:Int)+k<l.length:=by omega
   have HL:Hid (((l.drop a).takeWhile fun c=>Ym c.toNat).length=k):=uT hk2 HAL.out (fun h=>absurd h (by omega))
   have hsub:=fun wx=>vu wx l a k hk2
   have HNL:Hid ((l.drop a).take k=yz (l.drop a)):=UK HL.out;rw [HNL.out] at hsub;obtain ⟨x,hx⟩:∃x,x=yz (l.drop a):=⟨_,rfl⟩;rw [←hx] at hsub;have hxl:x.length=k:=by rw [hx];exact HL.out
   have hszx:(za x).size=k:=hxl;have HX:Hid (x=yz (l.drop a)):=hx;have cW:=Uo x (w.alloc yA);rw [World.size_alloc] at cW;clear hx;go_wp2_with fail
   refine cW.mono ?_;clear cW;rintro e w2 ⟨rfl,hb2⟩;obtain ⟨hc1,hf1⟩:=YS hb2;have HB:Hid (Below w.heap.size w w2):=HA.out.trans (hb2.mono (by omega))
   clear hb2;cases hq:yZ x with
   | true =>
    have HR:Hid (yH (l.drop a)=⟨5,x,0,k,0⟩):=by unfold yH;rw [←HX.out,if_pos hq,hxl];rfl
    go_wp2
    exact bodyPost_ret (v:=Vx 5 0 (a+k) 0 x) (by simp [results,Tryz.results58,go_sem,Vx,hc1]) rfl ⟨⟨_,rfl,VP HR.out⟩,Zr HB.out _ _ _ _ _⟩
   | false =>
    by_cases h20:20<k
    ·have HR:Hid (yH (l.drop a)=⟨0,[],0,0,5⟩):=by unfold yH;rw [←HX.out,if_neg (by rw [hq];simp),if_pos (by rw [hxl];exact h20)];rfl
     go_wp2
     exact bodyPost_ret (v:=Vx 0 0 0 5 []) (by simp [results,Tryz.results58,go_sem,Vx,hc1]) rfl ⟨⟨_,rfl,uo (by rw [HR.out]) (by decide)⟩,Zr HB.out _ _ _ _ _⟩
    ·have HR:Hid (yH (l.drop a)=⟨1,x,0,k,0⟩):=by unfold yH;rw [←HX.out,if_neg (by rw [hq];simp),if_neg (by rw [hxl];exact h20),hxl];rfl
     go_wp2
     exact bodyPost_ret (v:=Vx 1 0 (a+k) 0 x) (by simp [results,Tryz.results58,go_sem,Vx,hc1]) rfl ⟨⟨_,rfl,VP HR.out⟩,Zr HB.out _ _ _ _ _⟩
theorem zar (l:List UInt8) (a:Nat) (w:World) (hl:l.length≤5000) (ha:a<l.length) (hk0:Zv (l[a]).toNat=false) (hk:Zn (l[a]).toNat=true) :
  Calls Tryz.prog 58 #[.string (za l),.int .i64 (a:Nat)] w fun e w'=>(∃v,e=.returned v∧rtR a (xA (l.drop a)) v)∧Below w.heap.size w w':=by
 have hsz:(za l).size=l.length:=rfl;have hA:Below w.heap.size w (w.alloc yA):=(Below.refl w.heap.size w).alloc (Nat.le_refl _) _;have HA:Hid (Below w.heap.size w (w.alloc yA)):=hA;have hidx:=fun wx=>YO wx l a ha
 obtain ⟨n,hn⟩:∃n,n=(l[a]).toNat:=⟨_,rfl⟩;rw [←hn] at hidx hk hk0;have hn256:n<256:=by rw [hn];exact UInt8.toNat_lt _
 have c1:=YT n (w.alloc yA) hn256;have c0:=xi n (w.alloc yA) hn256;rw [hk0] at c1;rw [hk] at c0;clear hA hn
 go_enter Tryz.func58,Tryz.ntmps58
 go_wp2_with fail
 refine c1.mono ?_;clear c1;rintro e w1 ⟨rfl,rfl⟩;go_wp2_with fail
 refine c0.mono ?_;clear c0;rintro e w1 ⟨rfl,rfl⟩;go_wp2_with fail
 go_loopw [8] (fun v wr=>∃k:Nat,v=.int .i64 ((a:Int)+k)∧a+k≤l.length∧(∀j (h:a+j<l.length),j<k→Zn (l[a+j]).toNat=true)∧wr=w.alloc yA) (fun v _=>l.length-(intOf v).toNat)
 case atStart=>exact ⟨0,by simp,by omega,fun j h hj=>by omega,rfl⟩
 case round =>
  obtain ⟨k,rfl,hk2,hall,rfl⟩:=hrel;have HAL:Hid (∀j (h:a+j<l.length),j<k→Zn (l[a+j]).toNat=true):=hall;clear hall hidx
  by_cases hlt:a+k<l.length
  ·have hidx:=fun wx=>YO wx l (a+k) hlt
   have e1:((a+k:Nat):Int)=(a:Int)+k:=by omega
   simp only [e1] at hidx;have hi2:(a:Int)+k<l.length:=by omega
   obtain ⟨c,hc⟩:∃c,c=(l[a+k]).toNat:=⟨_,rfl⟩;rw [←hc] at hidx;have hc256:c<256:=by rw [hc];exact UInt8.toNat_lt _
   have HC:Hid (c=(l[a+k]).toNat):=hc;clear hc e1;have c3:=xi c (w.alloc yA) hc256;go_wp2_with fail
   refine c3.mono ?_;clear c3;rintro e w1 ⟨rfl,rfl⟩;cases h2:Zn c with
   | true =>
    go_wp2
    refine ⟨⟨k+1,by go_num,by omega,fun j h hj=>?_,by first | rfl | trivial⟩,by simp [intOf];omega⟩
    by_cases hji:j<k
    ·exact HAL.out j h hji
    ·obtain rfl:j=k:=by omega
     rw [←HC.out];exact h2
   | false =>
    have HL:Hid (((l.drop a).takeWhile fun c=>Zn c.toNat).length=k):=uT hk2 HAL.out (fun _=>by rw [←HC.out];exact h2)
    clear hidx;have hsub:=fun wx=>vu wx l a k hk2
    have HNL:Hid ((l.drop a).take k=digL (l.drop a)):=UK HL.out;rw [HNL.out] at hsub;have HDA:=UU (l.drop a);obtain ⟨x,hx⟩:∃x,x=digL (l.drop a):=⟨_,rfl⟩;rw [←hx] at hsub HDA;have hxl:x.length=k:=by rw [hx];exact HL.out
    have HX:Hid (x=digL (l.drop a)):=hx;have cW:=Vw x (w.alloc yA) (by omega) HDA
    clear hx HDA;obtain ⟨v,hv⟩:∃v,v=valA 0 x:=⟨_,rfl⟩;have HV:Hid (v=valA 0 x):=hv
    unfold zft at cW
    rw [←hv] at cW;clear hv
    by_cases h63:v<9223372036854775808
    ·rw [if_pos h63] at cW
     have HR:Hid (xA (l.drop a)=⟨2,[],v,k,0⟩):=by unfold xA;rw [←HX.out,←HV.out,if_pos h63,hxl];rfl
     go_wp2_with fail
     refine cW.mono ?_;clear cW;rintro e w2 ⟨rfl,rfl⟩;go_wp2
     exact bodyPost_ret (v:=Vx 2 v (a+k) 0 []) (by simp [results,Tryz.results58,go_sem,Vx]) rfl ⟨⟨_,rfl,VP HR.out⟩,by first | exact HA.out | exact Zr HA.out _ _ _ _ _ | exact (Below.refl w.heap.size w).alloc (Nat.le_refl _) _⟩
    ·rw [if_neg h63] at cW
     have HR:Hid (xA (l.drop a)=⟨0,[],0,0,5⟩):=by unfold xA;rw [←HX.out,←HV.out,if_neg h63];rfl
     go_wp2_with fail
     refine cW.mono ?_;clear cW;rintro e w2 ⟨rfl,rfl⟩;go_wp2
     exact bodyPost_ret (v:=Vx 0 0 0 5 []) (by simp [results,Tryz.results58,go_sem,Vx]) rfl ⟨⟨_,rfl,uo (by rw [HR.out]) (by decide)⟩,by first | exact HA.out | exact Zr HA.out _ _ _ _ _ | exact (Below.refl w.heap.size w).alloc (Nat.le_refl _) _⟩
  ·have hi2:¬ (a:Int)+k<l.length:=by omega
   have HL:Hid (((l.drop a).takeWhile fun c=>Zn c.toNat).length=k):=uT hk2 HAL.out (fun h=>absurd h (by omega))
   have hsub:=fun wx=>vu wx l a k hk2
   have HNL:Hid ((l.drop a).take k=digL (l.drop a)):=UK HL.out;rw [HNL.out] at hsub;have HDA:=UU (l.drop a);obtain ⟨x,hx⟩:∃x,x=digL (l.drop a):=⟨_,rfl⟩;rw [←hx] at hsub HDA;have hxl:x.length=k:=by rw [hx];exact HL.out
   have HX:Hid (x=digL (l.drop a)):=hx;have cW:=Vw x (w.alloc yA) (by omega) HDA
   clear hx HDA;obtain ⟨v,hv⟩:∃v,v=valA 0 x:=⟨_,rfl⟩;have HV:Hid (v=valA 0 x):=hv
   unfold zft at cW
   rw [←hv] at cW;clear hv
   by_cases h63:v<9223372036854775808
   ·rw [if_pos h63] at cW
    have HR:Hid (xA (l.drop a)=⟨2,[],v,k,0⟩):=by unfold xA;rw [←HX.out,←HV.out,if_pos h63,hxl];rfl
    go_wp2_with fail
    refine cW.mono ?_;clear cW;rintro e w2 ⟨rfl,rfl⟩;go_wp2
    exact bodyPost_ret (v:=Vx 2 v (a+k) 0 []) (by simp [results,Tryz.results58,go_sem,Vx]) rfl ⟨⟨_,rfl,VP HR.out⟩,by first | exact HA.out | exact Zr HA.out _ _ _ _ _ | exact (Below.refl w.heap.size w).alloc (Nat.le_refl _) _⟩
   ·rw [if_neg h63] at cW
    have HR:Hid (xA (l.drop a)=⟨0,[],0,0,5⟩):=by unfold xA;rw [←HX.out,←HV.out,if_neg h63];rfl
    go_wp2_with fail
    refine cW.mono ?_;clear cW;rintro e w2 ⟨rfl,rfl⟩;go_wp2
    exact bodyPost_ret (v:=Vx 0 0 0 5 []) (by simp [results,Tryz.results58,go_sem,Vx]) rfl ⟨⟨_,rfl,uo (by rw [HR.out]) (by decide)⟩,by first | exact HA.out | exact Zr HA.out _ _ _ _ _ | exact (Below.refl w.heap.size w).alloc (Nat.le_refl _) _⟩
theorem zdC:∀(f:Nat) (meant:List UInt8) (at0:Nat) (r:List UInt8),(Ze f meant at0 r).e=0→(Ze f meant at0 r).k=3∧(Ze f meant at0 r).n=0
 | 0,_,_,_,h=>by simp [Ze] at h
 | _+1,_,_,[],h=>by simp [Ze] at h
 | f+1,meant,at0,x::r,h=>by
  unfold Ze at h ⊢
  by_cases h1:x.toNat=34
  ·rw [if_pos h1];exact ⟨rfl,rfl⟩
  ·rw [if_neg h1] at h ⊢
   by_cases h2:(XV (x::r)).2=0
   ·rw [if_pos h2] at h;simp at h
   ·rw [if_neg h2] at h ⊢
    by_cases h3:meant.length=255
    ·rw [if_pos h3] at h;simp at h
    ·rw [if_neg h3] at h ⊢
     exact zdC f _ _ _ h
theorem Qf (l:List UInt8) (a:Nat) (w:World) (hl:l.length≤5000) (ha:a<l.length) (hk0:Zv (l[a]).toNat=false) (hk:Zn (l[a]).toNat=false) (h34:(l[a]).toNat=34) :
  Calls Tryz.prog 58 #[.string (za l),.int .i64 (a:Nat)] w fun e w'=>(∃v,e=.returned v∧rtR a (ZI (l.drop a)) v)∧Below w.heap.size w w':=by
 have hsz:(za l).size=l.length:=rfl;have hA:Below w.heap.size w (w.alloc yA):=(Below.refl w.heap.size w).alloc (Nat.le_refl _) _;have HA:Hid (Below w.heap.size w (w.alloc yA)):=hA;have hidx:=fun wx=>YO wx l a ha
 obtain ⟨n,hn⟩:∃n,n=(l[a]).toNat:=⟨_,rfl⟩;rw [←hn] at hidx hk hk0 h34;have hn256:n<256:=by rw [hn];exact UInt8.toNat_lt _
 have c1:=YT n (w.alloc yA) hn256;have c0:=xi n (w.alloc yA) hn256;have cq:=Qd l a (w.alloc yA) hl ha;rw [hk0] at c1;rw [hk] at c0;rw [World.size_alloc] at cq;obtain ⟨R,hR⟩:∃R,R=ZI (l.drop a):=⟨_,rfl⟩;have HTK:Hid (R.e=0→R.k=3∧R.n=0):=by rw [hR];exact zdC _ _ _ _
 rw [←hR] at cq ⊢;obtain ⟨X,hX⟩:∃X,X=(if R.e=0 then a+R.sz else 0:Nat):=⟨_,rfl⟩
 unfold qV at cq
 rw [←hX] at cq;have HXX:Hid (X=(if R.e=0 then a+R.sz else 0:Nat)):=hX
 clear hA hn hR hX;subst h34
 go_enter Tryz.func58,Tryz.ntmps58
 go_wp2_with fail
 refine c1.mono ?_;clear c1;rintro e w1 ⟨rfl,rfl⟩;go_wp2_with fail
 refine c0.mono ?_;clear c0;rintro e w1 ⟨rfl,rfl⟩;go_wp2_with fail
 refine cq.mono ?_;clear cq;rintro e w2 ⟨rfl,hb2⟩;obtain ⟨hc1,hf1⟩:=YS hb2;have HB:Hid (Below w.heap.size w w2):=HA.out.trans (hb2.mono (by omega))
 clear hb2;go_wp2
 refine bodyPost_ret (v:=Vx 3 0 X R.e R.s) (by simp [results,Tryz.results58,go_sem,Vx,hc1]) rfl ⟨⟨_,rfl,3,0,X,R.s,rfl,fun he=>?_⟩,Zr HB.out _ _ _ _ _⟩
 obtain ⟨k1,k2⟩:=HTK.out he;have k3:=HXX.out;rw [if_pos he] at k3;exact ⟨k1.symm,rfl,k2.symm,k3⟩
theorem zbi {n:Nat} {w w':World} (h:Below n w w') (k:Nat):Below n w (w'.drewN k) :=
 h.trans (⟨rfl,rfl,rfl,Nat.le_refl _,fun _ _=>rfl⟩:Below n w' (w'.drewN k))
theorem U5 {r x:List UInt8}:Lib.hasPrefix r x=decide (r.take x.length=x):=by
 unfold Lib.hasPrefix
 rw [Bool.eq_iff_iff,List.isPrefixOf_iff_prefix,List.prefix_iff_eq_take,decide_eq_true_eq];exact eq_comm
theorem Qg (l:List UInt8) (a:Nat) (w:World) (hl:l.length≤5000) (ha:a<l.length) (hk0:Zv (l[a]).toNat=false) (hk:Zn (l[a]).toNat=false) (h34:(l[a]).toNat≠34) :
  Calls Tryz.prog 58 #[.string (za l),.int .i64 (a:Nat)] w fun e w'=>(∃v,e=.returned v∧rtR a (Yw (l.drop a)) v)∧Below w.heap.size w w':=by
 have hsz:(za l).size=l.length:=rfl;have hA:Below w.heap.size w (w.alloc yA):=(Below.refl w.heap.size w).alloc (Nat.le_refl _) _;have HA:Hid (Below w.heap.size w (w.alloc yA)):=hA;have hidx:=fun wx=>YO wx l a ha
 obtain ⟨n,hn⟩:∃n,n=(l[a]).toNat:=⟨_,rfl⟩;rw [←hn] at hidx hk hk0 h34;have hn256:n<256:=by rw [hn];exact UInt8.toNat_lt _
 have c1:=YT n (w.alloc yA) hn256;have c0:=xi n (w.alloc yA) hn256;have cs:=zaq (w.alloc yA);rw [World.size_alloc] at cs;rw [hk0] at c1;rw [hk] at c0;have h34b:((n:Int)==34)=false:=by rw [beq_eq_false_iff_ne];omega
 clear hA hn
 go_enter Tryz.func58,Tryz.ntmps58
 go_wp2_with fail
 refine c1.mono ?_;clear c1;rintro e w1 ⟨rfl,rfl⟩;go_wp2_with fail
 refine c0.mono ?_;clear c0;rintro e w1 ⟨rfl,rfl⟩;go_wp2_with fail
 refine cs.mono ?_;clear cs;rintro e w2 ⟨rfl,hw2⟩
 have hcell:∀i (h:i<refSigns.length),w2.cell? ⟨w.heap.size+1,i,none⟩=some (.string (za (refSigns[i]'h))):=fun i h=>by
  have hh:=World.alloc_heap_new (w.alloc yA) (.cells (refSigns.map fun x=>Value.string (za x)).toArray 9)
  rw [World.size_alloc] at hh;rw [hw2,cell_of_row _ _ _ _ _ _ hh]
  simp [h]
 have hb2:Below (w.heap.size+1) (w.alloc yA) w2:=by
  rw [hw2];exact (Below.refl (w.heap.size+1) (w.alloc yA)).alloc (by simp) _
 have hz2:w2.heap.size=w.heap.size+2:=by rw [hw2];simp
 have HCELL:Hid (∀i (h:i<refSigns.length),w2.cell? ⟨w.heap.size+1,i,none⟩=some (.string (za (refSigns[i]'h)))):=hcell;have HB2:Hid (Below (w.heap.size+1) (w.alloc yA) w2):=hb2;have HZ2:Hid (w2.heap.size=w.heap.size+2):=hz2;clear hw2 hcell hb2 hz2 hidx;go_wp2
 go_loopw [15] (fun v wr=>∃i:Nat,i≤25∧v=.int .i64 i∧(∀x∈refSigns.take i,Lib.hasPrefix (l.drop a) x=false)∧Below w2.heap.size w2 wr) (fun v _=>25-(intOf v).toNat)
 case atStart=>exact ⟨0,Nat.zero_le _,rfl,fun x hx=>by simp at hx,Below.refl _ _⟩
 case round =>
  obtain ⟨i,hi,rfl,hall,hbr⟩:=hrel;have HAL:Hid (∀x∈refSigns.take i,Lib.hasPrefix (l.drop a) x=false):=hall;have hb3:Below (w.heap.size+1) (w.alloc yA) wr:=HB2.out.trans (hbr.mono (by rw [HZ2.out];omega))
  obtain ⟨hc1,hf1⟩:=YS hb3;have HB:Hid (Below w.heap.size w wr):=HA.out.trans (hb3.mono (by omega))
  have HBR:Hid (Below w2.heap.size w2 wr):=hbr;clear hall hb3
  by_cases hlt:i<25
  ·have hlt':i<refSigns.length:=hlt
   have hcx:=(zcp (j:=i) hbr (by rw [HZ2.out];omega)).trans (HCELL.out i hlt')
   have hx2:1≤(refSigns[i]'hlt').length∧(refSigns[i]'hlt').length≤2:=by
    have:∀x∈refSigns,1≤x.length∧x.length≤2:=by decide
    exact this _ (List.getElem_mem _)
   obtain ⟨x,hx⟩:∃x,x=refSigns[i]'hlt':=⟨_,rfl⟩;rw [←hx] at hcx hx2;have HX:Hid (x=refSigns[i]'hlt'):=hx;have hsx:(za x).size=x.length:=rfl;obtain ⟨hx1,hx3⟩:=hx2
   have HNX:Hid (Lib.hasPrefix (l.drop a) x=false→∀y∈refSigns.take (i+1),Lib.hasPrefix (l.drop a) y=false):=fun hf y hy=>by
    rw [List.take_succ_eq_append_getElem hlt'] at hy;rcases List.mem_append.1 hy with h | h
    ·exact HAL.out y h
    ·rw [List.mem_singleton] at h;rw [h,←HX.out];exact hf
   clear hx hbr;have hi25:(i:Int)<25:=by omega
   by_cases hlen:a+x.length≤l.length
   ·have hd:decide ((a:Int)+(x.length:Int)≤(l.length:Int))=true:=by simp;omega
    have hsub:=fun wx=>vu wx l a x.length hlen
    obtain ⟨y,hy⟩:∃y,y=(l.drop a).take x.length:=⟨_,rfl⟩;rw [←hy] at hsub
    by_cases he:y=x
    ·have HP:Hid (Lib.hasPrefix (l.drop a) x=true):=by show _=true;rw [U5,←hy];exact decide_eq_true he
     have HBS:Hid (bestS (l.drop a) 25=x):=by
      have h:=zfw hlt' HAL.out (by rw [←HX.out];exact HP.out)
      show _=x
      rw [h,←HX.out]
     have HR:Hid (Yw (l.drop a)=⟨4,x,0,x.length,0⟩):=by
      show _=_
      unfold Yw
      rw [HBS.out,if_neg (fun e=>by rw [e] at hx1;simp at hx1)]
     clear hy;subst he;go_wp2
     go_quiet (fail)
     go_wp2
     go_region
     all_goals go_wp2
     all_goals refine bodyPost_ret (v:=Vx 4 0 (a+y.length) 0 y) (by simp [results,Tryz.results58,go_sem,Vx,hc1]) rfl ⟨⟨_,rfl,VP HR.out⟩,?_⟩
     all_goals exact Zr (zbi HB.out _) _ _ _ _ _
    ·have hbe:(y==x)=false:=by rw [zgq];exact decide_eq_false he
     have HF:Hid (Lib.hasPrefix (l.drop a) x=false):=by show _=false;rw [U5,←hy];exact decide_eq_false he
     clear hy he;go_wp2
     go_quiet (fail)
     go_wp2
     refine ⟨⟨i+1,by omega,by go_num,HNX.out HF.out,HBR.out.trans (⟨rfl,rfl,rfl,Nat.le_refl _,fun _ _=>rfl⟩:Below w2.heap.size wr (wr.drewN nq))⟩,by simp [intOf];omega⟩
   ·have hd:decide ((a:Int)+(x.length:Int)≤(l.length:Int))=false:=by simp;omega
    have HF:Hid (Lib.hasPrefix (l.drop a) x=false):=by
     show _=false
     rw [U5];refine decide_eq_false (fun e=>?_)
     have:=congrArg List.length e
     rw [List.length_take,List.length_drop] at this;omega
    go_wp2
    go_quiet (fail)
    go_wp2
    refine ⟨⟨i+1,by omega,by go_num,HNX.out HF.out,HBR.out.trans (⟨rfl,rfl,rfl,Nat.le_refl _,fun _ _=>rfl⟩:Below w2.heap.size wr (wr.drewN nq))⟩,by simp [intOf];omega⟩
  ·obtain rfl:i=25:=by omega
   have HR:Hid (Yw (l.drop a)=⟨0,[],0,0,6⟩):=by
    show _=_
    unfold Yw
    rw [zej HAL.out,if_pos rfl]
   clear hbr;go_wp2
   exact bodyPost_ret (v:=Vx 0 0 0 6 []) (by simp [results,Tryz.results58,go_sem,Vx,hc1]) rfl ⟨⟨_,rfl,uo (by rw [HR.out]) (by decide)⟩,Zr HB.out _ _ _ _ _⟩
theorem vy (l:List UInt8) (a:Nat) (w:World) (hl:l.length≤5000) (ha:a<l.length) :
  Calls Tryz.prog 58 #[.string (za l),.int .i64 (a:Nat)] w fun e w'=>(∃v,e=.returned v∧rtR a (Zc (l.drop a)) v)∧Below w.heap.size w w':=by
 have hd:l.drop a=l[a]::l.drop (a+1):=List.drop_eq_getElem_cons ha
 have ht:Zc (l.drop a)=if Zv (l[a]).toNat=true then yH (l.drop a) else if Zn (l[a]).toNat=true then xA (l.drop a) else if (l[a]).toNat=34 then ZI (l.drop a) else Yw (l.drop a):=by
  rw [hd];rfl
 rw [ht];cases h1:Zv (l[a]).toNat with
 | true=>rw [if_pos rfl];exact Qe l a w hl ha h1
 | false =>
  rw [if_neg (by simp)]
  cases h2:Zn (l[a]).toNat with
  | true=>rw [if_pos rfl];exact zar l a w hl ha h1 h2
  | false =>
   rw [if_neg (by simp)]
   by_cases h3:(l[a]).toNat=34
   ·rw [if_pos h3];exact Qf l a w hl ha h1 h2 h3
   ·rw [if_neg h3];exact Qg l a w hl ha h1 h2 h3
end Go.Proofs.YtpejpbbdgblbeaaGreatDoor
