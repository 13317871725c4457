import Derived.Test.YtdgpapchkpnijaaGreatDoorMC38
namespace Go.Proofs.YtdgpapchkpnijaaGreatDoor
open Go.RowKit Go.Shelf
set_option maxHeartbeats 16000000
set_option maxRecDepth 100000
def qV (a:Nat) (R:TR):Value:=.tuple #[.string (za R.s),.int .i64 ((if R.e=0 then a+R.sz else 0:Nat):Int),.int .i64 R.e]
theorem Uq (l:List UInt8) (a:Nat) (w:World) (hl:l.length≤5000) (ha:a<l.length) :
  Calls Tryz.prog 112 #[.string (za l),.int .i64 (a:Nat)] w fun e w'=>e=.returned (qV a (Zm (l.drop a)))∧Below w.heap.size w w':=by
 have hsz:(za l).size=l.length:=rfl
 go_enter Tryz.func112,Tryz.ntmps112
 go_wp2
 go_loopw [7,8,9] (fun vb vg vi wr=>∃(f i j:Nat) (meant:List UInt8),vi=.int .i64 i∧vg=.bool false∧i=a+j∧1≤j∧i≤l.length∧l.length≤i+f∧meant.length≤255∧Zm (l.drop a)=zT f meant j (l.drop i) ∧
   wr.ownsRow w.heap.size 5 1 vb meant.length (Lib.byteCells meant)∧Below w.heap.size w wr) (fun _ _ vi _=>l.length-(intOf vi).toNat)
 case atStart=>exact ⟨(l.drop a).length,a+1,1,[],by go_num,rfl,rfl,Nat.le_refl _,by omega,by rw [List.length_drop];omega,by simp,by unfold Zm;rw [List.drop_drop],World.ownsRow_nil _ _ _ _,Below.refl _ _⟩
 case round =>
  obtain ⟨f,i,j,meant,rfl,rfl,hij,hj1,hi,hfu,hme,htx,hown,hbw⟩:=hrel;have HIJ:Hid (i=a+j):=hij;have HTX:Hid (Zm (l.drop a)=zT f meant j (l.drop i)):=htx;have HB:Hid (Below w.heap.size w wr):=hbw;have hszw:=hbw.size;have HO:Hid (wr.ownsRow w.heap.size 5 1 u7 meant.length (Lib.byteCells meant)):=hown;clear htx hbw hown hij
  by_cases hlt:i<l.length
  ·obtain ⟨x,r,hxr⟩:∃x r,l.drop i=x::r:=⟨l[i],l.drop (i+1),List.drop_eq_getElem_cons hlt⟩
   have hx0:l[i]=x:=by
    have h:=List.drop_eq_getElem_cons hlt;rw [hxr] at h;exact (List.cons.inj h).1.symm
   have hidx:=fun wx=>yT wx l i hlt
   rw [hx0] at hidx;obtain ⟨n,hn⟩:∃n,n=x.toNat:=⟨_,rfl⟩;rw [←hn] at hidx;have hn256:n<256:=by rw [hn];exact UInt8.toNat_lt x
   have HN:Hid (n=x.toNat):=hn;obtain ⟨f',rfl⟩:∃f',f=f'+1:=⟨f-1,by omega⟩
   have HT1:Hid (Zm (l.drop a)=if n=34 then ⟨3,meant,0,j+1,0⟩ else if (xP (x::r)).2=0 then ⟨0,[],0,0,6⟩ else if meant.length=255 then ⟨0,[],0,0,5⟩ else zT f' (meant++[(xP (x::r)).1.toUInt8]) (j+(xP (x::r)).2) ((x::r).drop (xP (x::r)).2)):=show _=_ by
    rw [HTX.out,hxr,hn];rfl
   have HXR:Hid (l.drop i=x::r):=hxr;clear hx0 hn hxr HTX
   by_cases h34:n=34
   ·have HR:Hid (Zm (l.drop a)=⟨3,meant,0,j+1,0⟩):=show _=_ by rw [HT1.out,if_pos h34]
    subst h34;obtain ⟨baseM,capM,rfl,hrowM,-,-,-⟩:=y7 HO.out;have hcv:=uc wr baseM meant capM hrowM;clear hrowM;go_wp2
    refine bodyPost_ret (v:=qV a ⟨3,meant,0,j+1,0⟩) ?_ rfl ⟨by rw [HR.out],HB.out⟩
    have e9:(((a+(j+1):Nat)):Int)=(i:Int)+1:=by have:=HIJ.out;omega
    simp [results,Tryz.results112,go_sem,qV]
    have:=HIJ.out
    omega
   ·have h34b:((n:Int)==34)=false:=by rw [beq_eq_false_iff_ne];omega
    by_cases hbad:n<32∨126<n
    ·have HR:Hid (Zm (l.drop a)=⟨0,[],0,0,6⟩):=show _=_ by rw [HT1.out,if_neg h34,vQ (by rw [←HN.out];exact hbad),if_pos rfl]
     rcases hbad with hb | hb
     ·go_wp2
      exact bodyPost_ret (v:=qV a ⟨0,[],0,0,6⟩) (by simp [results,Tryz.results112,go_sem,qV]) rfl ⟨by rw [HR.out],HB.out⟩
     ·go_wp2
      exact bodyPost_ret (v:=qV a ⟨0,[],0,0,6⟩) (by simp [results,Tryz.results112,go_sem,qV]) rfl ⟨by rw [HR.out],HB.out⟩
    ·have hb1:32≤n:=by omega
     have hb2:n≤126:=by omega
     have HBD:Hid (¬ (n<32∨126<n)):=hbad;clear hbad
     by_cases h92:n=92
     ·by_cases hend:i+1=l.length
      ·have hr0:r=[]:=by
        have h:=congrArg List.length HXR.out;rw [List.length_drop,List.length_cons] at h;exact List.length_eq_zero_iff.1 (by omega)
       have HR:Hid (Zm (l.drop a)=⟨0,[],0,0,6⟩):=show _=_ by
        rw [HT1.out,if_neg h34,hr0,VY (by rw [←HN.out];exact HBD.out) (by rw [←HN.out];exact h92),if_pos rfl]
       have hee:((i:Int)+1==(l.length:Int))=true:=by rw [beq_iff_eq];omega
       clear hr0;subst h92;go_wp2
       exact bodyPost_ret (v:=qV a ⟨0,[],0,0,6⟩) (by simp [results,Tryz.results112,go_sem,qV]) rfl ⟨by rw [HR.out],HB.out⟩
      ·have hlt2:i+1<l.length:=by omega
       have hee:((i:Int)+1==(l.length:Int))=false:=by rw [beq_eq_false_iff_ne];omega
       obtain ⟨y,t,hyt⟩:∃y t,r=y::t:=by
        cases r with
        | nil =>
         have h:=congrArg List.length HXR.out;rw [List.length_drop,List.length_cons,List.length_nil] at h;omega
        | cons y t=>exact ⟨y,t,rfl⟩
       have hy0:l[i+1]=y:=by
        have h:=HXR.out;rw [List.drop_eq_getElem_cons hlt,hyt] at h;have h2:=(List.cons.inj h).2;rw [List.drop_eq_getElem_cons hlt2] at h2;exact (List.cons.inj h2).1
       have hidx2:=fun wx=>yT wx l (i+1) hlt2
       rw [hy0] at hidx2;have e1:((i+1:Nat):Int)=(i:Int)+1:=by omega
       simp only [e1] at hidx2;obtain ⟨m,hm⟩:∃m,m=y.toNat:=⟨_,rfl⟩;rw [←hm] at hidx2;have hm256:m<256:=by rw [hm];exact UInt8.toNat_lt y
       have htb:xP (x::r)=tbE m:=by
        rw [hyt,hm];exact VZ (by rw [←HN.out];exact HBD.out) (by rw [←HN.out];exact h92)
       have HTB:Hid (xP (x::r)=tbE m):=htb;clear hyt hy0 hm htb e1;subst h92
       by_cases m92:m=92
       ·subst m92
        have HT2:Hid (Zm (l.drop a)=if meant.length=255 then ⟨0,[],0,0,5⟩ else zT f' (meant++[((92:Nat)).toUInt8]) (j+2) (l.drop (i+2))):=show _=_ by
         rw [HT1.out,if_neg h34,show xP (x::r)=(92,2) from HTB.out,if_neg (by simp),←HXR.out,List.drop_drop]
        obtain ⟨ml,hml⟩:∃ml,ml=meant.length:=⟨_,rfl⟩;have HML:Hid (ml=meant.length):=hml;rw [←hml] at hme;clear hml
        by_cases h255:ml=255
        ·have HR:Hid (Zm (l.drop a)=⟨0,[],0,0,5⟩):=show _=_ by rw [HT2.out,if_pos (by rw [←HML.out];exact h255)]
         subst h255
         go_wp2_with (at_builtin;refine ZB rfl _ _ rfl w.heap.size _ meant rfl (HO.out.alloc _) _ [((92:Nat)).toUInt8] rfl (ZX (r:=(92:Nat)) (by omega) (by simp)) (by have:=HML.out;simp;omega) (by simp;omega) ?_;intro v3 w3 hown3 hgrow;obtain ⟨b3,cap3,rfl,-,-,-,-⟩:=y7 hown3;rw [show (meant++[((92:Nat)).toUInt8]).length=256 by rw [List.length_append,←HML.out];rfl])
         exact bodyPost_ret (v:=qV a ⟨0,[],0,0,5⟩) (by simp [results,Tryz.results112,go_sem,qV]) rfl ⟨by rw [HR.out],(HB.out.alloc (by omega) _).grown hgrow (by simp;omega) (fun q hq=>(HO.out.lt q hq).1)⟩
        ·have h255b:decide ((255:Int)<(ml:Int)+1)=false:=by simp;omega
         have HR:Hid (Zm (l.drop a)=zT f' (meant++[((92:Nat)).toUInt8]) (j+2) (l.drop (i+2))):=show _=_ by
          rw [HT2.out,if_neg (by rw [←HML.out];exact h255)]
         go_wp2_with (at_builtin;refine ZB rfl _ _ rfl w.heap.size _ meant rfl (HO.out.alloc _) _ [((92:Nat)).toUInt8] rfl (ZX (r:=(92:Nat)) (by omega) (by simp)) (by have:=HML.out;simp;omega) (by simp;omega) ?_;intro v3 w3 hown3 hgrow;obtain ⟨b3,cap3,rfl,-,-,-,-⟩:=y7 hown3;rw [show (meant++[((92:Nat)).toUInt8]).length=ml+1 by rw [HML.out];simp])
         have HB4:Hid (Below w.heap.size w w3):=(HB.out.alloc (by omega) _).grown hgrow (by simp;omega) (fun q hq=>(HO.out.lt q hq).1)
         have HO4:Hid (w3.ownsRow w.heap.size 5 1 (.slice b3 (ml+1) cap3) (meant++[((92:Nat)).toUInt8]).length (Lib.byteCells (meant++[((92:Nat)).toUInt8]))):=by
          have e9:(meant++[((92:Nat)).toUInt8]).length=ml+1:=by rw [HML.out];simp
          rw [e9] at hown3 ⊢;exact hown3
         clear hgrow hown3;refine ⟨⟨f',i+2,j+2,meant++[((92:Nat)).toUInt8],by go_num,by first | rfl | rw [h255b],by have:=HIJ.out;omega,by omega,by omega,by omega,?_,HR.out,HO4.out,HB4.out⟩,by simp [intOf];omega⟩
         rw [List.length_append,List.length_singleton,←HML.out];omega
       ·have m92b:((m:Int) != 92)=true:=by rw [bne_iff_ne];omega
        by_cases m34:m=34
        ·subst m34
         have HT2:Hid (Zm (l.drop a)=if meant.length=255 then ⟨0,[],0,0,5⟩ else zT f' (meant++[((34:Nat)).toUInt8]) (j+2) (l.drop (i+2))):=show _=_ by
          rw [HT1.out,if_neg h34,show xP (x::r)=(34,2) from HTB.out,if_neg (by simp),←HXR.out,List.drop_drop]
         obtain ⟨ml,hml⟩:∃ml,ml=meant.length:=⟨_,rfl⟩;have HML:Hid (ml=meant.length):=hml;rw [←hml] at hme;clear hml
         by_cases h255:ml=255
         ·have HR:Hid (Zm (l.drop a)=⟨0,[],0,0,5⟩):=show _=_ by rw [HT2.out,if_pos (by rw [←HML.out];exact h255)]
          subst h255
          go_wp2_with (at_builtin;refine ZB rfl _ _ rfl w.heap.size _ meant rfl (HO.out.alloc _) _ [((34:Nat)).toUInt8] rfl (ZX (r:=(34:Nat)) (by omega) (by simp)) (by have:=HML.out;simp;omega) (by simp;omega) ?_;intro v3 w3 hown3 hgrow;obtain ⟨b3,cap3,rfl,-,-,-,-⟩:=y7 hown3;rw [show (meant++[((34:Nat)).toUInt8]).length=256 by rw [List.length_append,←HML.out];rfl])
          exact bodyPost_ret (v:=qV a ⟨0,[],0,0,5⟩) (by simp [results,Tryz.results112,go_sem,qV]) rfl ⟨by rw [HR.out],(HB.out.alloc (by omega) _).grown hgrow (by simp;omega) (fun q hq=>(HO.out.lt q hq).1)⟩
         ·have h255b:decide ((255:Int)<(ml:Int)+1)=false:=by simp;omega
          have HR:Hid (Zm (l.drop a)=zT f' (meant++[((34:Nat)).toUInt8]) (j+2) (l.drop (i+2))):=show _=_ by
           rw [HT2.out,if_neg (by rw [←HML.out];exact h255)]
          go_wp2_with (at_builtin;refine ZB rfl _ _ rfl w.heap.size _ meant rfl (HO.out.alloc _) _ [((34:Nat)).toUInt8] rfl (ZX (r:=(34:Nat)) (by omega) (by simp)) (by have:=HML.out;simp;omega) (by simp;omega) ?_;intro v3 w3 hown3 hgrow;obtain ⟨b3,cap3,rfl,-,-,-,-⟩:=y7 hown3;rw [show (meant++[((34:Nat)).toUInt8]).length=ml+1 by rw [HML.out];simp])
          have HB4:Hid (Below w.heap.size w w3):=(HB.out.alloc (by omega) _).grown hgrow (by simp;omega) (fun q hq=>(HO.out.lt q hq).1)
          have HO4:Hid (w3.ownsRow w.heap.size 5 1 (.slice b3 (ml+1) cap3) (meant++[((34:Nat)).toUInt8]).length (Lib.byteCells (meant++[((34:Nat)).toUInt8]))):=by
           have e9:(meant++[((34:Nat)).toUInt8]).length=ml+1:=by rw [HML.out];simp
           rw [e9] at hown3 ⊢;exact hown3
          clear hgrow hown3;refine ⟨⟨f',i+2,j+2,meant++[((34:Nat)).toUInt8],by go_num,by first | rfl | rw [h255b],by have:=HIJ.out;omega,by omega,by omega,by omega,?_,HR.out,HO4.out,HB4.out⟩,by simp [intOf];omega⟩
          rw [List.length_append,List.length_singleton,←HML.out];omega
        ·have m34b:((m:Int) != 34)=true:=by rw [bne_iff_ne];omega
         by_cases m110:m=110
         ·subst m110
          have HT2:Hid (Zm (l.drop a)=if meant.length=255 then ⟨0,[],0,0,5⟩ else zT f' (meant++[((10:Nat)).toUInt8]) (j+2) (l.drop (i+2))):=show _=_ by
           rw [HT1.out,if_neg h34,show xP (x::r)=(10,2) from HTB.out,if_neg (by simp),←HXR.out,List.drop_drop]
          obtain ⟨ml,hml⟩:∃ml,ml=meant.length:=⟨_,rfl⟩;have HML:Hid (ml=meant.length):=hml;rw [←hml] at hme;clear hml
          by_cases h255:ml=255
          ·have HR:Hid (Zm (l.drop a)=⟨0,[],0,0,5⟩):=show _=_ by rw [HT2.out,if_pos (by rw [←HML.out];exact h255)]
           subst h255
           go_wp2_with (at_builtin;refine ZB rfl _ _ rfl w.heap.size _ meant rfl (HO.out.alloc _) _ [((10:Nat)).toUInt8] rfl (ZX (r:=(10:Nat)) (by omega) (by simp)) (by have:=HML.out;simp;omega) (by simp;omega) ?_;intro v3 w3 hown3 hgrow;obtain ⟨b3,cap3,rfl,-,-,-,-⟩:=y7 hown3;rw [show (meant++[((10:Nat)).toUInt8]).length=256 by rw [List.length_append,←HML.out];rfl])
           exact bodyPost_ret (v:=qV a ⟨0,[],0,0,5⟩) (by simp [results,Tryz.results112,go_sem,qV]) rfl ⟨by rw [HR.out],(HB.out.alloc (by omega) _).grown hgrow (by simp;omega) (fun q hq=>(HO.out.lt q hq).1)⟩
          ·have h255b:decide ((255:Int)<(ml:Int)+1)=false:=by simp;omega
           have HR:Hid (Zm (l.drop a)=zT f' (meant++[((10:Nat)).toUInt8]) (j+2) (l.drop (i+2))):=show _=_ by
            rw [HT2.out,if_neg (by rw [←HML.out];exact h255)]
           go_wp2_with (at_builtin;refine ZB rfl _ _ rfl w.heap.size _ meant rfl (HO.out.alloc _) _ [((10:Nat)).toUInt8] rfl (ZX (r:=(10:Nat)) (by omega) (by simp)) (by have:=HML.out;simp;omega) (by simp;omega) ?_;intro v3 w3 hown3 hgrow;obtain ⟨b3,cap3,rfl,-,-,-,-⟩:=y7 hown3;rw [show (meant++[((10:Nat)).toUInt8]).length=ml+1 by rw [HML.out];simp])
           have HB4:Hid (Below w.heap.size w w3):=(HB.out.alloc (by omega) _).grown hgrow (by simp;omega) (fun q hq=>(HO.out.lt q hq).1)
           have HO4:Hid (w3.ownsRow w.heap.size 5 1 (.slice b3 (ml+1) cap3) (meant++[((10:Nat)).toUInt8]).length (Lib.byteCells (meant++[((10:Nat)).toUInt8]))):=by
            have e9:(meant++[((10:Nat)).toUInt8]).length=ml+1:=by rw [HML.out];simp
            rw [e9] at hown3 ⊢;exact hown3
           clear hgrow hown3;refine ⟨⟨f',i+2,j+2,meant++[((10:Nat)).toUInt8],by go_num,by first | rfl | rw [h255b],by have:=HIJ.out;omega,by omega,by omega,by omega,?_,HR.out,HO4.out,HB4.out⟩,by simp [intOf];omega⟩
           rw [List.length_append,List.length_singleton,←HML.out];omega
         ·have m110b:((m:Int) != 110)=true:=by rw [bne_iff_ne];omega
          have HR:Hid (Zm (l.drop a)=⟨0,[],0,0,6⟩):=show _=_ by
           rw [HT1.out,if_neg h34,HTB.out]
           unfold tbE
           rw [if_neg m92,if_neg m34,if_neg m110,if_pos rfl]
          go_wp2
          exact bodyPost_ret (v:=qV a ⟨0,[],0,0,6⟩) (by simp [results,Tryz.results112,go_sem,qV]) rfl ⟨by rw [HR.out],HB.out⟩
     ·have h92b:((n:Int)==92)=false:=by rw [beq_eq_false_iff_ne];omega
      have HTB:Hid (xP (x::r)=(n,1)):=show _=_ by rw [vR (by rw [←HN.out];exact HBD.out) (by rw [←HN.out];exact h92),←HN.out]
      have HT2:Hid (Zm (l.drop a)=if meant.length=255 then ⟨0,[],0,0,5⟩ else zT f' (meant++[(n).toUInt8]) (j+1) (l.drop (i+1))):=show _=_ by
       rw [HT1.out,if_neg h34,HTB.out,if_neg (by simp),←HXR.out,List.drop_drop]
      obtain ⟨ml,hml⟩:∃ml,ml=meant.length:=⟨_,rfl⟩;have HML:Hid (ml=meant.length):=hml;rw [←hml] at hme;clear hml
      by_cases h255:ml=255
      ·have HR:Hid (Zm (l.drop a)=⟨0,[],0,0,5⟩):=show _=_ by rw [HT2.out,if_pos (by rw [←HML.out];exact h255)]
       subst h255
       go_wp2_with (at_builtin;refine ZB rfl _ _ rfl w.heap.size _ meant rfl (HO.out.alloc _) _ [(n).toUInt8] rfl (ZX (r:=n) (by omega) (by simp)) (by have:=HML.out;simp;omega) (by simp;omega) ?_;intro v3 w3 hown3 hgrow;obtain ⟨b3,cap3,rfl,-,-,-,-⟩:=y7 hown3;rw [show (meant++[(n).toUInt8]).length=256 by rw [List.length_append,←HML.out];rfl])
       exact bodyPost_ret (v:=qV a ⟨0,[],0,0,5⟩) (by simp [results,Tryz.results112,go_sem,qV]) rfl ⟨by rw [HR.out],(HB.out.alloc (by omega) _).grown hgrow (by simp;omega) (fun q hq=>(HO.out.lt q hq).1)⟩
      ·have h255b:decide ((255:Int)<(ml:Int)+1)=false:=by simp;omega
       have HR:Hid (Zm (l.drop a)=zT f' (meant++[(n).toUInt8]) (j+1) (l.drop (i+1))):=show _=_ by
        rw [HT2.out,if_neg (by rw [←HML.out];exact h255)]
       go_wp2_with (at_builtin;refine ZB rfl _ _ rfl w.heap.size _ meant rfl (HO.out.alloc _) _ [(n).toUInt8] rfl (ZX (r:=n) (by omega) (by simp)) (by have:=HML.out;simp;omega) (by simp;omega) ?_;intro v3 w3 hown3 hgrow;obtain ⟨b3,cap3,rfl,-,-,-,-⟩:=y7 hown3;rw [show (meant++[(n).toUInt8]).length=ml+1 by rw [HML.out];simp])
       have HB4:Hid (Below w.heap.size w w3):=(HB.out.alloc (by omega) _).grown hgrow (by simp;omega) (fun q hq=>(HO.out.lt q hq).1)
       have HO4:Hid (w3.ownsRow w.heap.size 5 1 (.slice b3 (ml+1) cap3) (meant++[(n).toUInt8]).length (Lib.byteCells (meant++[(n).toUInt8]))):=by
        have e9:(meant++[(n).toUInt8]).length=ml+1:=by rw [HML.out];simp
        rw [e9] at hown3 ⊢;exact hown3
       clear hgrow hown3;refine ⟨⟨f',i+1,j+1,meant++[(n).toUInt8],by go_num,by first | rfl | rw [h255b],by have:=HIJ.out;omega,by omega,by omega,by omega,?_,HR.out,HO4.out,HB4.out⟩,by simp [intOf];omega⟩
       rw [List.length_append,List.length_singleton,←HML.out];omega
  ·obtain rfl:i=l.length:=by omega
   have HR:Hid (Zm (l.drop a)=⟨0,[],0,0,6⟩):=show _=_ by
    rw [HTX.out,List.drop_length];cases f <;> rfl
   go_wp2
   exact bodyPost_ret (v:=qV a ⟨0,[],0,0,6⟩) (by simp [results,Tryz.results112,go_sem,qV]) rfl ⟨by rw [HR.out],HB.out⟩
end Go.Proofs.YtdgpapchkpnijaaGreatDoor
