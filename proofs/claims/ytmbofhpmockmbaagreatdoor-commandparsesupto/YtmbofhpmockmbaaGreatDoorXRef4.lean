import Derived.Test.YtmbofhpmockmbaaGreatDoorMC40
namespace Go.Proofs.YtmbofhpmockmbaaGreatDoor
open Go.RowKit Go.Shelf
set_option maxHeartbeats 16000000
set_option maxRecDepth 100000
def qV (a:Nat) (R:TR):Value:=.tuple #[.string (za R.s),.int .i64 ((if R.e=0 then a+R.sz else 0:Nat):Int),.int .i64 R.e]
theorem vQ (l:List UInt8) (a:Nat) (w:World) (hl:l.length≤5000) (ha:a<l.length) :
  Calls Tryz.prog 132 #[.string (za l),.int .i64 (a:Nat)] w fun e w'=>e=.returned (qV a (zQ (l.drop a)))∧Below w.heap.size w w':=by
 have aD:(za l).size=l.length:=rfl
 go_enter Tryz.func132,Tryz.ntmps132
 go_wp2
 go_loopw [7,8,9] (fun vb vg vi wr=>∃(f i j:Nat) (meant:List UInt8),vi=.int .i64 i∧vg=.bool false∧i=a+j∧1≤j∧i≤l.length∧l.length≤i+f∧meant.length≤255∧zQ (l.drop a)=zz f meant j (l.drop i) ∧
   wr.ownsRow w.heap.size 5 1 vb meant.length (Lib.byteCells meant)∧Below w.heap.size w wr) (fun _ _ vi _=>l.length-(intOf vi).toNat)
 case atStart=>exact ⟨(l.drop a).length,a+1,1,[],by go_num,rfl,rfl,Nat.le_refl _,by omega,by rw [List.length_drop];omega,by simp,by unfold zQ;rw [List.drop_drop],World.ownsRow_nil _ _ _ _,Below.refl _ _⟩
 case round =>
  obtain ⟨f,i,j,meant,rfl,rfl,an,aF,hi,aG,Z,ao,ad,ai⟩:=hrel;have W:Hid (i=a+j):=an;have ag:Hid (zQ (l.drop a)=zz f meant j (l.drop i)):=ao;have U:Hid (Below w.heap.size w wr):=ai;have az:=ai.size;have L:Hid (wr.ownsRow w.heap.size 5 1 u7 meant.length (Lib.byteCells meant)):=ad;clear ao ai ad an
  by_cases hlt:i<l.length
  ·obtain ⟨x,r,aa⟩:∃x r,l.drop i=x::r:=⟨l[i],l.drop (i+1),List.drop_eq_getElem_cons hlt⟩
   have aq:l[i]=x:=by
    have h:=List.drop_eq_getElem_cons hlt;rw [aa] at h;exact (List.cons.inj h).1.symm
   have ae:=fun wx=>ZT wx l i hlt
   rw [aq] at ae;obtain ⟨n,hn⟩:∃n,n=x.toNat:=⟨_,rfl⟩;rw [←hn] at ae;have ar:n<256:=by rw [hn];exact UInt8.toNat_lt x
   have HN:Hid (n=x.toNat):=hn;obtain ⟨O,rfl⟩:∃O,f=O+1:=⟨f-1,by omega⟩
   have K:Hid (zQ (l.drop a)=if n=34 then ⟨3,meant,0,j+1,0⟩ else if (Ym (x::r)).2=0 then ⟨0,[],0,0,6⟩ else if meant.length=255 then ⟨0,[],0,0,5⟩ else zz O (meant++[(Ym (x::r)).1.toUInt8]) (j+(Ym (x::r)).2) ((x::r).drop (Ym (x::r)).2)):=show _=_ by
    rw [ag.out,aa,hn];rfl
   have M:Hid (l.drop i=x::r):=aa;clear aq hn aa ag
   by_cases h34:n=34
   ·have I:Hid (zQ (l.drop a)=⟨3,meant,0,j+1,0⟩):=show _=_ by rw [K.out,if_pos h34]
    subst h34;obtain ⟨ah,al,rfl,X,-,-,-⟩:=yd L.out;have aC:=XC wr ah meant al X;clear X;go_wp2
    refine bodyPost_ret (v:=qV a ⟨3,meant,0,j+1,0⟩) ?_ rfl ⟨by rw [I.out],U.out⟩
    have e9:(((a+(j+1):Nat)):Int)=(i:Int)+1:=by have:=W.out;omega
    simp [results,Tryz.results132,go_sem,qV]
    have:=W.out
    omega
   ·have ax:((n:Int)==34)=false:=by rw [beq_eq_false_iff_ne];omega
    by_cases hbad:n<32∨126<n
    ·have I:Hid (zQ (l.drop a)=⟨0,[],0,0,6⟩):=show _=_ by rw [K.out,if_neg h34,xH (by rw [←HN.out];exact hbad),if_pos rfl]
     rcases hbad with hb | hb
     ·go_wp2
      exact bodyPost_ret (v:=qV a ⟨0,[],0,0,6⟩) (by simp [results,Tryz.results132,go_sem,qV]) rfl ⟨by rw [I.out],U.out⟩
     ·go_wp2
      exact bodyPost_ret (v:=qV a ⟨0,[],0,0,6⟩) (by simp [results,Tryz.results132,go_sem,qV]) rfl ⟨by rw [I.out],U.out⟩
    ·have aH:32≤n:=by omega
     have aE:n≤126:=by omega
     have af:Hid (¬ (n<32∨126<n)):=hbad;clear hbad
     by_cases h92:n=92
     ·by_cases hend:i+1=l.length
      ·have ap:r=[]:=by
        have h:=congrArg List.length M.out;rw [List.length_drop,List.length_cons] at h;exact List.length_eq_zero_iff.1 (by omega)
       have I:Hid (zQ (l.drop a)=⟨0,[],0,0,6⟩):=show _=_ by
        rw [K.out,if_neg h34,ap,Xv (by rw [←HN.out];exact af.out) (by rw [←HN.out];exact h92),if_pos rfl]
       have au:((i:Int)+1==(l.length:Int))=true:=by rw [beq_iff_eq];omega
       clear ap;subst h92;go_wp2
       exact bodyPost_ret (v:=qV a ⟨0,[],0,0,6⟩) (by simp [results,Tryz.results132,go_sem,qV]) rfl ⟨by rw [I.out],U.out⟩
      ·have ab:i+1<l.length:=by omega
       have au:((i:Int)+1==(l.length:Int))=false:=by rw [beq_eq_false_iff_ne];omega
       obtain ⟨y,t,aj⟩:∃y t,r=y::t:=by
        cases r with
        | nil =>
         have h:=congrArg List.length M.out;rw [List.length_drop,List.length_cons,List.length_nil] at h;omega
        | cons y t=>exact ⟨y,t,rfl⟩
       have ak:l[i+1]=y:=by
        have h:=M.out;rw [List.drop_eq_getElem_cons hlt,aj] at h;have h2:=(List.cons.inj h).2;rw [List.drop_eq_getElem_cons ab] at h2;exact (List.cons.inj h2).1
       have N:=fun wx=>ZT wx l (i+1) ab
       rw [ak] at N;have e1:((i+1:Nat):Int)=(i:Int)+1:=by omega
       simp only [e1] at N;obtain ⟨m,hm⟩:∃m,m=y.toNat:=⟨_,rfl⟩;rw [←hm] at N;have av:m<256:=by rw [hm];exact UInt8.toNat_lt y
       have am:Ym (x::r)=qz m:=by
        rw [aj,hm];exact Xw (by rw [←HN.out];exact af.out) (by rw [←HN.out];exact h92)
       have V:Hid (Ym (x::r)=qz m):=am;clear aj ak hm am e1;subst h92
       by_cases m92:m=92
       ·subst m92
        have J:Hid (zQ (l.drop a)=if meant.length=255 then ⟨0,[],0,0,5⟩ else zz O (meant++[((92:Nat)).toUInt8]) (j+2) (l.drop (i+2))):=show _=_ by
         rw [K.out,if_neg h34,show Ym (x::r)=(92,2) from V.out,if_neg (by simp),←M.out,List.drop_drop]
        obtain ⟨D,G⟩:∃D,D=meant.length:=⟨_,rfl⟩;have A:Hid (D=meant.length):=G;rw [←G] at Z;clear G
        by_cases h255:D=255
        ·have I:Hid (zQ (l.drop a)=⟨0,[],0,0,5⟩):=show _=_ by rw [J.out,if_pos (by rw [←A.out];exact h255)]
         subst h255
         go_wp2_with (at_builtin;refine Zp rfl _ _ rfl w.heap.size _ meant rfl (L.out.alloc _) _ [((92:Nat)).toUInt8] rfl (Zr (r:=(92:Nat)) (by omega) (by simp)) (by have:=A.out;simp;omega) (by simp;omega) ?_;intro v3 T o z;obtain ⟨Y,E,rfl,-,-,-,-⟩:=yd o;rw [show (meant++[((92:Nat)).toUInt8]).length=256 by rw [List.length_append,←A.out];rfl])
         exact bodyPost_ret (v:=qV a ⟨0,[],0,0,5⟩) (by simp [results,Tryz.results132,go_sem,qV]) rfl ⟨by rw [I.out],(U.out.alloc (by omega) _).grown z (by simp;omega) (fun q hq=>(L.out.lt q hq).1)⟩
        ·have H:decide ((255:Int)<(D:Int)+1)=false:=by simp;omega
         have I:Hid (zQ (l.drop a)=zz O (meant++[((92:Nat)).toUInt8]) (j+2) (l.drop (i+2))):=show _=_ by
          rw [J.out,if_neg (by rw [←A.out];exact h255)]
         go_wp2_with (at_builtin;refine Zp rfl _ _ rfl w.heap.size _ meant rfl (L.out.alloc _) _ [((92:Nat)).toUInt8] rfl (Zr (r:=(92:Nat)) (by omega) (by simp)) (by have:=A.out;simp;omega) (by simp;omega) ?_;intro v3 T o z;obtain ⟨Y,E,rfl,-,-,-,-⟩:=yd o;rw [show (meant++[((92:Nat)).toUInt8]).length=D+1 by rw [A.out];simp])
         have R:Hid (Below w.heap.size w T):=(U.out.alloc (by omega) _).grown z (by simp;omega) (fun q hq=>(L.out.lt q hq).1)
         have Q:Hid (T.ownsRow w.heap.size 5 1 (.slice Y (D+1) E) (meant++[((92:Nat)).toUInt8]).length (Lib.byteCells (meant++[((92:Nat)).toUInt8]))):=by
          have e9:(meant++[((92:Nat)).toUInt8]).length=D+1:=by rw [A.out];simp
          rw [e9] at o ⊢;exact o
         clear z o;refine ⟨⟨O,i+2,j+2,meant++[((92:Nat)).toUInt8],by go_num,by first | rfl | rw [H],by have:=W.out;omega,by omega,by omega,by omega,?_,I.out,Q.out,R.out⟩,by simp [intOf];omega⟩
         rw [List.length_append,List.length_singleton,←A.out];omega
       ·have ay:((m:Int) != 92)=true:=by rw [bne_iff_ne];omega
        by_cases m34:m=34
        ·subst m34
         have J:Hid (zQ (l.drop a)=if meant.length=255 then ⟨0,[],0,0,5⟩ else zz O (meant++[((34:Nat)).toUInt8]) (j+2) (l.drop (i+2))):=show _=_ by
          rw [K.out,if_neg h34,show Ym (x::r)=(34,2) from V.out,if_neg (by simp),←M.out,List.drop_drop]
         obtain ⟨D,G⟩:∃D,D=meant.length:=⟨_,rfl⟩;have A:Hid (D=meant.length):=G;rw [←G] at Z;clear G
         by_cases h255:D=255
         ·have I:Hid (zQ (l.drop a)=⟨0,[],0,0,5⟩):=show _=_ by rw [J.out,if_pos (by rw [←A.out];exact h255)]
          subst h255
          go_wp2_with (at_builtin;refine Zp rfl _ _ rfl w.heap.size _ meant rfl (L.out.alloc _) _ [((34:Nat)).toUInt8] rfl (Zr (r:=(34:Nat)) (by omega) (by simp)) (by have:=A.out;simp;omega) (by simp;omega) ?_;intro v3 T o z;obtain ⟨Y,E,rfl,-,-,-,-⟩:=yd o;rw [show (meant++[((34:Nat)).toUInt8]).length=256 by rw [List.length_append,←A.out];rfl])
          exact bodyPost_ret (v:=qV a ⟨0,[],0,0,5⟩) (by simp [results,Tryz.results132,go_sem,qV]) rfl ⟨by rw [I.out],(U.out.alloc (by omega) _).grown z (by simp;omega) (fun q hq=>(L.out.lt q hq).1)⟩
         ·have H:decide ((255:Int)<(D:Int)+1)=false:=by simp;omega
          have I:Hid (zQ (l.drop a)=zz O (meant++[((34:Nat)).toUInt8]) (j+2) (l.drop (i+2))):=show _=_ by
           rw [J.out,if_neg (by rw [←A.out];exact h255)]
          go_wp2_with (at_builtin;refine Zp rfl _ _ rfl w.heap.size _ meant rfl (L.out.alloc _) _ [((34:Nat)).toUInt8] rfl (Zr (r:=(34:Nat)) (by omega) (by simp)) (by have:=A.out;simp;omega) (by simp;omega) ?_;intro v3 T o z;obtain ⟨Y,E,rfl,-,-,-,-⟩:=yd o;rw [show (meant++[((34:Nat)).toUInt8]).length=D+1 by rw [A.out];simp])
          have R:Hid (Below w.heap.size w T):=(U.out.alloc (by omega) _).grown z (by simp;omega) (fun q hq=>(L.out.lt q hq).1)
          have Q:Hid (T.ownsRow w.heap.size 5 1 (.slice Y (D+1) E) (meant++[((34:Nat)).toUInt8]).length (Lib.byteCells (meant++[((34:Nat)).toUInt8]))):=by
           have e9:(meant++[((34:Nat)).toUInt8]).length=D+1:=by rw [A.out];simp
           rw [e9] at o ⊢;exact o
          clear z o;refine ⟨⟨O,i+2,j+2,meant++[((34:Nat)).toUInt8],by go_num,by first | rfl | rw [H],by have:=W.out;omega,by omega,by omega,by omega,?_,I.out,Q.out,R.out⟩,by simp [intOf];omega⟩
          rw [List.length_append,List.length_singleton,←A.out];omega
        ·have aB:((m:Int) != 34)=true:=by rw [bne_iff_ne];omega
         by_cases m110:m=110
         ·subst m110
          have J:Hid (zQ (l.drop a)=if meant.length=255 then ⟨0,[],0,0,5⟩ else zz O (meant++[((10:Nat)).toUInt8]) (j+2) (l.drop (i+2))):=show _=_ by
           rw [K.out,if_neg h34,show Ym (x::r)=(10,2) from V.out,if_neg (by simp),←M.out,List.drop_drop]
          obtain ⟨D,G⟩:∃D,D=meant.length:=⟨_,rfl⟩;have A:Hid (D=meant.length):=G;rw [←G] at Z;clear G
          by_cases h255:D=255
          ·have I:Hid (zQ (l.drop a)=⟨0,[],0,0,5⟩):=show _=_ by rw [J.out,if_pos (by rw [←A.out];exact h255)]
           subst h255
           go_wp2_with (at_builtin;refine Zp rfl _ _ rfl w.heap.size _ meant rfl (L.out.alloc _) _ [((10:Nat)).toUInt8] rfl (Zr (r:=(10:Nat)) (by omega) (by simp)) (by have:=A.out;simp;omega) (by simp;omega) ?_;intro v3 T o z;obtain ⟨Y,E,rfl,-,-,-,-⟩:=yd o;rw [show (meant++[((10:Nat)).toUInt8]).length=256 by rw [List.length_append,←A.out];rfl])
           exact bodyPost_ret (v:=qV a ⟨0,[],0,0,5⟩) (by simp [results,Tryz.results132,go_sem,qV]) rfl ⟨by rw [I.out],(U.out.alloc (by omega) _).grown z (by simp;omega) (fun q hq=>(L.out.lt q hq).1)⟩
          ·have H:decide ((255:Int)<(D:Int)+1)=false:=by simp;omega
           have I:Hid (zQ (l.drop a)=zz O (meant++[((10:Nat)).toUInt8]) (j+2) (l.drop (i+2))):=show _=_ by
            rw [J.out,if_neg (by rw [←A.out];exact h255)]
           go_wp2_with (at_builtin;refine Zp rfl _ _ rfl w.heap.size _ meant rfl (L.out.alloc _) _ [((10:Nat)).toUInt8] rfl (Zr (r:=(10:Nat)) (by omega) (by simp)) (by have:=A.out;simp;omega) (by simp;omega) ?_;intro v3 T o z;obtain ⟨Y,E,rfl,-,-,-,-⟩:=yd o;rw [show (meant++[((10:Nat)).toUInt8]).length=D+1 by rw [A.out];simp])
           have R:Hid (Below w.heap.size w T):=(U.out.alloc (by omega) _).grown z (by simp;omega) (fun q hq=>(L.out.lt q hq).1)
           have Q:Hid (T.ownsRow w.heap.size 5 1 (.slice Y (D+1) E) (meant++[((10:Nat)).toUInt8]).length (Lib.byteCells (meant++[((10:Nat)).toUInt8]))):=by
            have e9:(meant++[((10:Nat)).toUInt8]).length=D+1:=by rw [A.out];simp
            rw [e9] at o ⊢;exact o
           clear z o;refine ⟨⟨O,i+2,j+2,meant++[((10:Nat)).toUInt8],by go_num,by first | rfl | rw [H],by have:=W.out;omega,by omega,by omega,by omega,?_,I.out,Q.out,R.out⟩,by simp [intOf];omega⟩
           rw [List.length_append,List.length_singleton,←A.out];omega
         ·have aw:((m:Int) != 110)=true:=by rw [bne_iff_ne];omega
          have I:Hid (zQ (l.drop a)=⟨0,[],0,0,6⟩):=show _=_ by
           rw [K.out,if_neg h34,V.out]
           unfold qz
           rw [if_neg m92,if_neg m34,if_neg m110,if_pos rfl]
          go_wp2
          exact bodyPost_ret (v:=qV a ⟨0,[],0,0,6⟩) (by simp [results,Tryz.results132,go_sem,qV]) rfl ⟨by rw [I.out],U.out⟩
     ·have aA:((n:Int)==92)=false:=by rw [beq_eq_false_iff_ne];omega
      have V:Hid (Ym (x::r)=(n,1)):=show _=_ by rw [xI (by rw [←HN.out];exact af.out) (by rw [←HN.out];exact h92),←HN.out]
      have J:Hid (zQ (l.drop a)=if meant.length=255 then ⟨0,[],0,0,5⟩ else zz O (meant++[(n).toUInt8]) (j+1) (l.drop (i+1))):=show _=_ by
       rw [K.out,if_neg h34,V.out,if_neg (by simp),←M.out,List.drop_drop]
      obtain ⟨D,G⟩:∃D,D=meant.length:=⟨_,rfl⟩;have A:Hid (D=meant.length):=G;rw [←G] at Z;clear G
      by_cases h255:D=255
      ·have I:Hid (zQ (l.drop a)=⟨0,[],0,0,5⟩):=show _=_ by rw [J.out,if_pos (by rw [←A.out];exact h255)]
       subst h255
       go_wp2_with (at_builtin;refine Zp rfl _ _ rfl w.heap.size _ meant rfl (L.out.alloc _) _ [(n).toUInt8] rfl (Zr (r:=n) (by omega) (by simp)) (by have:=A.out;simp;omega) (by simp;omega) ?_;intro v3 T o z;obtain ⟨Y,E,rfl,-,-,-,-⟩:=yd o;rw [show (meant++[(n).toUInt8]).length=256 by rw [List.length_append,←A.out];rfl])
       exact bodyPost_ret (v:=qV a ⟨0,[],0,0,5⟩) (by simp [results,Tryz.results132,go_sem,qV]) rfl ⟨by rw [I.out],(U.out.alloc (by omega) _).grown z (by simp;omega) (fun q hq=>(L.out.lt q hq).1)⟩
      ·have H:decide ((255:Int)<(D:Int)+1)=false:=by simp;omega
       have I:Hid (zQ (l.drop a)=zz O (meant++[(n).toUInt8]) (j+1) (l.drop (i+1))):=show _=_ by
        rw [J.out,if_neg (by rw [←A.out];exact h255)]
       go_wp2_with (at_builtin;refine Zp rfl _ _ rfl w.heap.size _ meant rfl (L.out.alloc _) _ [(n).toUInt8] rfl (Zr (r:=n) (by omega) (by simp)) (by have:=A.out;simp;omega) (by simp;omega) ?_;intro v3 T o z;obtain ⟨Y,E,rfl,-,-,-,-⟩:=yd o;rw [show (meant++[(n).toUInt8]).length=D+1 by rw [A.out];simp])
       have R:Hid (Below w.heap.size w T):=(U.out.alloc (by omega) _).grown z (by simp;omega) (fun q hq=>(L.out.lt q hq).1)
       have Q:Hid (T.ownsRow w.heap.size 5 1 (.slice Y (D+1) E) (meant++[(n).toUInt8]).length (Lib.byteCells (meant++[(n).toUInt8]))):=by
        have e9:(meant++[(n).toUInt8]).length=D+1:=by rw [A.out];simp
        rw [e9] at o ⊢;exact o
       clear z o;refine ⟨⟨O,i+1,j+1,meant++[(n).toUInt8],by go_num,by first | rfl | rw [H],by have:=W.out;omega,by omega,by omega,by omega,?_,I.out,Q.out,R.out⟩,by simp [intOf];omega⟩
       rw [List.length_append,List.length_singleton,←A.out];omega
  ·obtain rfl:i=l.length:=by omega
   have I:Hid (zQ (l.drop a)=⟨0,[],0,0,6⟩):=show _=_ by
    rw [ag.out,List.drop_length];cases f <;> rfl
   go_wp2
   exact bodyPost_ret (v:=qV a ⟨0,[],0,0,6⟩) (by simp [results,Tryz.results132,go_sem,qV]) rfl ⟨by rw [I.out],U.out⟩
end Go.Proofs.YtmbofhpmockmbaaGreatDoor
