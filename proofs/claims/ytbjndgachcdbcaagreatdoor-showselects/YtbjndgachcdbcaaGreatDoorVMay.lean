import Derived.Test.YtbjndgachcdbcaaGreatDoorVPlace
import Derived.Deep.DeepCutAuto
namespace Go.Proofs.YtbjndgachcdbcaaGreatDoor
open Go.RowKit Go.Shelf
set_option maxHeartbeats 16000000
set_option maxRecDepth 100000
def Xw (k:Nat) (status fault:Int) (frames:List Fr):Bool :=
 decide (0≤status∧status≤2)&&(decide (zS fault≠[])==decide (status=2))&&frames.all fun f=>f.vars.all fun b=>rightV b.val k
theorem Xx {α:Type} (p:α→Bool) (l:List α) {i:Nat} (h:i<l.length):(l.take (i+1)).all p=((l.take i).all p&&p l[i]):=by
 have e:l.take i++[l[i]]=l.take (i+1):=List.take_append_getElem h;rw [←e,List.all_append];simp
theorem vG {α:Type} (p:α→Bool) (l:List α) {i:Nat} (h:i<l.length) (hp:p l[i]=false):l.all p=false:=by
 rw [List.all_eq_false];exact ⟨l[i],List.getElem_mem h,by simp [hp]⟩
theorem Xy {S T:Nat→Prop} {most:Nat} {os:List Ob} {h:Nat} {vo vc:Value} (vf:Value) (pos status fault:Int) (out:List UInt8) (frames:List Fr) (w:World) (H:zx S w most os h vo vc) (hu:Xq T w vf frames)
  (hsm:∀f∈frames,Z6 f) (hnf:frames.length≤1048576) (ht:YB w) :
  Calls Tryz.prog 23 #[Uw vf pos status fault out,.pointer (some ⟨h,0,none⟩)] w fun e w'=>e=.returned (.bool (Xw os.length status fault frames))∧Below w.heap.size w w':=by
 obtain ⟨base,aA,rfl,aP,aK,aB⟩:=hu.at
 have aR:Hid (∀i (hi:i<frames.length),∃b o,base=some ⟨b,o,none⟩∧T b∧b<w.heap.size∧Uk T w b (o+i*3) frames[i]):=aB
 have aF:Hid (∀f∈frames,Z6 f):=hsm;have HH:Hid (zx S w most os h vo vc):=H;have HT:Hid (YB w):=ht;obtain ⟨w1,au,ah,aQ,h0⟩:=yj w (.cells #[.int .i64 pos,.int .i64 status,.int .i64 fault,.slice base frames.length aA,.string (za out)] 29);have aT:Hid (w1=w.alloc (.cells #[.int .i64 pos,.int .i64 status,.int .i64 fault,.slice base frames.length aA,.string (za out)] 29)):=au;have ab:Hid (Below w.heap.size w w1):=ah;have cf:=yf fault w1 (ht.below ah (Nat.le_refl _));obtain ⟨p0,p1,p2,p3,p4⟩:=zZ h0;obtain ⟨F,hF⟩:∃F,F=zS fault:=⟨_,rfl⟩;obtain ⟨fb,af⟩:∃fb:Bool,fb=!F.isEmpty:=⟨_,rfl⟩;have X:decide (F≠[])=fb:=by rw [af];cases F <;> rfl
 have HR:Hid (Xw os.length status fault frames=(decide (0≤status∧status≤2)&&(fb==decide (status=2))&&frames.all fun f=>f.vars.all fun b=>rightV b.val os.length)):=by rw [←X,hF];rfl
 obtain ⟨R,hR⟩:∃R,R=Xw os.length status fault frames:=⟨_,rfl⟩;rw [←hR] at HR ⊢;rw [←hF] at cf;clear au ah aB hu hsm aP aK H ht aQ hR hF h0 X
 go_enter Tryz.func23,Tryz.ntmps23
 go_wp2_with fail
 rw [←aT.out];refine cf.mono ?_;clear cf;rintro e w2 ⟨rfl,rfl⟩
 go_upto_region 2 with fail
 rw [←af];clear af;obtain ⟨A,hA⟩:∃A:Bool,A=(decide (0≤status∧status≤2)&&(fb==decide (status=2))):=⟨_,rfl⟩;rw [←hA] at HR;have HA:Hid (A=(decide (0≤status∧status≤2)&&(fb==decide (status=2)))):=hA;clear hA
 go_cut [28] (fun t wx=>t=.bool (!A)∧wx=w1)
 case first =>
  by_cases s0:status<0
  ·have hf:A=false:=by rw [HA.out,decide_eq_false (by omega)];rfl
   subst hf;go_wp2_with fail
   go_meet
   exact ⟨rfl,rfl⟩
  ·by_cases s1:2<status
   ·have hf:A=false:=by rw [HA.out,decide_eq_false (by omega)];rfl
    subst hf;go_wp2_with fail
    go_meet
    exact ⟨rfl,rfl⟩
   ·have D:A=(fb==decide (status=2)):=by rw [HA.out,decide_eq_true (by omega),Bool.true_and]
    by_cases s2:status=2
    ·subst s2
     have aj:Hid (A=fb):=by show _=_;rw [D];cases fb <;> rfl
     clear D
     cases fb <;>
     ·go_wp2_with fail
      go_meet
      rw [aj.out];exact ⟨rfl,rfl⟩
    ·have q2:(status==2)=false:=by rw [beq_eq_false_iff_ne];exact s2
     have aj:Hid (A=!fb):=by show _=_;rw [D,decide_eq_false s2];cases fb <;> rfl
     clear D
     cases fb <;>
     ·go_wp2_with fail
      go_meet
      rw [aj.out];exact ⟨rfl,rfl⟩
 case rest =>
  obtain ⟨rfl,rfl⟩:=hcut;cases A with
  | false =>
   clear p0 p1 p2 p3 p4;rw [Bool.false_and] at HR;go_wp2_with fail
   go_ret
   rw [HR.out];exact ⟨rfl,ab.out⟩
  | true =>
   rw [Bool.true_and] at HR;have aW:=ab.out.size
   go_upto_region 5 with fail
   clear p0 p1 p2 p3 p4
   go_loopw [32] (fun vi wr=>∃i:Nat,i≤frames.length∧vi=.int .i64 (i:Int)∧Hid ((frames.take i).all (fun f=>f.vars.all fun b=>rightV b.val os.length)=true)∧Below w.heap.size w wr) (fun vi _=>frames.length-(intOf vi).toNat)
   case atStart=>exact ⟨0,Nat.zero_le _,rfl,by show _=_;simp,ab.out⟩
   case round =>
    obtain ⟨i,hi,rfl,ae,y⟩:=hrel;have HB:Hid (Below w.heap.size w wr):=y;have aG:=y.size;clear y
    by_cases hlt:i<frames.length
    ·have aM:(i:Int)<frames.length:=by omega
     obtain ⟨b,o,rfl,-,aE,O,G,u,I,az⟩:=aR.out i hlt;obtain ⟨bv,cv,rfl,Y,-,z⟩:=az.at;have B:∀q,wr.cell? ⟨b,q,none⟩=w.cell? ⟨b,q,none⟩:=fun q=>zb HB.out aE
     rw [←B] at O G I;have M:=aF.out _ (List.getElem_mem hlt);have K:=Xx (fun f:Fr=>f.vars.all fun b=>rightV b.val os.length) frames hlt
     have al:=vG (fun f:Fr=>f.vars.all fun b=>rightV b.val os.length) frames hlt
     obtain ⟨f,hf⟩:∃f,f=frames[i]:=⟨_,rfl⟩;rw [←hf] at O G M;simp only [←hf] at I Y z K al;rw [ae.out,Bool.true_and] at K;have V:Hid ((frames.take (i+1)).all (fun f:Fr=>f.vars.all fun b=>rightV b.val os.length)=f.vars.all fun b=>rightV b.val os.length):=K
     have W:Hid ((f.vars.all fun b=>rightV b.val os.length)=false→(frames.all fun f:Fr=>f.vars.all fun b=>rightV b.val os.length)=false):=al
     obtain ⟨fn,Z,c⟩:=f;simp only at O G I Y z V W;have aV:=M.nvars;simp only at aV;have aI:Hid (∀b∈c,b.name.length≤1048576∧zq b.val):=M.vars;have aq:Hid (∀i (hi:i<c.length),∃b o,bv=some ⟨b,o,none⟩∧T b∧b<w.heap.size∧Uj w b (o+i*4) c[i]):=z;obtain ⟨w3,aD,ao,aH,h3⟩:=yj wr (.cells #[.string (za fn),.int .i64 Z,.slice bv c.length cv] 52);have aO:Hid (w3=wr.alloc (.cells #[.string (za fn),.int .i64 Z,.slice bv c.length cv] 52)):=aD;have aU:Hid (Below w.heap.size w w3):=HB.out.trans (ao.mono aG);obtain ⟨g0,g1,g2⟩:=Zr h3;clear K al M az z hf aD ao h3 aH B
     go_upto_region 7 with fail
     rw [←aO.out];clear O G I
     go_upto_region 8 with fail
     clear g0 g1 g2
     go_loopw [39] (fun vj wr=>∃j:Nat,j≤c.length∧vj=.int .i64 (j:Int)∧Hid ((c.take j).all (fun b=>rightV b.val os.length)=true)∧Below w.heap.size w wr) (fun vj _=>c.length-(intOf vj).toNat)
     case atStart=>exact ⟨0,Nat.zero_le _,rfl,by show _=_;simp,aU.out⟩
     case round =>
      obtain ⟨j,hj,rfl,ai,y⟩:=hrel;have ag:Hid (Below w.heap.size w wr):=y;have aL:=y.size;clear y
      by_cases hjl:j<c.length
      ·have aJ:(j:Int)<c.length:=by omega
       obtain ⟨b5,o5,rfl,-,aC,O,G,I,e3⟩:=aq.out j hjl;have B:∀q,wr.cell? ⟨b5,q,none⟩=w.cell? ⟨b5,q,none⟩:=fun q=>zb ag.out aC
       rw [←B] at O G I e3;have U:=(aI.out _ (List.getElem_mem hjl)).2;have J:=Xx (fun b:Bn=>rightV b.val os.length) c hjl
       have aa:=vG (fun b:Bn=>rightV b.val os.length) c hjl
       obtain ⟨x,hx⟩:∃x,x=c[j]:=⟨_,rfl⟩;simp only [←hx] at O G I e3 U J aa;rw [ai.out,Bool.true_and] at J;have ay:Hid ((c.take (j+1)).all (fun b:Bn=>rightV b.val os.length)=rightV x.val os.length):=J
       have ax:Hid (rightV x.val os.length=false→(c.all fun b:Bn=>rightV b.val os.length)=false):=aa
       obtain ⟨nm,⟨k,m,s⟩⟩:=x;simp only at O G I e3 U ay ax;obtain ⟨w5,an,av,aS,h5⟩:=yj wr (.cells #[.string (za nm),.int .i64 k,.int .i64 m,.string (za s)] 58);have aN:Hid (w5=wr.alloc (.cells #[.string (za nm),.int .i64 k,.int .i64 m,.string (za s)] 58)):=an;have E:Hid (Below w.heap.size w w5):=ag.out.trans (av.mono aL);have cs:=Xo ⟨k,m,s⟩ w5 (HH.out.below E.out) U (HT.out.below E.out (Nat.le_refl _)).tabs;have ad:=VV (os:=os) (v:=⟨k,m,s⟩);obtain ⟨SB,am⟩:∃SB,SB=Zm os ⟨k,m,s⟩:=⟨_,rfl⟩;rw [←am] at cs ad;have ap:Hid (SB=[]↔rightV ⟨k,m,s⟩ os.length=false):=ad;obtain ⟨g0,g1,g2,g3⟩:=yd h5;clear J aa hx an av B ad am U aS h5
       go_upto_region 10 with fail
       rw [←aN.out];clear O G I e3;go_wp2_with fail
       refine cs.mono ?_;clear cs g0 g1 g2 g3;rintro e w6 ⟨rfl,aw⟩;have ar:Hid (Below w.heap.size w w6):=E.out.trans (aw.mono E.out.size);clear aw
       by_cases hs0:SB=[]
       ·have HF:Hid ((frames.all fun f:Fr=>f.vars.all fun b=>rightV b.val os.length)=false):=W.out (ax.out (ap.out.1 hs0))
        subst hs0;go_wp2_with fail
        go_ret
        rw [HR.out,HF.out];exact ⟨rfl,ar.out⟩
       ·have ak:Hid ((c.take (j+1)).all (fun b:Bn=>rightV b.val os.length)=true):=by
         show _=_
         rw [ay.out];cases hr:rightV ⟨k,m,s⟩ os.length with
         | true=>rfl
         | false=>exact absurd (ap.out.2 hr) hs0
        obtain ⟨c9,t9,rfl⟩:=List.exists_cons_of_ne_nil hs0;go_wp2
        refine ⟨⟨_,_,_,_,_,_,_,_,_,_,_,_,⟨j+1,by omega,?_,ak,ar.out⟩,rfl⟩,by simp [intOf];omega⟩
        go_num
      ·have aJ:¬ (j:Int)<c.length:=by omega
       obtain rfl:j=c.length:=by omega
       rw [List.take_length] at ai;have ak:Hid ((frames.take (i+1)).all (fun f:Fr=>f.vars.all fun b=>rightV b.val os.length)=true):=by show _=_;rw [V.out,ai.out]
       go_wp2
       exact ⟨⟨i+1,by omega,by go_num,ak,ag.out⟩,by simp [intOf];omega⟩
    ·have aM:¬ (i:Int)<frames.length:=by omega
     obtain rfl:i=frames.length:=by omega
     rw [List.take_length] at ae;go_wp2_with fail
     go_ret
     rw [HR.out,ae.out];exact ⟨rfl,HB.out⟩
end Go.Proofs.YtbjndgachcdbcaaGreatDoor
