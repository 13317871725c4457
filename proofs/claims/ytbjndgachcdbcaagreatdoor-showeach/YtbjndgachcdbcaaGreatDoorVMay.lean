import Derived.Test.YtbjndgachcdbcaaGreatDoorVPlace
import Derived.Deep.DeepCutAuto
namespace Go.Proofs.YtbjndgachcdbcaaGreatDoor
open Go.RowKit Go.Shelf
set_option maxHeartbeats 16000000
set_option maxRecDepth 100000
def XD (k:Nat) (status fault:Int) (frames:List Fr):Bool :=
 decide (0≤status∧status≤2)&&(decide (zP fault≠[])==decide (status=2))&&frames.all fun f=>f.vars.all fun b=>rightV b.val k
theorem XE {α:Type} (p:α→Bool) (l:List α) {i:Nat} (h:i<l.length):(l.take (i+1)).all p=((l.take i).all p&&p l[i]):=by
 have e:l.take i++[l[i]]=l.take (i+1):=List.take_append_getElem h;rw [←e,List.all_append];simp
theorem vO {α:Type} (p:α→Bool) (l:List α) {i:Nat} (h:i<l.length) (hp:p l[i]=false):l.all p=false:=by
 rw [List.all_eq_false];exact ⟨l[i],List.getElem_mem h,by simp [hp]⟩
theorem XF {S T:Nat→Prop} {most:Nat} {os:List Ob} {h:Nat} {vo vc:Value} (vf:Value) (pos status fault:Int) (out:List UInt8) (frames:List Fr) (w:World) (H:zw S w most os h vo vc) (hu:Xx T w vf frames)
  (hsm:∀f∈frames,Z8 f) (hnf:frames.length≤1048576) (ht:Yr w) :
  Calls Tryz.prog 23 #[UD vf pos status fault out,.pointer (some ⟨h,0,none⟩)] w fun e w'=>e=.returned (.bool (XD os.length status fault frames))∧Below w.heap.size w w':=by
 obtain ⟨base,aA,rfl,aI,aR,au⟩:=hu.at
 have aO:Hid (∀i (hi:i<frames.length),∃b o,base=some ⟨b,o,none⟩∧T b∧b<w.heap.size∧Ur T w b (o+i*3) frames[i]):=au
 have aS:Hid (∀f∈frames,Z8 f):=hsm;have HH:Hid (zw S w most os h vo vc):=H;have HT:Hid (Yr w):=ht;obtain ⟨w1,aD,aj,aP,h0⟩:=Z6 w (.cells #[.int .i64 pos,.int .i64 status,.int .i64 fault,.slice base frames.length aA,.string (za out)] 29);have aE:Hid (w1=w.alloc (.cells #[.int .i64 pos,.int .i64 status,.int .i64 fault,.slice base frames.length aA,.string (za out)] 29)):=aD;have ae:Hid (Below w.heap.size w w1):=aj;have cf:=yk fault w1 (ht.below aj (Nat.le_refl _));obtain ⟨p0,p1,p2,p3,p4⟩:=zW h0;obtain ⟨F,hF⟩:∃F,F=zP fault:=⟨_,rfl⟩;obtain ⟨fb,af⟩:∃fb:Bool,fb=!F.isEmpty:=⟨_,rfl⟩;have V:decide (F≠[])=fb:=by rw [af];cases F <;> rfl
 have HR:Hid (XD os.length status fault frames=(decide (0≤status∧status≤2)&&(fb==decide (status=2))&&frames.all fun f=>f.vars.all fun b=>rightV b.val os.length)):=by rw [←V,hF];rfl
 obtain ⟨R,hR⟩:∃R,R=XD os.length status fault frames:=⟨_,rfl⟩;rw [←hR] at HR ⊢;rw [←hF] at cf;clear aD aj au hu hsm aI aR H ht aP hR hF h0 V
 go_enter Tryz.func23,Tryz.ntmps23
 go_wp2_with fail
 rw [←aE.out];refine cf.mono ?_;clear cf;rintro e w2 ⟨rfl,rfl⟩
 go_upto_region 2 with fail
 rw [←af];clear af;obtain ⟨A,hA⟩:∃A:Bool,A=(decide (0≤status∧status≤2)&&(fb==decide (status=2))):=⟨_,rfl⟩;rw [←hA] at HR;have HA:Hid (A=(decide (0≤status∧status≤2)&&(fb==decide (status=2)))):=hA;clear hA
 go_cut [28] (fun t wx=>t=.bool (!A)∧wx=w1)
 case first =>
  by_cases s0:status<0
  ·have hf:A=false:=by rw [HA.out,decide_eq_false (by omega)];rfl
   subst hf;go_wp2_with fail
   go_meet
   exact ⟨rfl,rfl⟩
  ·by_cases s1:2<status
   ·have hf:A=false:=by rw [HA.out,decide_eq_false (by omega)];rfl
    subst hf;go_wp2_with fail
    go_meet
    exact ⟨rfl,rfl⟩
   ·have K:A=(fb==decide (status=2)):=by rw [HA.out,decide_eq_true (by omega),Bool.true_and]
    by_cases s2:status=2
    ·subst s2
     have ak:Hid (A=fb):=by show _=_;rw [K];cases fb <;> rfl
     clear K
     cases fb <;>
     ·go_wp2_with fail
      go_meet
      rw [ak.out];exact ⟨rfl,rfl⟩
    ·have q2:(status==2)=false:=by rw [beq_eq_false_iff_ne];exact s2
     have ak:Hid (A=!fb):=by show _=_;rw [K,decide_eq_false s2];cases fb <;> rfl
     clear K
     cases fb <;>
     ·go_wp2_with fail
      go_meet
      rw [ak.out];exact ⟨rfl,rfl⟩
 case rest =>
  obtain ⟨rfl,rfl⟩:=hcut;cases A with
  | false =>
   clear p0 p1 p2 p3 p4;rw [Bool.false_and] at HR;go_wp2_with fail
   go_ret
   rw [HR.out];exact ⟨rfl,ae.out⟩
  | true =>
   rw [Bool.true_and] at HR;have aW:=ae.out.size
   go_upto_region 5 with fail
   clear p0 p1 p2 p3 p4
   go_loopw [32] (fun vi wr=>∃i:Nat,i≤frames.length∧vi=.int .i64 (i:Int)∧Hid ((frames.take i).all (fun f=>f.vars.all fun b=>rightV b.val os.length)=true)∧Below w.heap.size w wr) (fun vi _=>frames.length-(intOf vi).toNat)
   case atStart=>exact ⟨0,Nat.zero_le _,rfl,by show _=_;simp,ae.out⟩
   case round =>
    obtain ⟨i,hi,rfl,ag,y⟩:=hrel;have HB:Hid (Below w.heap.size w wr):=y;have aU:=y.size;clear y
    by_cases hlt:i<frames.length
    ·have aN:(i:Int)<frames.length:=by omega
     obtain ⟨b,o,rfl,-,aF,D,G,u,U,aC⟩:=aO.out i hlt;obtain ⟨bv,cv,rfl,Y,-,z⟩:=aC.at;have B:∀q,wr.cell? ⟨b,q,none⟩=w.cell? ⟨b,q,none⟩:=fun q=>zb HB.out aF
     rw [←B] at D G U;have O:=aS.out _ (List.getElem_mem hlt);have I:=XE (fun f:Fr=>f.vars.all fun b=>rightV b.val os.length) frames hlt
     have ai:=vO (fun f:Fr=>f.vars.all fun b=>rightV b.val os.length) frames hlt
     obtain ⟨f,hf⟩:∃f,f=frames[i]:=⟨_,rfl⟩;rw [←hf] at D G O;simp only [←hf] at U Y z I ai;rw [ag.out,Bool.true_and] at I;have Z:Hid ((frames.take (i+1)).all (fun f:Fr=>f.vars.all fun b=>rightV b.val os.length)=f.vars.all fun b=>rightV b.val os.length):=I
     have X:Hid ((f.vars.all fun b=>rightV b.val os.length)=false→(frames.all fun f:Fr=>f.vars.all fun b=>rightV b.val os.length)=false):=ai
     obtain ⟨fn,W,c⟩:=f;simp only at D G U Y z Z X;have aT:=O.nvars;simp only at aT;have aG:Hid (∀b∈c,b.name.length≤1048576∧zq b.val):=O.vars;have ap:Hid (∀i (hi:i<c.length),∃b o,bv=some ⟨b,o,none⟩∧T b∧b<w.heap.size∧Uq w b (o+i*4) c[i]):=z;obtain ⟨w3,az,ay,aK,h3⟩:=Z6 wr (.cells #[.string (za fn),.int .i64 W,.slice bv c.length cv] 52);have aH:Hid (w3=wr.alloc (.cells #[.string (za fn),.int .i64 W,.slice bv c.length cv] 52)):=az;have aJ:Hid (Below w.heap.size w w3):=HB.out.trans (ay.mono aU);obtain ⟨g0,g1,g2⟩:=Zn h3;clear I ai O aC z hf az ay h3 aK B
     go_upto_region 7 with fail
     rw [←aH.out];clear D G U
     go_upto_region 8 with fail
     clear g0 g1 g2
     go_loopw [39] (fun vj wr=>∃j:Nat,j≤c.length∧vj=.int .i64 (j:Int)∧Hid ((c.take j).all (fun b=>rightV b.val os.length)=true)∧Below w.heap.size w wr) (fun vj _=>c.length-(intOf vj).toNat)
     case atStart=>exact ⟨0,Nat.zero_le _,rfl,by show _=_;simp,aJ.out⟩
     case round =>
      obtain ⟨j,hj,rfl,aa,y⟩:=hrel;have ab:Hid (Below w.heap.size w wr):=y;have aL:=y.size;clear y
      by_cases hjl:j<c.length
      ·have aM:(j:Int)<c.length:=by omega
       obtain ⟨b5,o5,rfl,-,am,D,G,U,e3⟩:=ap.out j hjl;have B:∀q,wr.cell? ⟨b5,q,none⟩=w.cell? ⟨b5,q,none⟩:=fun q=>zb ab.out am
       rw [←B] at D G U e3;have E:=(aG.out _ (List.getElem_mem hjl)).2;have J:=XE (fun b:Bn=>rightV b.val os.length) c hjl
       have ah:=vO (fun b:Bn=>rightV b.val os.length) c hjl
       obtain ⟨x,hx⟩:∃x,x=c[j]:=⟨_,rfl⟩;simp only [←hx] at D G U e3 E J ah;rw [aa.out,Bool.true_and] at J;have aB:Hid ((c.take (j+1)).all (fun b:Bn=>rightV b.val os.length)=rightV x.val os.length):=J
       have ar:Hid (rightV x.val os.length=false→(c.all fun b:Bn=>rightV b.val os.length)=false):=ah
       obtain ⟨nm,⟨k,m,s⟩⟩:=x;simp only at D G U e3 E aB ar;obtain ⟨w5,an,aw,aQ,h5⟩:=Z6 wr (.cells #[.string (za nm),.int .i64 k,.int .i64 m,.string (za s)] 58);have aV:Hid (w5=wr.alloc (.cells #[.string (za nm),.int .i64 k,.int .i64 m,.string (za s)] 58)):=an;have M:Hid (Below w.heap.size w w5):=ab.out.trans (aw.mono aL);have cs:=Xv ⟨k,m,s⟩ w5 (HH.out.below M.out) E (HT.out.below M.out (Nat.le_refl _)).tabs;have ad:=V4 (os:=os) (v:=⟨k,m,s⟩);obtain ⟨SB,ax⟩:∃SB,SB=Zi os ⟨k,m,s⟩:=⟨_,rfl⟩;rw [←ax] at cs ad;have aq:Hid (SB=[]↔rightV ⟨k,m,s⟩ os.length=false):=ad;obtain ⟨g0,g1,g2,g3⟩:=yi h5;clear J ah hx an aw B ad ax E aQ h5
       go_upto_region 10 with fail
       rw [←aV.out];clear D G U e3;go_wp2_with fail
       refine cs.mono ?_;clear cs g0 g1 g2 g3;rintro e w6 ⟨rfl,ao⟩;have av:Hid (Below w.heap.size w w6):=M.out.trans (ao.mono M.out.size);clear ao
       by_cases hs0:SB=[]
       ·have HF:Hid ((frames.all fun f:Fr=>f.vars.all fun b=>rightV b.val os.length)=false):=X.out (ar.out (aq.out.1 hs0))
        subst hs0;go_wp2_with fail
        go_ret
        rw [HR.out,HF.out];exact ⟨rfl,av.out⟩
       ·have al:Hid ((c.take (j+1)).all (fun b:Bn=>rightV b.val os.length)=true):=by
         show _=_
         rw [aB.out];cases hr:rightV ⟨k,m,s⟩ os.length with
         | true=>rfl
         | false=>exact absurd (aq.out.2 hr) hs0
        obtain ⟨c9,t9,rfl⟩:=List.exists_cons_of_ne_nil hs0;go_wp2
        refine ⟨⟨_,_,_,_,_,_,_,_,_,_,_,_,⟨j+1,by omega,?_,al,av.out⟩,rfl⟩,by simp [intOf];omega⟩
        go_num
      ·have aM:¬ (j:Int)<c.length:=by omega
       obtain rfl:j=c.length:=by omega
       rw [List.take_length] at aa;have al:Hid ((frames.take (i+1)).all (fun f:Fr=>f.vars.all fun b=>rightV b.val os.length)=true):=by show _=_;rw [Z.out,aa.out]
       go_wp2
       exact ⟨⟨i+1,by omega,by go_num,al,ab.out⟩,by simp [intOf];omega⟩
    ·have aN:¬ (i:Int)<frames.length:=by omega
     obtain rfl:i=frames.length:=by omega
     rw [List.take_length] at ag;go_wp2_with fail
     go_ret
     rw [HR.out,ag.out];exact ⟨rfl,HB.out⟩
end Go.Proofs.YtbjndgachcdbcaaGreatDoor
