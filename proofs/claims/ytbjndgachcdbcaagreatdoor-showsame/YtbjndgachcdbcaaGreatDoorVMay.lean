import Derived.Test.YtbjndgachcdbcaaGreatDoorMC21
import Derived.Deep.DeepCutAuto
namespace Go.Proofs.YtbjndgachcdbcaaGreatDoor
open Go.RowKit Go.Shelf
set_option maxHeartbeats 16000000
set_option maxRecDepth 100000
def XS (k:Nat) (status fault:Int) (frames:List Fr):Bool :=
 decide (0≤status∧status≤2)&&(decide (zV fault≠[])==decide (status=2))&&frames.all fun f=>f.vars.all fun b=>rightV b.val k
theorem XT {α:Type} (p:α→Bool) (l:List α) {i:Nat} (h:i<l.length):(l.take (i+1)).all p=((l.take i).all p&&p l[i]):=by
 have e:l.take i++[l[i]]=l.take (i+1):=List.take_append_getElem h;rw [←e,List.all_append];simp
theorem Vk {α:Type} (p:α→Bool) (l:List α) {i:Nat} (h:i<l.length) (hp:p l[i]=false):l.all p=false:=by
 rw [List.all_eq_false];exact ⟨l[i],List.getElem_mem h,by simp [hp]⟩
theorem XU {S T:Nat→Prop} {most:Nat} {os:List Ob} {h:Nat} {vo vc:Value} (vf:Value) (pos status fault:Int) (out:List UInt8) (frames:List Fr) (w:World) (H:zs S w most os h vo vc) (hu:XM T w vf frames)
  (hsm:∀f∈frames,yf f) (hnf:frames.length≤1048576) (ht:Yz w) :
  Calls Tryz.prog 23 #[UY vf pos status fault out,.pointer (some ⟨h,0,none⟩)] w fun e w'=>e=.returned (.bool (XS os.length status fault frames))∧Below w.heap.size w w':=by
 obtain ⟨base,aA,rfl,aM,aR,ax⟩:=hu.at
 have aI:Hid (∀i (hi:i<frames.length),∃b o,base=some ⟨b,o,none⟩∧T b∧b<w.heap.size∧UF T w b (o+i*3) frames[i]):=ax
 have aV:Hid (∀f∈frames,yf f):=hsm;have HH:Hid (zs S w most os h vo vc):=H;have HT:Hid (Yz w):=ht;obtain ⟨w1,ay,ab,aH,h0⟩:=yE w (.cells #[.int .i64 pos,.int .i64 status,.int .i64 fault,.slice base frames.length aA,.string (za out)] 29);have aQ:Hid (w1=w.alloc (.cells #[.int .i64 pos,.int .i64 status,.int .i64 fault,.slice base frames.length aA,.string (za out)] 29)):=ay;have ag:Hid (Below w.heap.size w w1):=ab;have cf:=yo fault w1 (ht.below ab (Nat.le_refl _));obtain ⟨p0,p1,p2,p3,p4⟩:=Zb h0;obtain ⟨F,hF⟩:∃F,F=zV fault:=⟨_,rfl⟩;obtain ⟨fb,ai⟩:∃fb:Bool,fb=!F.isEmpty:=⟨_,rfl⟩;have V:decide (F≠[])=fb:=by rw [ai];cases F <;> rfl
 have HR:Hid (XS os.length status fault frames=(decide (0≤status∧status≤2)&&(fb==decide (status=2))&&frames.all fun f=>f.vars.all fun b=>rightV b.val os.length)):=by rw [←V,hF];rfl
 obtain ⟨R,hR⟩:∃R,R=XS os.length status fault frames:=⟨_,rfl⟩;rw [←hR] at HR ⊢;rw [←hF] at cf;clear ay ab ax hu hsm aM aR H ht aH hR hF h0 V
 go_enter Tryz.func23,Tryz.ntmps23
 go_wp2_with fail
 rw [←aQ.out];refine cf.mono ?_;clear cf;rintro e w2 ⟨rfl,rfl⟩
 go_upto_region 2 with fail
 rw [←ai];clear ai;obtain ⟨A,hA⟩:∃A:Bool,A=(decide (0≤status∧status≤2)&&(fb==decide (status=2))):=⟨_,rfl⟩;rw [←hA] at HR;have HA:Hid (A=(decide (0≤status∧status≤2)&&(fb==decide (status=2)))):=hA;clear hA
 go_cut [28] (fun t wx=>t=.bool (!A)∧wx=w1)
 case first =>
  by_cases s0:status<0
  ·have hf:A=false:=by rw [HA.out,decide_eq_false (by omega)];rfl
   subst hf;go_wp2_with fail
   go_meet
   exact ⟨rfl,rfl⟩
  ·by_cases s1:2<status
   ·have hf:A=false:=by rw [HA.out,decide_eq_false (by omega)];rfl
    subst hf;go_wp2_with fail
    go_meet
    exact ⟨rfl,rfl⟩
   ·have D:A=(fb==decide (status=2)):=by rw [HA.out,decide_eq_true (by omega),Bool.true_and]
    by_cases s2:status=2
    ·subst s2
     have ad:Hid (A=fb):=by show _=_;rw [D];cases fb <;> rfl
     clear D
     cases fb <;>
     ·go_wp2_with fail
      go_meet
      rw [ad.out];exact ⟨rfl,rfl⟩
    ·have q2:(status==2)=false:=by rw [beq_eq_false_iff_ne];exact s2
     have ad:Hid (A=!fb):=by show _=_;rw [D,decide_eq_false s2];cases fb <;> rfl
     clear D
     cases fb <;>
     ·go_wp2_with fail
      go_meet
      rw [ad.out];exact ⟨rfl,rfl⟩
 case rest =>
  obtain ⟨rfl,rfl⟩:=hcut;cases A with
  | false =>
   clear p0 p1 p2 p3 p4;rw [Bool.false_and] at HR;go_wp2_with fail
   go_ret
   rw [HR.out];exact ⟨rfl,ag.out⟩
  | true =>
   rw [Bool.true_and] at HR;have aW:=ag.out.size
   go_upto_region 5 with fail
   clear p0 p1 p2 p3 p4
   go_loopw [32] (fun vi wr=>∃i:Nat,i≤frames.length∧vi=.int .i64 (i:Int)∧Hid ((frames.take i).all (fun f=>f.vars.all fun b=>rightV b.val os.length)=true)∧Below w.heap.size w wr) (fun vi _=>frames.length-(intOf vi).toNat)
   case atStart=>exact ⟨0,Nat.zero_le _,rfl,by show _=_;simp,ag.out⟩
   case round =>
    obtain ⟨i,hi,rfl,ae,y⟩:=hrel;have HB:Hid (Below w.heap.size w wr):=y;have aS:=y.size;clear y
    by_cases hlt:i<frames.length
    ·have aE:(i:Int)<frames.length:=by omega
     obtain ⟨b,o,rfl,-,aJ,M,O,u,U,am⟩:=aI.out i hlt;obtain ⟨bv,cv,rfl,W,-,z⟩:=am.at;have B:∀q,wr.cell? ⟨b,q,none⟩=w.cell? ⟨b,q,none⟩:=fun q=>zb HB.out aJ
     rw [←B] at M O U;have I:=aV.out _ (List.getElem_mem hlt);have J:=XT (fun f:Fr=>f.vars.all fun b=>rightV b.val os.length) frames hlt
     have al:=Vk (fun f:Fr=>f.vars.all fun b=>rightV b.val os.length) frames hlt
     obtain ⟨f,hf⟩:∃f,f=frames[i]:=⟨_,rfl⟩;rw [←hf] at M O I;simp only [←hf] at U W z J al;rw [ae.out,Bool.true_and] at J;have X:Hid ((frames.take (i+1)).all (fun f:Fr=>f.vars.all fun b=>rightV b.val os.length)=f.vars.all fun b=>rightV b.val os.length):=J
     have Y:Hid ((f.vars.all fun b=>rightV b.val os.length)=false→(frames.all fun f:Fr=>f.vars.all fun b=>rightV b.val os.length)=false):=al
     obtain ⟨fn,Z,c⟩:=f;simp only at M O U W z X Y;have aO:=I.nvars;simp only at aO;have aF:Hid (∀b∈c,b.name.length≤1048576∧zr b.val):=I.vars;have ap:Hid (∀i (hi:i<c.length),∃b o,bv=some ⟨b,o,none⟩∧T b∧b<w.heap.size∧UE w b (o+i*4) c[i]):=z;obtain ⟨w3,aq,ar,aK,h3⟩:=yE wr (.cells #[.string (za fn),.int .i64 Z,.slice bv c.length cv] 52);have aP:Hid (w3=wr.alloc (.cells #[.string (za fn),.int .i64 Z,.slice bv c.length cv] 52)):=aq;have aT:Hid (Below w.heap.size w w3):=HB.out.trans (ar.mono aS);obtain ⟨g0,g1,g2⟩:=Zp h3;clear J al I am z hf aq ar h3 aK B
     go_upto_region 7 with fail
     rw [←aP.out];clear M O U
     go_upto_region 8 with fail
     clear g0 g1 g2
     go_loopw [39] (fun vj wr=>∃j:Nat,j≤c.length∧vj=.int .i64 (j:Int)∧Hid ((c.take j).all (fun b=>rightV b.val os.length)=true)∧Below w.heap.size w wr) (fun vj _=>c.length-(intOf vj).toNat)
     case atStart=>exact ⟨0,Nat.zero_le _,rfl,by show _=_;simp,aT.out⟩
     case round =>
      obtain ⟨j,hj,rfl,ak,y⟩:=hrel;have af:Hid (Below w.heap.size w wr):=y;have aN:=y.size;clear y
      by_cases hjl:j<c.length
      ·have aU:(j:Int)<c.length:=by omega
       obtain ⟨b5,o5,rfl,-,az,M,O,U,e3⟩:=ap.out j hjl;have B:∀q,wr.cell? ⟨b5,q,none⟩=w.cell? ⟨b5,q,none⟩:=fun q=>zb af.out az
       rw [←B] at M O U e3;have G:=(aF.out _ (List.getElem_mem hjl)).2;have E:=XT (fun b:Bn=>rightV b.val os.length) c hjl
       have ah:=Vk (fun b:Bn=>rightV b.val os.length) c hjl
       obtain ⟨x,hx⟩:∃x,x=c[j]:=⟨_,rfl⟩;simp only [←hx] at M O U e3 G E ah;rw [ak.out,Bool.true_and] at E;have aB:Hid ((c.take (j+1)).all (fun b:Bn=>rightV b.val os.length)=rightV x.val os.length):=E
       have an:Hid (rightV x.val os.length=false→(c.all fun b:Bn=>rightV b.val os.length)=false):=ah
       obtain ⟨nm,⟨k,m,s⟩⟩:=x;simp only at M O U e3 G aB an;obtain ⟨w5,ao,aC,aL,h5⟩:=yE wr (.cells #[.string (za nm),.int .i64 k,.int .i64 m,.string (za s)] 58);have aG:Hid (w5=wr.alloc (.cells #[.string (za nm),.int .i64 k,.int .i64 m,.string (za s)] 58)):=ao;have K:Hid (Below w.heap.size w w5):=af.out.trans (aC.mono aN);have cs:=XK ⟨k,m,s⟩ w5 (HH.out.below K.out) G (HT.out.below K.out (Nat.le_refl _)).tabs;have aj:=uz (os:=os) (v:=⟨k,m,s⟩);obtain ⟨SB,au⟩:∃SB,SB=Za os ⟨k,m,s⟩:=⟨_,rfl⟩;rw [←au] at cs aj;have aw:Hid (SB=[]↔rightV ⟨k,m,s⟩ os.length=false):=aj;obtain ⟨g0,g1,g2,g3⟩:=ym h5;clear E ah hx ao aC B aj au G aL h5
       go_upto_region 10 with fail
       rw [←aG.out];clear M O U e3;go_wp2_with fail
       refine cs.mono ?_;clear cs g0 g1 g2 g3;rintro e w6 ⟨rfl,av⟩;have aD:Hid (Below w.heap.size w w6):=K.out.trans (av.mono K.out.size);clear av
       by_cases hs0:SB=[]
       ·have HF:Hid ((frames.all fun f:Fr=>f.vars.all fun b=>rightV b.val os.length)=false):=Y.out (an.out (aw.out.1 hs0))
        subst hs0;go_wp2_with fail
        go_ret
        rw [HR.out,HF.out];exact ⟨rfl,aD.out⟩
       ·have aa:Hid ((c.take (j+1)).all (fun b:Bn=>rightV b.val os.length)=true):=by
         show _=_
         rw [aB.out];cases hr:rightV ⟨k,m,s⟩ os.length with
         | true=>rfl
         | false=>exact absurd (aw.out.2 hr) hs0
        obtain ⟨c9,t9,rfl⟩:=List.exists_cons_of_ne_nil hs0;go_wp2
        refine ⟨⟨_,_,_,_,_,_,_,_,_,_,_,_,⟨j+1,by omega,?_,aa,aD.out⟩,rfl⟩,by simp [intOf];omega⟩
        go_num
      ·have aU:¬ (j:Int)<c.length:=by omega
       obtain rfl:j=c.length:=by omega
       rw [List.take_length] at ak;have aa:Hid ((frames.take (i+1)).all (fun f:Fr=>f.vars.all fun b=>rightV b.val os.length)=true):=by show _=_;rw [X.out,ak.out]
       go_wp2
       exact ⟨⟨i+1,by omega,by go_num,aa,af.out⟩,by simp [intOf];omega⟩
    ·have aE:¬ (i:Int)<frames.length:=by omega
     obtain rfl:i=frames.length:=by omega
     rw [List.take_length] at ae;go_wp2_with fail
     go_ret
     rw [HR.out,ae.out];exact ⟨rfl,HB.out⟩
end Go.Proofs.YtbjndgachcdbcaaGreatDoor
