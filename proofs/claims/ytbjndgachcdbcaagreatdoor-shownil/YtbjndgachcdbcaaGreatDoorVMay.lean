import Derived.Test.YtbjndgachcdbcaaGreatDoorVPlace
import Derived.Deep.DeepCutAuto
namespace Go.Proofs.YtbjndgachcdbcaaGreatDoor
open Go.RowKit Go.Shelf
set_option maxHeartbeats 16000000
set_option maxRecDepth 100000
def Xa (k:Nat) (status fault:Int) (frames:List Fr):Bool :=
 decide (0≤status∧status≤2)&&(decide (zN fault≠[])==decide (status=2))&&frames.all fun f=>f.vars.all fun b=>zb b.val k
theorem Xb {α:Type} (p:α→Bool) (l:List α) {i:Nat} (h:i<l.length):(l.take (i+1)).all p=((l.take i).all p&&p l[i]):=by
 have e:l.take i++[l[i]]=l.take (i+1):=List.take_append_getElem h;rw [←e,List.all_append];simp
theorem XY {α:Type} (p:α→Bool) (l:List α) {i:Nat} (h:i<l.length) (hp:p l[i]=false):l.all p=false:=by
 rw [List.all_eq_false];exact ⟨l[i],List.getElem_mem h,by simp [hp]⟩
theorem Xc {S T:Nat→Prop} {most:Nat} {os:List Ob} {h:Nat} {vo vc:Value} (vf:Value) (pos status fault:Int) (out:List UInt8) (frames:List Fr) (w:World) (H:zA S w most os h vo vc) (hu:xU T w vf frames)
  (hsm:∀f∈frames,yC f) (hnf:frames.length≤1048576) (ht:Yc w) :
  Calls Tryz.prog 23 #[uD vf pos status fault out,.pointer (some ⟨h,0,none⟩)] w fun e w'=>e=.returned (.bool (Xa os.length status fault frames))∧Below w.heap.size w w':=by
 obtain ⟨base,aw,rfl,aM,aF,aq⟩:=hu.at
 have aK:Hid (∀i (hi:i<frames.length),∃b o,base=some ⟨b,o,none⟩∧T b∧b<w.heap.size∧ux T w b (o+i*3) frames[i]):=aq
 have aV:Hid (∀f∈frames,yC f):=hsm;have HH:Hid (zA S w most os h vo vc):=H;have HT:Hid (Yc w):=ht;obtain ⟨w1,ay,ah,aO,h0⟩:=Z5 w (.cells #[.int .i64 pos,.int .i64 status,.int .i64 fault,.slice base frames.length aw,.string (za out)] 29);have aT:Hid (w1=w.alloc (.cells #[.int .i64 pos,.int .i64 status,.int .i64 fault,.slice base frames.length aw,.string (za out)] 29)):=ay;have ab:Hid (Below w.heap.size w w1):=ah;have cf:=Z3 fault w1 (ht.below ah (Nat.le_refl _));obtain ⟨p0,p1,p2,p3,p4⟩:=zU h0;obtain ⟨F,hF⟩:∃F,F=zN fault:=⟨_,rfl⟩;obtain ⟨fb,aj⟩:∃fb:Bool,fb=!F.isEmpty:=⟨_,rfl⟩;have X:decide (F≠[])=fb:=by rw [aj];cases F <;> rfl
 have HR:Hid (Xa os.length status fault frames=(decide (0≤status∧status≤2)&&(fb==decide (status=2))&&frames.all fun f=>f.vars.all fun b=>zb b.val os.length)):=by rw [←X,hF];rfl
 obtain ⟨R,hR⟩:∃R,R=Xa os.length status fault frames:=⟨_,rfl⟩;rw [←hR] at HR ⊢;rw [←hF] at cf;clear ay ah aq hu hsm aM aF H ht aO hR hF h0 X
 go_enter Tryz.func23,Tryz.ntmps23
 go_wp2_with fail
 rw [←aT.out];refine cf.mono ?_;clear cf;rintro e w2 ⟨rfl,rfl⟩
 go_upto_region 2 with fail
 rw [←aj];clear aj;obtain ⟨A,hA⟩:∃A:Bool,A=(decide (0≤status∧status≤2)&&(fb==decide (status=2))):=⟨_,rfl⟩;rw [←hA] at HR;have HA:Hid (A=(decide (0≤status∧status≤2)&&(fb==decide (status=2)))):=hA;clear hA
 go_cut [28] (fun t wx=>t=.bool (!A)∧wx=w1)
 case first =>
  by_cases s0:status<0
  ·have hf:A=false:=by rw [HA.out,decide_eq_false (by omega)];rfl
   subst hf;go_wp2_with fail
   go_meet
   exact ⟨rfl,rfl⟩
  ·by_cases s1:2<status
   ·have hf:A=false:=by rw [HA.out,decide_eq_false (by omega)];rfl
    subst hf;go_wp2_with fail
    go_meet
    exact ⟨rfl,rfl⟩
   ·have M:A=(fb==decide (status=2)):=by rw [HA.out,decide_eq_true (by omega),Bool.true_and]
    by_cases s2:status=2
    ·subst s2
     have ag:Hid (A=fb):=by show _=_;rw [M];cases fb <;> rfl
     clear M
     cases fb <;>
     ·go_wp2_with fail
      go_meet
      rw [ag.out];exact ⟨rfl,rfl⟩
    ·have q2:(status==2)=false:=by rw [beq_eq_false_iff_ne];exact s2
     have ag:Hid (A=!fb):=by show _=_;rw [M,decide_eq_false s2];cases fb <;> rfl
     clear M
     cases fb <;>
     ·go_wp2_with fail
      go_meet
      rw [ag.out];exact ⟨rfl,rfl⟩
 case rest =>
  obtain ⟨rfl,rfl⟩:=hcut;cases A with
  | false =>
   clear p0 p1 p2 p3 p4;rw [Bool.false_and] at HR;go_wp2_with fail
   go_ret
   rw [HR.out];exact ⟨rfl,ab.out⟩
  | true =>
   rw [Bool.true_and] at HR;have aW:=ab.out.size
   go_upto_region 5 with fail
   clear p0 p1 p2 p3 p4
   go_loopw [32] (fun vi wr=>∃i:Nat,i≤frames.length∧vi=.int .i64 (i:Int)∧Hid ((frames.take i).all (fun f=>f.vars.all fun b=>zb b.val os.length)=true)∧Below w.heap.size w wr) (fun vi _=>frames.length-(intOf vi).toNat)
   case atStart=>exact ⟨0,Nat.zero_le _,rfl,by show _=_;simp,ab.out⟩
   case round =>
    obtain ⟨i,hi,rfl,aa,y⟩:=hrel;have HB:Hid (Below w.heap.size w wr):=y;have aI:=y.size;clear y
    by_cases hlt:i<frames.length
    ·have aG:(i:Int)<frames.length:=by omega
     obtain ⟨b,o,rfl,-,aN,G,K,u,D,an⟩:=aK.out i hlt;obtain ⟨bv,cv,rfl,Y,-,z⟩:=an.at;have B:∀q,wr.cell? ⟨b,q,none⟩=w.cell? ⟨b,q,none⟩:=fun q=>zh HB.out aN
     rw [←B] at G K D;have E:=aV.out _ (List.getElem_mem hlt);have U:=Xb (fun f:Fr=>f.vars.all fun b=>zb b.val os.length) frames hlt
     have af:=XY (fun f:Fr=>f.vars.all fun b=>zb b.val os.length) frames hlt
     obtain ⟨f,hf⟩:∃f,f=frames[i]:=⟨_,rfl⟩;rw [←hf] at G K E;simp only [←hf] at D Y z U af;rw [aa.out,Bool.true_and] at U;have V:Hid ((frames.take (i+1)).all (fun f:Fr=>f.vars.all fun b=>zb b.val os.length)=f.vars.all fun b=>zb b.val os.length):=U
     have W:Hid ((f.vars.all fun b=>zb b.val os.length)=false→(frames.all fun f:Fr=>f.vars.all fun b=>zb b.val os.length)=false):=af
     obtain ⟨fn,Z,c⟩:=f;simp only at G K D Y z V W;have aQ:=E.nvars;simp only at aQ;have aU:Hid (∀b∈c,b.name.length≤1048576∧zw b.val):=E.vars;have aB:Hid (∀i (hi:i<c.length),∃b o,bv=some ⟨b,o,none⟩∧T b∧b<w.heap.size∧ul w b (o+i*4) c[i]):=z;obtain ⟨w3,aA,au,aL,h3⟩:=Z5 wr (.cells #[.string (za fn),.int .i64 Z,.slice bv c.length cv] 52);have aP:Hid (w3=wr.alloc (.cells #[.string (za fn),.int .i64 Z,.slice bv c.length cv] 52)):=aA;have aH:Hid (Below w.heap.size w w3):=HB.out.trans (au.mono aI);obtain ⟨g0,g1,g2⟩:=Zg h3;clear U af E an z hf aA au h3 aL B
     go_upto_region 7 with fail
     rw [←aP.out];clear G K D
     go_upto_region 8 with fail
     clear g0 g1 g2
     go_loopw [39] (fun vj wr=>∃j:Nat,j≤c.length∧vj=.int .i64 (j:Int)∧Hid ((c.take j).all (fun b=>zb b.val os.length)=true)∧Below w.heap.size w wr) (fun vj _=>c.length-(intOf vj).toNat)
     case atStart=>exact ⟨0,Nat.zero_le _,rfl,by show _=_;simp,aH.out⟩
     case round =>
      obtain ⟨j,hj,rfl,ad,y⟩:=hrel;have ak:Hid (Below w.heap.size w wr):=y;have aS:=y.size;clear y
      by_cases hjl:j<c.length
      ·have aE:(j:Int)<c.length:=by omega
       obtain ⟨b5,o5,rfl,-,aC,G,K,D,e3⟩:=aB.out j hjl;have B:∀q,wr.cell? ⟨b5,q,none⟩=w.cell? ⟨b5,q,none⟩:=fun q=>zh ak.out aC
       rw [←B] at G K D e3;have O:=(aU.out _ (List.getElem_mem hjl)).2;have J:=Xb (fun b:Bn=>zb b.val os.length) c hjl
       have ae:=XY (fun b:Bn=>zb b.val os.length) c hjl
       obtain ⟨x,hx⟩:∃x,x=c[j]:=⟨_,rfl⟩;simp only [←hx] at G K D e3 O J ae;rw [ad.out,Bool.true_and] at J;have az:Hid ((c.take (j+1)).all (fun b:Bn=>zb b.val os.length)=zb x.val os.length):=J
       have ax:Hid (zb x.val os.length=false→(c.all fun b:Bn=>zb b.val os.length)=false):=ae
       obtain ⟨nm,⟨k,m,s⟩⟩:=x;simp only at G K D e3 O az ax;obtain ⟨w5,am,ar,aJ,h5⟩:=Z5 wr (.cells #[.string (za nm),.int .i64 k,.int .i64 m,.string (za s)] 58);have aR:Hid (w5=wr.alloc (.cells #[.string (za nm),.int .i64 k,.int .i64 m,.string (za s)] 58)):=am;have I:Hid (Below w.heap.size w w5):=ak.out.trans (ar.mono aS);have cs:=xR ⟨k,m,s⟩ w5 (HH.out.below I.out) O (HT.out.below I.out (Nat.le_refl _)).tabs;have ai:=Vi (os:=os) (v:=⟨k,m,s⟩);obtain ⟨SB,ap⟩:∃SB,SB=Ze os ⟨k,m,s⟩:=⟨_,rfl⟩;rw [←ap] at cs ai;have av:Hid (SB=[]↔zb ⟨k,m,s⟩ os.length=false):=ai;obtain ⟨g0,g1,g2,g3⟩:=Z0 h5;clear J ae hx am ar B ai ap O aJ h5
       go_upto_region 10 with fail
       rw [←aR.out];clear G K D e3;go_wp2_with fail
       refine cs.mono ?_;clear cs g0 g1 g2 g3;rintro e w6 ⟨rfl,aD⟩;have ao:Hid (Below w.heap.size w w6):=I.out.trans (aD.mono I.out.size);clear aD
       by_cases hs0:SB=[]
       ·have HF:Hid ((frames.all fun f:Fr=>f.vars.all fun b=>zb b.val os.length)=false):=W.out (ax.out (av.out.1 hs0))
        subst hs0;go_wp2_with fail
        go_ret
        rw [HR.out,HF.out];exact ⟨rfl,ao.out⟩
       ·have al:Hid ((c.take (j+1)).all (fun b:Bn=>zb b.val os.length)=true):=by
         show _=_
         rw [az.out];cases hr:zb ⟨k,m,s⟩ os.length with
         | true=>rfl
         | false=>exact absurd (av.out.2 hr) hs0
        obtain ⟨c9,t9,rfl⟩:=List.exists_cons_of_ne_nil hs0;go_wp2
        refine ⟨⟨_,_,_,_,_,_,_,_,_,_,_,_,⟨j+1,by omega,?_,al,ao.out⟩,rfl⟩,by simp [intOf];omega⟩
        go_num
      ·have aE:¬ (j:Int)<c.length:=by omega
       obtain rfl:j=c.length:=by omega
       rw [List.take_length] at ad;have al:Hid ((frames.take (i+1)).all (fun f:Fr=>f.vars.all fun b=>zb b.val os.length)=true):=by show _=_;rw [V.out,ad.out]
       go_wp2
       exact ⟨⟨i+1,by omega,by go_num,al,ak.out⟩,by simp [intOf];omega⟩
    ·have aG:¬ (i:Int)<frames.length:=by omega
     obtain rfl:i=frames.length:=by omega
     rw [List.take_length] at aa;go_wp2_with fail
     go_ret
     rw [HR.out,aa.out];exact ⟨rfl,HB.out⟩
end Go.Proofs.YtbjndgachcdbcaaGreatDoor
