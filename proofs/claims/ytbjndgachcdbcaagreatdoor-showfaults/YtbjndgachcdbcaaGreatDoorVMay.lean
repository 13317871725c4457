import Derived.Test.YtbjndgachcdbcaaGreatDoorVPlace
import Derived.Deep.DeepCutAuto
namespace Go.Proofs.YtbjndgachcdbcaaGreatDoor
open Go.RowKit Go.Shelf
set_option maxHeartbeats 16000000
set_option maxRecDepth 100000
def xM (k:Nat) (status fault:Int) (frames:List Fr):Bool :=
 decide (0≤status∧status≤2)&&(decide (zw fault≠[])==decide (status=2))&&frames.all fun f=>f.vars.all fun b=>zb b.val k
theorem xN {α:Type} (p:α→Bool) (l:List α) {i:Nat} (h:i<l.length):(l.take (i+1)).all p=((l.take i).all p&&p l[i]):=by
 have e:l.take i++[l[i]]=l.take (i+1):=List.take_append_getElem h;rw [←e,List.all_append];simp
theorem XE {α:Type} (p:α→Bool) (l:List α) {i:Nat} (h:i<l.length) (hp:p l[i]=false):l.all p=false:=by
 rw [List.all_eq_false];exact ⟨l[i],List.getElem_mem h,by simp [hp]⟩
theorem xO {S T:Nat→Prop} {most:Nat} {os:List Ob} {h:Nat} {vo vc:Value} (vf:Value) (pos status fault:Int) (out:List UInt8) (frames:List Fr) (w:World) (H:zA S w most os h vo vc) (hu:xG T w vf frames)
  (hsm:∀f∈frames,yy f) (hnf:frames.length≤1048576) (ht:yW w) :
  Calls Tryz.prog 23 #[VZ vf pos status fault out,.pointer (some ⟨h,0,none⟩)] w fun e w'=>e=.returned (.bool (xM os.length status fault frames))∧Below w.heap.size w w':=by
 obtain ⟨base,an,rfl,aR,aS,ay⟩:=hu.at
 have aJ:Hid (∀i (hi:i<frames.length),∃b o,base=some ⟨b,o,none⟩∧T b∧b<w.heap.size∧VR T w b (o+i*3) frames[i]):=ay
 have aO:Hid (∀f∈frames,yy f):=hsm;have HH:Hid (zA S w most os h vo vc):=H;have HT:Hid (yW w):=ht;obtain ⟨w1,ar,ak,aF,h0⟩:=yl w (.cells #[.int .i64 pos,.int .i64 status,.int .i64 fault,.slice base frames.length an,.string (za out)] 29);have aL:Hid (w1=w.alloc (.cells #[.int .i64 pos,.int .i64 status,.int .i64 fault,.slice base frames.length an,.string (za out)] 29)):=ar;have aj:Hid (Below w.heap.size w w1):=ak;have cf:=ZI fault w1 (ht.below ak (Nat.le_refl _));obtain ⟨p0,p1,p2,p3,p4⟩:=zU h0;obtain ⟨F,hF⟩:∃F,F=zw fault:=⟨_,rfl⟩;obtain ⟨fb,al⟩:∃fb:Bool,fb=!F.isEmpty:=⟨_,rfl⟩;have Y:decide (F≠[])=fb:=by rw [al];cases F <;> rfl
 have HR:Hid (xM os.length status fault frames=(decide (0≤status∧status≤2)&&(fb==decide (status=2))&&frames.all fun f=>f.vars.all fun b=>zb b.val os.length)):=by rw [←Y,hF];rfl
 obtain ⟨R,hR⟩:∃R,R=xM os.length status fault frames:=⟨_,rfl⟩;rw [←hR] at HR ⊢;rw [←hF] at cf;clear ar ak ay hu hsm aR aS H ht aF hR hF h0 Y
 go_enter Tryz.func23,Tryz.ntmps23
 go_wp2_with fail
 rw [←aL.out];refine cf.mono ?_;clear cf;rintro e w2 ⟨rfl,rfl⟩
 go_upto_region 2 with fail
 rw [←al];clear al;obtain ⟨A,hA⟩:∃A:Bool,A=(decide (0≤status∧status≤2)&&(fb==decide (status=2))):=⟨_,rfl⟩;rw [←hA] at HR;have HA:Hid (A=(decide (0≤status∧status≤2)&&(fb==decide (status=2)))):=hA;clear hA
 go_cut [28] (fun t wx=>t=.bool (!A)∧wx=w1)
 case first =>
  by_cases s0:status<0
  ·have hf:A=false:=by rw [HA.out,decide_eq_false (by omega)];rfl
   subst hf;go_wp2_with fail
   go_meet
   exact ⟨rfl,rfl⟩
  ·by_cases s1:2<status
   ·have hf:A=false:=by rw [HA.out,decide_eq_false (by omega)];rfl
    subst hf;go_wp2_with fail
    go_meet
    exact ⟨rfl,rfl⟩
   ·have U:A=(fb==decide (status=2)):=by rw [HA.out,decide_eq_true (by omega),Bool.true_and]
    by_cases s2:status=2
    ·subst s2
     have ab:Hid (A=fb):=by show _=_;rw [U];cases fb <;> rfl
     clear U
     cases fb <;>
     ·go_wp2_with fail
      go_meet
      rw [ab.out];exact ⟨rfl,rfl⟩
    ·have q2:(status==2)=false:=by rw [beq_eq_false_iff_ne];exact s2
     have ab:Hid (A=!fb):=by show _=_;rw [U,decide_eq_false s2];cases fb <;> rfl
     clear U
     cases fb <;>
     ·go_wp2_with fail
      go_meet
      rw [ab.out];exact ⟨rfl,rfl⟩
 case rest =>
  obtain ⟨rfl,rfl⟩:=hcut;cases A with
  | false =>
   clear p0 p1 p2 p3 p4;rw [Bool.false_and] at HR;go_wp2_with fail
   go_ret
   rw [HR.out];exact ⟨rfl,aj.out⟩
  | true =>
   rw [Bool.true_and] at HR;have aW:=aj.out.size
   go_upto_region 5 with fail
   clear p0 p1 p2 p3 p4
   go_loopw [32] (fun vi wr=>∃i:Nat,i≤frames.length∧vi=.int .i64 (i:Int)∧Hid ((frames.take i).all (fun f=>f.vars.all fun b=>zb b.val os.length)=true)∧Below w.heap.size w wr) (fun vi _=>frames.length-(intOf vi).toNat)
   case atStart=>exact ⟨0,Nat.zero_le _,rfl,by show _=_;simp,aj.out⟩
   case round =>
    obtain ⟨i,hi,rfl,aa,y⟩:=hrel;have HB:Hid (Below w.heap.size w wr):=y;have aE:=y.size;clear y
    by_cases hlt:i<frames.length
    ·have aM:(i:Int)<frames.length:=by omega
     obtain ⟨b,o,rfl,-,aU,J,E,u,M,az⟩:=aJ.out i hlt;obtain ⟨bv,cv,rfl,X,-,z⟩:=az.at;have B:∀q,wr.cell? ⟨b,q,none⟩=w.cell? ⟨b,q,none⟩:=fun q=>zh HB.out aU
     rw [←B] at J E M;have O:=aO.out _ (List.getElem_mem hlt);have D:=xN (fun f:Fr=>f.vars.all fun b=>zb b.val os.length) frames hlt
     have ah:=XE (fun f:Fr=>f.vars.all fun b=>zb b.val os.length) frames hlt
     obtain ⟨f,hf⟩:∃f,f=frames[i]:=⟨_,rfl⟩;rw [←hf] at J E O;simp only [←hf] at M X z D ah;rw [aa.out,Bool.true_and] at D;have Z:Hid ((frames.take (i+1)).all (fun f:Fr=>f.vars.all fun b=>zb b.val os.length)=f.vars.all fun b=>zb b.val os.length):=D
     have V:Hid ((f.vars.all fun b=>zb b.val os.length)=false→(frames.all fun f:Fr=>f.vars.all fun b=>zb b.val os.length)=false):=ah
     obtain ⟨fn,W,c⟩:=f;simp only at J E M X z Z V;have aG:=O.nvars;simp only at aG;have aT:Hid (∀b∈c,b.name.length≤1048576∧zv b.val):=O.vars;have am:Hid (∀i (hi:i<c.length),∃b o,bv=some ⟨b,o,none⟩∧T b∧b<w.heap.size∧VI w b (o+i*4) c[i]):=z;obtain ⟨w3,aq,aA,aI,h3⟩:=yl wr (.cells #[.string (za fn),.int .i64 W,.slice bv c.length cv] 52);have aQ:Hid (w3=wr.alloc (.cells #[.string (za fn),.int .i64 W,.slice bv c.length cv] 52)):=aq;have aK:Hid (Below w.heap.size w w3):=HB.out.trans (aA.mono aE);obtain ⟨g0,g1,g2⟩:=Zf h3;clear D ah O az z hf aq aA h3 aI B
     go_upto_region 7 with fail
     rw [←aQ.out];clear J E M
     go_upto_region 8 with fail
     clear g0 g1 g2
     go_loopw [39] (fun vj wr=>∃j:Nat,j≤c.length∧vj=.int .i64 (j:Int)∧Hid ((c.take j).all (fun b=>zb b.val os.length)=true)∧Below w.heap.size w wr) (fun vj _=>c.length-(intOf vj).toNat)
     case atStart=>exact ⟨0,Nat.zero_le _,rfl,by show _=_;simp,aK.out⟩
     case round =>
      obtain ⟨j,hj,rfl,ad,y⟩:=hrel;have ai:Hid (Below w.heap.size w wr):=y;have aV:=y.size;clear y
      by_cases hjl:j<c.length
      ·have aP:(j:Int)<c.length:=by omega
       obtain ⟨b5,o5,rfl,-,ax,J,E,M,e3⟩:=am.out j hjl;have B:∀q,wr.cell? ⟨b5,q,none⟩=w.cell? ⟨b5,q,none⟩:=fun q=>zh ai.out ax
       rw [←B] at J E M e3;have G:=(aT.out _ (List.getElem_mem hjl)).2;have I:=xN (fun b:Bn=>zb b.val os.length) c hjl
       have ag:=XE (fun b:Bn=>zb b.val os.length) c hjl
       obtain ⟨x,hx⟩:∃x,x=c[j]:=⟨_,rfl⟩;simp only [←hx] at J E M e3 G I ag;rw [ad.out,Bool.true_and] at I;have ap:Hid ((c.take (j+1)).all (fun b:Bn=>zb b.val os.length)=zb x.val os.length):=I
       have aD:Hid (zb x.val os.length=false→(c.all fun b:Bn=>zb b.val os.length)=false):=ag
       obtain ⟨nm,⟨k,m,s⟩⟩:=x;simp only at J E M e3 G ap aD;obtain ⟨w5,aC,aw,aN,h5⟩:=yl wr (.cells #[.string (za nm),.int .i64 k,.int .i64 m,.string (za s)] 58);have aH:Hid (w5=wr.alloc (.cells #[.string (za nm),.int .i64 k,.int .i64 m,.string (za s)] 58)):=aC;have K:Hid (Below w.heap.size w w5):=ai.out.trans (aw.mono aV);have cs:=xD ⟨k,m,s⟩ w5 (HH.out.below K.out) G (HT.out.below K.out (Nat.le_refl _)).tabs;have ae:=vI (os:=os) (v:=⟨k,m,s⟩);obtain ⟨SB,au⟩:∃SB,SB=Zd os ⟨k,m,s⟩:=⟨_,rfl⟩;rw [←au] at cs ae;have ao:Hid (SB=[]↔zb ⟨k,m,s⟩ os.length=false):=ae;obtain ⟨g0,g1,g2,g3⟩:=ZZ h5;clear I ag hx aC aw B ae au G aN h5
       go_upto_region 10 with fail
       rw [←aH.out];clear J E M e3;go_wp2_with fail
       refine cs.mono ?_;clear cs g0 g1 g2 g3;rintro e w6 ⟨rfl,aB⟩;have av:Hid (Below w.heap.size w w6):=K.out.trans (aB.mono K.out.size);clear aB
       by_cases hs0:SB=[]
       ·have HF:Hid ((frames.all fun f:Fr=>f.vars.all fun b=>zb b.val os.length)=false):=V.out (aD.out (ao.out.1 hs0))
        subst hs0;go_wp2_with fail
        go_ret
        rw [HR.out,HF.out];exact ⟨rfl,av.out⟩
       ·have af:Hid ((c.take (j+1)).all (fun b:Bn=>zb b.val os.length)=true):=by
         show _=_
         rw [ap.out];cases hr:zb ⟨k,m,s⟩ os.length with
         | true=>rfl
         | false=>exact absurd (ao.out.2 hr) hs0
        obtain ⟨c9,t9,rfl⟩:=List.exists_cons_of_ne_nil hs0;go_wp2
        refine ⟨⟨_,_,_,_,_,_,_,_,_,_,_,_,⟨j+1,by omega,?_,af,av.out⟩,rfl⟩,by simp [intOf];omega⟩
        go_num
      ·have aP:¬ (j:Int)<c.length:=by omega
       obtain rfl:j=c.length:=by omega
       rw [List.take_length] at ad;have af:Hid ((frames.take (i+1)).all (fun f:Fr=>f.vars.all fun b=>zb b.val os.length)=true):=by show _=_;rw [Z.out,ad.out]
       go_wp2
       exact ⟨⟨i+1,by omega,by go_num,af,ai.out⟩,by simp [intOf];omega⟩
    ·have aM:¬ (i:Int)<frames.length:=by omega
     obtain rfl:i=frames.length:=by omega
     rw [List.take_length] at aa;go_wp2_with fail
     go_ret
     rw [HR.out,aa.out];exact ⟨rfl,HB.out⟩
end Go.Proofs.YtbjndgachcdbcaaGreatDoor
