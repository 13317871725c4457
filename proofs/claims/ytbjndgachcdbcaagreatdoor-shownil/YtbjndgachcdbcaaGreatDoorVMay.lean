import Derived.Test.YtbjndgachcdbcaaGreatDoorVPlace
import Derived.Deep.DeepCutAuto
namespace Go.Proofs.YtbjndgachcdbcaaGreatDoor
open Go.RowKit Go.Shelf
set_option maxHeartbeats 16000000
set_option maxRecDepth 100000
def Xa (k:Nat) (status fault:Int) (frames:List Fr):Bool :=
 decide (0≤status∧status≤2)&&(decide (zN fault≠[])==decide (status=2))&&frames.all fun f=>f.vars.all fun b=>zb b.val k
theorem Xb {α:Type} (p:α→Bool) (l:List α) {i:Nat} (h:i<l.length):(l.take (i+1)).all p=((l.take i).all p&&p l[i]):=by
 have e:l.take i++[l[i]]=l.take (i+1):=List.take_append_getElem h;rw [←e,List.all_append];simp
theorem XY {α:Type} (p:α→Bool) (l:List α) {i:Nat} (h:i<l.length) (hp:p l[i]=false):l.all p=false:=by
 rw [List.all_eq_false];exact ⟨l[i],List.getElem_mem h,by simp [hp]⟩
theorem Xc {S T:Nat→Prop} {most:Nat} {os:List Ob} {h:Nat} {vo vc:Value} (vf:Value) (pos status fault:Int) (out:List UInt8) (frames:List Fr) (w:World) (H:zA S w most os h vo vc) (hu:xU T w vf frames)
  (hsm:∀f∈frames,yC f) (hnf:frames.length≤1048576) (ht:Yc w) :
  Calls Tryz.prog 23 #[uD vf pos status fault out,.pointer (some ⟨h,0,none⟩)] w fun e w'=>e=.returned (.bool (Xa os.length status fault frames))∧Below w.heap.size w w':=by
 obtain ⟨base,aB,rfl,aI,aP,av⟩:=hu.at
 have aK:Hid (∀i (hi:i<frames.length),∃b o,base=some ⟨b,o,none⟩∧T b∧b<w.heap.size∧ux T w b (o+i*3) frames[i]):=av
 have aM:Hid (∀f∈frames,yC f):=hsm;have HH:Hid (zA S w most os h vo vc):=H;have HT:Hid (Yc w):=ht;obtain ⟨w1,aw,af,aJ,h0⟩:=Z5 w (.cells #[.int .i64 pos,.int .i64 status,.int .i64 fault,.slice base frames.length aB,.string (za out)] 29);have aO:Hid (w1=w.alloc (.cells #[.int .i64 pos,.int .i64 status,.int .i64 fault,.slice base frames.length aB,.string (za out)] 29)):=aw;have aa:Hid (Below w.heap.size w w1):=af;have cf:=Z3 fault w1 (ht.below af (Nat.le_refl _));obtain ⟨p0,p1,p2,p3,p4⟩:=zU h0;obtain ⟨F,hF⟩:∃F,F=zN fault:=⟨_,rfl⟩;obtain ⟨fb,al⟩:∃fb:Bool,fb=!F.isEmpty:=⟨_,rfl⟩;have Z:decide (F≠[])=fb:=by rw [al];cases F <;> rfl
 have HR:Hid (Xa os.length status fault frames=(decide (0≤status∧status≤2)&&(fb==decide (status=2))&&frames.all fun f=>f.vars.all fun b=>zb b.val os.length)):=by rw [←Z,hF];rfl
 obtain ⟨R,hR⟩:∃R,R=Xa os.length status fault frames:=⟨_,rfl⟩;rw [←hR] at HR ⊢;rw [←hF] at cf;clear aw af av hu hsm aI aP H ht aJ hR hF h0 Z
 go_enter Tryz.func23,Tryz.ntmps23
 go_wp2_with fail
 rw [←aO.out];refine cf.mono ?_;clear cf;rintro e w2 ⟨rfl,rfl⟩
 go_upto_region 2 with fail
 rw [←al];clear al;obtain ⟨A,hA⟩:∃A:Bool,A=(decide (0≤status∧status≤2)&&(fb==decide (status=2))):=⟨_,rfl⟩;rw [←hA] at HR;have HA:Hid (A=(decide (0≤status∧status≤2)&&(fb==decide (status=2)))):=hA;clear hA
 go_cut [28] (fun t wx=>t=.bool (!A)∧wx=w1)
 case first =>
  by_cases s0:status<0
  ·have hf:A=false:=by rw [HA.out,decide_eq_false (by omega)];rfl
   subst hf;go_wp2_with fail
   go_meet
   exact ⟨rfl,rfl⟩
  ·by_cases s1:2<status
   ·have hf:A=false:=by rw [HA.out,decide_eq_false (by omega)];rfl
    subst hf;go_wp2_with fail
    go_meet
    exact ⟨rfl,rfl⟩
   ·have O:A=(fb==decide (status=2)):=by rw [HA.out,decide_eq_true (by omega),Bool.true_and]
    by_cases s2:status=2
    ·subst s2
     have ag:Hid (A=fb):=by show _=_;rw [O];cases fb <;> rfl
     clear O
     cases fb <;>
     ·go_wp2_with fail
      go_meet
      rw [ag.out];exact ⟨rfl,rfl⟩
    ·have q2:(status==2)=false:=by rw [beq_eq_false_iff_ne];exact s2
     have ag:Hid (A=!fb):=by show _=_;rw [O,decide_eq_false s2];cases fb <;> rfl
     clear O
     cases fb <;>
     ·go_wp2_with fail
      go_meet
      rw [ag.out];exact ⟨rfl,rfl⟩
 case rest =>
  obtain ⟨rfl,rfl⟩:=hcut;cases A with
  | false =>
   clear p0 p1 p2 p3 p4;rw [Bool.false_and] at HR;go_wp2_with fail
   go_ret
   rw [HR.out];exact ⟨rfl,aa.out⟩
  | true =>
   rw [Bool.true_and] at HR;have aW:=aa.out.size
   go_upto_region 5 with fail
   clear p0 p1 p2 p3 p4
   go_loopw [32] (fun vi wr=>∃i:Nat,i≤frames.length∧vi=.int .i64 (i:Int)∧Hid ((frames.take i).all (fun f=>f.vars.all fun b=>zb b.val os.length)=true)∧Below w.heap.size w wr) (fun vi _=>frames.length-(intOf vi).toNat)
   case atStart=>exact ⟨0,Nat.zero_le _,rfl,by show _=_;simp,aa.out⟩
   case round =>
    obtain ⟨i,hi,rfl,ah,y⟩:=hrel;have HB:Hid (Below w.heap.size w wr):=y;have aN:=y.size;clear y
    by_cases hlt:i<frames.length
    ·have aE:(i:Int)<frames.length:=by omega
     obtain ⟨b,o,rfl,-,aT,E,J,u,M,aD⟩:=aK.out i hlt;obtain ⟨bv,cv,rfl,X,-,z⟩:=aD.at;have B:∀q,wr.cell? ⟨b,q,none⟩=w.cell? ⟨b,q,none⟩:=fun q=>zh HB.out aT
     rw [←B] at E J M;have D:=aM.out _ (List.getElem_mem hlt);have I:=Xb (fun f:Fr=>f.vars.all fun b=>zb b.val os.length) frames hlt
     have ai:=XY (fun f:Fr=>f.vars.all fun b=>zb b.val os.length) frames hlt
     obtain ⟨f,hf⟩:∃f,f=frames[i]:=⟨_,rfl⟩;rw [←hf] at E J D;simp only [←hf] at M X z I ai;rw [ah.out,Bool.true_and] at I;have V:Hid ((frames.take (i+1)).all (fun f:Fr=>f.vars.all fun b=>zb b.val os.length)=f.vars.all fun b=>zb b.val os.length):=I
     have W:Hid ((f.vars.all fun b=>zb b.val os.length)=false→(frames.all fun f:Fr=>f.vars.all fun b=>zb b.val os.length)=false):=ai
     obtain ⟨fn,Y,c⟩:=f;simp only at E J M X z V W;have aH:=D.nvars;simp only at aH;have aV:Hid (∀b∈c,b.name.length≤1048576∧zw b.val):=D.vars;have ap:Hid (∀i (hi:i<c.length),∃b o,bv=some ⟨b,o,none⟩∧T b∧b<w.heap.size∧ul w b (o+i*4) c[i]):=z;obtain ⟨w3,aC,az,aU,h3⟩:=Z5 wr (.cells #[.string (za fn),.int .i64 Y,.slice bv c.length cv] 52);have aF:Hid (w3=wr.alloc (.cells #[.string (za fn),.int .i64 Y,.slice bv c.length cv] 52)):=aC;have aQ:Hid (Below w.heap.size w w3):=HB.out.trans (az.mono aN);obtain ⟨g0,g1,g2⟩:=Zg h3;clear I ai D aD z hf aC az h3 aU B
     go_upto_region 7 with fail
     rw [←aF.out];clear E J M
     go_upto_region 8 with fail
     clear g0 g1 g2
     go_loopw [39] (fun vj wr=>∃j:Nat,j≤c.length∧vj=.int .i64 (j:Int)∧Hid ((c.take j).all (fun b=>zb b.val os.length)=true)∧Below w.heap.size w wr) (fun vj _=>c.length-(intOf vj).toNat)
     case atStart=>exact ⟨0,Nat.zero_le _,rfl,by show _=_;simp,aQ.out⟩
     case round =>
      obtain ⟨j,hj,rfl,aj,y⟩:=hrel;have ad:Hid (Below w.heap.size w wr):=y;have aL:=y.size;clear y
      by_cases hjl:j<c.length
      ·have aR:(j:Int)<c.length:=by omega
       obtain ⟨b5,o5,rfl,-,ao,E,J,M,e3⟩:=ap.out j hjl;have B:∀q,wr.cell? ⟨b5,q,none⟩=w.cell? ⟨b5,q,none⟩:=fun q=>zh ad.out ao
       rw [←B] at E J M e3;have K:=(aV.out _ (List.getElem_mem hjl)).2;have G:=Xb (fun b:Bn=>zb b.val os.length) c hjl
       have ae:=XY (fun b:Bn=>zb b.val os.length) c hjl
       obtain ⟨x,hx⟩:∃x,x=c[j]:=⟨_,rfl⟩;simp only [←hx] at E J M e3 K G ae;rw [aj.out,Bool.true_and] at G;have an:Hid ((c.take (j+1)).all (fun b:Bn=>zb b.val os.length)=zb x.val os.length):=G
       have ax:Hid (zb x.val os.length=false→(c.all fun b:Bn=>zb b.val os.length)=false):=ae
       obtain ⟨nm,⟨k,m,s⟩⟩:=x;simp only at E J M e3 K an ax;obtain ⟨w5,am,aq,aG,h5⟩:=Z5 wr (.cells #[.string (za nm),.int .i64 k,.int .i64 m,.string (za s)] 58);have aS:Hid (w5=wr.alloc (.cells #[.string (za nm),.int .i64 k,.int .i64 m,.string (za s)] 58)):=am;have U:Hid (Below w.heap.size w w5):=ad.out.trans (aq.mono aL);have cs:=xR ⟨k,m,s⟩ w5 (HH.out.below U.out) K (HT.out.below U.out (Nat.le_refl _)).tabs;have ab:=Vi (os:=os) (v:=⟨k,m,s⟩);obtain ⟨SB,aA⟩:∃SB,SB=Ze os ⟨k,m,s⟩:=⟨_,rfl⟩;rw [←aA] at cs ab;have au:Hid (SB=[]↔zb ⟨k,m,s⟩ os.length=false):=ab;obtain ⟨g0,g1,g2,g3⟩:=Z0 h5;clear G ae hx am aq B ab aA K aG h5
       go_upto_region 10 with fail
       rw [←aS.out];clear E J M e3;go_wp2_with fail
       refine cs.mono ?_;clear cs g0 g1 g2 g3;rintro e w6 ⟨rfl,ar⟩;have ay:Hid (Below w.heap.size w w6):=U.out.trans (ar.mono U.out.size);clear ar
       by_cases hs0:SB=[]
       ·have HF:Hid ((frames.all fun f:Fr=>f.vars.all fun b=>zb b.val os.length)=false):=W.out (ax.out (au.out.1 hs0))
        subst hs0;go_wp2_with fail
        go_ret
        rw [HR.out,HF.out];exact ⟨rfl,ay.out⟩
       ·have ak:Hid ((c.take (j+1)).all (fun b:Bn=>zb b.val os.length)=true):=by
         show _=_
         rw [an.out];cases hr:zb ⟨k,m,s⟩ os.length with
         | true=>rfl
         | false=>exact absurd (au.out.2 hr) hs0
        obtain ⟨c9,t9,rfl⟩:=List.exists_cons_of_ne_nil hs0;go_wp2
        refine ⟨⟨_,_,_,_,_,_,_,_,_,_,_,_,⟨j+1,by omega,?_,ak,ay.out⟩,rfl⟩,by simp [intOf];omega⟩
        go_num
      ·have aR:¬ (j:Int)<c.length:=by omega
       obtain rfl:j=c.length:=by omega
       rw [List.take_length] at aj;have ak:Hid ((frames.take (i+1)).all (fun f:Fr=>f.vars.all fun b=>zb b.val os.length)=true):=by show _=_;rw [V.out,aj.out]
       go_wp2
       exact ⟨⟨i+1,by omega,by go_num,ak,ad.out⟩,by simp [intOf];omega⟩
    ·have aE:¬ (i:Int)<frames.length:=by omega
     obtain rfl:i=frames.length:=by omega
     rw [List.take_length] at ah;go_wp2_with fail
     go_ret
     rw [HR.out,ah.out];exact ⟨rfl,HB.out⟩
end Go.Proofs.YtbjndgachcdbcaaGreatDoor
