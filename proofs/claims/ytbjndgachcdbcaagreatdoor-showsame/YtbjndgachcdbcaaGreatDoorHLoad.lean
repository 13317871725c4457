import Derived.Test.YtbjndgachcdbcaaGreatDoorHAddB
import Derived.Test.YtbjndgachcdbcaaGreatDoorMC11
import Derived.Test.YtbjndgachcdbcaaGreatDoorHSame
namespace Go.Proofs.YtbjndgachcdbcaaGreatDoor
open Go.RowKit Go.Shelf
set_option maxHeartbeats 16000000
set_option maxRecDepth 100000
def Vn (m:Int) (os:List Ob) (w:World) (e:Ending) (w':World):Prop :=
 Below w.heap.size w w'∧((e=.returned (.tuple #[.pointer none,.int .i64 2])∧∃o∈os,xb o (os.length:Int)=false) ∨
  (e=.returned (.tuple #[.pointer none,.int .i64 12])∧(∀o∈os,xb o (os.length:Int)=true)∧mostN m<os.length+(zq os).length) ∨
  ((∀o∈os,xb o (os.length:Int)=true)∧os.length+(zq os).length≤mostN m∧∃g vo vc,e=.returned (.tuple #[.pointer (some ⟨g,0,none⟩),.int .i64 0])∧zs (fun k=>w.heap.size≤k) w' (mostN m) os g vo vc))
theorem yq {os:List Ob} {i:Nat} (h:i<os.length):os.take (i+1)=os.take i++[os[i]]:=List.take_succ_eq_append_getElem h
theorem XY (T:Nat→Prop) (m:Int) (os:List Ob) (v:Value) (w:World) (hv:zD T w v os) (hs:∀o∈os,Ze o) (hk:∀o∈os,o.2.length≤1048576) (hl:os.length≤1048576) (ht:zJ w) :
  Calls Tryz.prog 11 #[.int .i64 m,v] w (Vn m os w):=by
 obtain ⟨b1,c1,rfl,p1,p2,V⟩:=hv.at
 have H1:Hid (∀i (hi:i<os.length),∃b o u,b1=some ⟨b,o,none⟩∧T b∧b<w.heap.size∧w.cell? ⟨b,o+i*2,none⟩=some (.string (za (os[i]).1))∧w.cell? ⟨b,o+i*2+1,none⟩=some u∧zk T w u (os[i]).2):=V;have HT:Hid (zJ w):=ht;have HS:Hid (∀o∈os,Ze o):=hs;have HK:Hid (∀o∈os,o.2.length≤1048576):=hk
 have ag:Hid (∀i,i≤os.length→(zq (os.take i)).length≤i*1048576):=fun i hi=>by
  induction i with
  | zero=>simp [zq]
  | succ i ih =>
   rw [yq (by omega),Zr,List.length_append]
   have:=ih (by omega)
   have:=hk os[i] (List.getElem_mem (by omega))
   omega
 clear hv V hs hk ht
 go_enter Tryz.func11,Tryz.ntmps11
 go_wp2
 go_loopw [6,14] (fun vu vi wr=>∃i:Nat,i≤os.length∧vi=.int .i64 i∧vu=.int .i64 ((i+(zq (os.take i)).length:Nat):Int)∧(∀o∈os.take i,xb o (os.length:Int)=true)∧Below w.heap.size w wr) (fun _ vi _=>os.length-(intOf vi).toNat)
 case atStart=>exact ⟨0,Nat.zero_le _,rfl,by simp [zq],by simp,Below.refl _ _⟩
 case round =>
  obtain ⟨i,hi,rfl,rfl,z,ab⟩:=hrel;have HB:Hid (Below w.heap.size w wr):=ab;have al:=ab.size;have W:Hid (∀o∈os.take i,xb o (os.length:Int)=true):=z;clear ab z
  by_cases hlt:i<os.length
  ·have ar:(i:Int)<os.length:=by omega
   obtain ⟨ba,oa,ua,rfl,-,H,q0,q1,y⟩:=H1.out i hlt;have F:=HS.out os[i] (List.getElem_mem hlt);have ah:=HK.out os[i] (List.getElem_mem hlt);obtain ⟨X,Z⟩:∃X,X=os[i]:=⟨_,rfl⟩;rw [←Z] at q0 y F ah;have HX:Hid (X=os[i]):=Z;obtain ⟨R,J,aa,z1,z2,-⟩:=y.at;subst aa;have t0:=(zb HB.out H).trans q0;have t1:=(zb HB.out H).trans q1;obtain ⟨w1,G⟩:∃w1,w1=wr.alloc (.cells #[.string (za X.1),.slice R X.2.length J] 49):=⟨_,rfl⟩;have E:Below w.heap.size w w1:=by rw [G];exact HB.out.alloc al _
   have aH:w1.heap.size=wr.heap.size+1:=by rw [G];simp
   have ad:w1.heap[wr.heap.size]?=some (.cells #[.string (za X.1),.slice R X.2.length J] 49 (0,0)):=by rw [G];exact World.alloc_heap_new _ _
   obtain ⟨r0,r1,-⟩:=yM ad;have cm:=VG T X (.slice R X.2.length J) (os.length:Int) w1 (y.kept E.size fun k _ hk=>E.block k hk) F ah (HT.out.below E (Nat.le_refl _))
   have aF:=G.symm;have O:Hid (Below w.heap.size w w1):=E;have ak:Hid (w1.heap[wr.heap.size]?=some (.cells #[.string (za X.1),.slice R X.2.length J] 49 (0,0))):=ad;have aI:=ag.out i hi;clear E ad q0 q1 y Z G;go_wp2_with fail
   refine cm.mono ?_;clear cm r0 r1 t0 t1;cases hob:xb X (os.length:Int) with
   | false =>
    rintro e w2 ⟨rfl,c⟩;have D:Hid (Below w.heap.size w w2):=O.out.trans (c.mono O.out.size);clear c;go_wp2
    exact bodyPost_ret (v:=.tuple #[.pointer none,.int .i64 2]) (by simp [results,Tryz.results11,go_sem]) rfl ⟨D.out,.inl ⟨rfl,X,by rw [HX.out];exact List.getElem_mem hlt,hob⟩⟩
   | true =>
    rintro e w2 ⟨rfl,c⟩;have D:Hid (Below w.heap.size w w2):=O.out.trans (c.mono O.out.size);obtain ⟨s0,s1,-⟩:=yM ((c.block wr.heap.size (by omega)).trans ak.out)
    have ao:=uj (za X.1) R X.2.length J (by omega) w2
    clear c;go_wp2_with fail
    refine ao.mono ?_;clear ao;rintro e w3 ⟨rfl,B⟩;have I:Hid (Below w.heap.size w w3):=D.out.trans (B.mono D.out.size);clear B;go_wp2
    refine ⟨⟨i+1,by omega,by go_num,?_,?_,I.out⟩,by simp [intOf];omega⟩
    ·rw [yq hlt,Zr,List.length_append,←HX.out]
     go_num
    ·rw [yq hlt,←HX.out]
     intro o ho;rcases List.mem_append.1 ho with h9 | h9
     ·exact W.out o h9
     ·rw [List.mem_singleton] at h9;subst h9;exact hob
  ·obtain rfl:i=os.length:=by omega
   have ar:¬ (os.length:Int)<os.length:=by omega
   have z:∀o∈os,xb o (os.length:Int)=true:=by have:=W.out;rwa [List.take_of_length_le (Nat.le_refl _)] at this
   rw [List.take_of_length_le (Nat.le_refl os.length)];have cn:=Vh m wr;have A:Hid (∀o∈os,xb o (os.length:Int)=true):=z;clear z;go_wp2_with fail
   refine cn.mono ?_;clear cn;rintro e w2 ⟨rfl,H2,c⟩;have aG:=c.size;have D:Hid (Below w.heap.size w w2):=HB.out.trans (c.mono al);obtain ⟨-,d1,-,-,-⟩:=Zy H2.blk;have aA:=XD m;obtain ⟨M,hM⟩:∃M,M=mostN m:=⟨_,rfl⟩;have HM:Hid (M=mostN m):=hM;rw [←hM] at d1 H2 aA;obtain ⟨g,hg⟩:∃g,g=wr.heap.size:=⟨_,rfl⟩;rw [←hg] at d1 H2 ⊢;have HG:Hid (w.heap.size≤g):=by show _≤_;omega
   have ax:Hid (yT (fun k=>w.heap.size≤k) w2 M [] g (.slice none 0 0) (.slice none 0 0)):=H2.bare.wide fun k _ h=>by omega
   have aq:=ag.out os.length (Nat.le_refl _);rw [List.take_of_length_le (Nat.le_refl _)] at aq;clear hM hg H2 c
   by_cases hfit:M<os.length+(zq os).length
   ·have av:(M:Int)<((os.length+(zq os).length:Nat):Int):=by omega
    have an:(M:Int)<(os.length:Int)+((zq os).length:Int):=by omega
    go_wp2
    exact bodyPost_ret (v:=.tuple #[.pointer none,.int .i64 12]) (by simp [results,Tryz.results11,go_sem]) rfl ⟨D.out,.inr (.inl ⟨rfl,A.out,by rw [←HM.out];exact hfit⟩)⟩
   ·have av:¬ (M:Int)<((os.length+(zq os).length:Nat):Int):=by omega
    have an:¬ (M:Int)<(os.length:Int)+((zq os).length:Int):=by omega
    go_wp2
    clear d1
    go_loopw [38] (fun vi wx=>∃j:Nat,j≤os.length∧vi=.int .i64 j∧(∃vo vc,yT (fun k=>w.heap.size≤k) wx M (os.take j) g vo vc)∧Below w.heap.size w wx) (fun vi _=>os.length-(intOf vi).toNat)
    case atStart=>exact ⟨0,Nat.zero_le _,rfl,⟨_,_,ax.out⟩,D.out⟩
    case round =>
     obtain ⟨j,hj,rfl,⟨vo,vc,hp⟩,Y⟩:=hrel;have HP:Hid (yT (fun k=>w.heap.size≤k) wr M (os.take j) g vo vc):=hp
     have U:Hid (Below w.heap.size w wr):=Y;have ay:=Y.size;clear hp Y
     by_cases hjt:j<os.length
     ·have aB:(j:Int)<os.length:=by omega
      obtain ⟨ba,oa,ua,rfl,-,H,q0,q1,y⟩:=H1.out j hjt;have F:=HS.out os[j] (List.getElem_mem hjt);have hcut:=(ZX os j hjt).1
      unfold fromO at hcut
      obtain ⟨X,Z⟩:∃X,X=os[j]:=⟨_,rfl⟩;rw [←Z] at q0 y F hcut;have HX:Hid (X=os[j]):=Z;obtain ⟨R,J,aa,z1,z2,-⟩:=y.at;subst aa;have t0:=(zb U.out H).trans q0;have t1:=(zb U.out H).trans q1;obtain ⟨w3,K⟩:∃w3,w3=wr.alloc (.cells #[.string (za X.1),.slice R X.2.length J] 49):=⟨_,rfl⟩;have ae:Below wr.heap.size wr w3:=by rw [K];exact (Below.refl _ _).alloc (Nat.le_refl _) _
      have B:Below w.heap.size w w3:=U.out.trans (ae.mono ay);have ai:w3.heap[wr.heap.size]?=some (.cells #[.string (za X.1),.slice R X.2.length J] 49 (0,0)):=by rw [K];exact World.alloc_heap_new _ _
      obtain ⟨r0,r1,-⟩:=yM ai;have af:(os.take j).length=j:=by rw [List.length_take];omega
      have aj:=uD (fun k=>w.heap.size≤k) T M (os.take j) g vo vc X (.slice R X.2.length J) w3 (HP.out.below ae) (y.kept B.size fun k _ hk=>B.block k hk) F (by rw [af];omega)
      have aE:=K.symm;have I:Hid (Below w.heap.size w w3):=B;clear ae B ai q0 q1 y Z K af hcut;go_wp2_with fail
      refine aj.mono ?_;clear aj r0 r1 t0 t1;rintro e w4 ⟨rfl,ap,az,aw,am⟩;have au:Hid (Below w.heap.size w w4):=I.out.trans (ap.below I.out.size (fun q hq=>hq))
      have aC:Hid (yT (fun k=>w.heap.size≤k) w4 M (os.take (j+1)) g az aw):=by
       show yT _ _ _ _ _ _ _
       rw [yq hjt,←HX.out];exact am.wide fun k _ h=>by have:=I.out.size;omega
      clear ap am;go_wp2
      exact ⟨⟨j+1,by omega,by go_num,⟨_,_,aC.out⟩,au.out⟩,by simp [intOf];omega⟩
     ·obtain rfl:j=os.length:=by omega
      have aB:¬ (os.length:Int)<os.length:=by omega
      have aD:Hid (yT (fun k=>w.heap.size≤k) wr M os g vo vc):=by
       have:=HP.out
       rw [List.take_of_length_le (Nat.le_refl _)] at this;exact this
      clear HP;go_wp2
      refine bodyPost_ret (v:=.tuple #[.pointer (some ⟨g,0,none⟩),.int .i64 0]) (by simp [results,Tryz.results11,go_sem]) rfl ⟨U.out,.inr (.inr ⟨A.out,by rw [←HM.out];omega,g,vo,vc,rfl,?_⟩)⟩
      rw [←HM.out];exact aD.out.full fun o ho=>⟨A.out o ho,HS.out o ho⟩
end Go.Proofs.YtbjndgachcdbcaaGreatDoor
