import Derived.Test.YtbjndgachcdbcaaGreatDoorHAddB
import Derived.Test.YtbjndgachcdbcaaGreatDoorMC11
import Derived.Test.YtbjndgachcdbcaaGreatDoorHSame
namespace Go.Proofs.YtbjndgachcdbcaaGreatDoor
open Go.RowKit Go.Shelf
set_option maxHeartbeats 16000000
set_option maxRecDepth 100000
def V0 (m:Int) (os:List Ob) (w:World) (e:Ending) (w':World):Prop :=
 Below w.heap.size w w'∧((e=.returned (.tuple #[.pointer none,.int .i64 2])∧∃o∈os,XQ o (os.length:Int)=false) ∨
  (e=.returned (.tuple #[.pointer none,.int .i64 12])∧(∀o∈os,XQ o (os.length:Int)=true)∧mostN m<os.length+(zo os).length) ∨
  ((∀o∈os,XQ o (os.length:Int)=true)∧os.length+(zo os).length≤mostN m∧∃g vo vc,e=.returned (.tuple #[.pointer (some ⟨g,0,none⟩),.int .i64 0])∧zx (fun k=>w.heap.size≤k) w' (mostN m) os g vo vc))
theorem yh {os:List Ob} {i:Nat} (h:i<os.length):os.take (i+1)=os.take i++[os[i]]:=List.take_succ_eq_append_getElem h
theorem V1 (T:Nat→Prop) (m:Int) (os:List Ob) (v:Value) (w:World) (hv:Zc T w v os) (hs:∀o∈os,Zj o) (hk:∀o∈os,o.2.length≤1048576) (hl:os.length≤1048576) (ht:zF w) :
  Calls Tryz.prog 11 #[.int .i64 m,v] w (V0 m os w):=by
 obtain ⟨b1,c1,rfl,p1,p2,W⟩:=hv.at
 have H1:Hid (∀i (hi:i<os.length),∃b o u,b1=some ⟨b,o,none⟩∧T b∧b<w.heap.size∧w.cell? ⟨b,o+i*2,none⟩=some (.string (za (os[i]).1))∧w.cell? ⟨b,o+i*2+1,none⟩=some u∧zp T w u (os[i]).2):=W;have HT:Hid (zF w):=ht;have HS:Hid (∀o∈os,Zj o):=hs;have HK:Hid (∀o∈os,o.2.length≤1048576):=hk
 have af:Hid (∀i,i≤os.length→(zo (os.take i)).length≤i*1048576):=fun i hi=>by
  induction i with
  | zero=>simp [zo]
  | succ i ih =>
   rw [yh (by omega),Zs,List.length_append]
   have:=ih (by omega)
   have:=hk os[i] (List.getElem_mem (by omega))
   omega
 clear hv W hs hk ht
 go_enter Tryz.func11,Tryz.ntmps11
 go_wp2
 go_loopw [6,14] (fun vu vi wr=>∃i:Nat,i≤os.length∧vi=.int .i64 i∧vu=.int .i64 ((i+(zo (os.take i)).length:Nat):Int)∧(∀o∈os.take i,XQ o (os.length:Int)=true)∧Below w.heap.size w wr) (fun _ vi _=>os.length-(intOf vi).toNat)
 case atStart=>exact ⟨0,Nat.zero_le _,rfl,by simp [zo],by simp,Below.refl _ _⟩
 case round =>
  obtain ⟨i,hi,rfl,rfl,z,Y⟩:=hrel;have HB:Hid (Below w.heap.size w wr):=Y;have ag:=Y.size;have V:Hid (∀o∈os.take i,XQ o (os.length:Int)=true):=z;clear Y z
  by_cases hlt:i<os.length
  ·have aw:(i:Int)<os.length:=by omega
   obtain ⟨ba,oa,ua,rfl,-,E,q0,q1,y⟩:=H1.out i hlt;have F:=HS.out os[i] (List.getElem_mem hlt);have an:=HK.out os[i] (List.getElem_mem hlt);obtain ⟨X,hX⟩:∃X,X=os[i]:=⟨_,rfl⟩;rw [←hX] at q0 y F an;have HX:Hid (X=os[i]):=hX;obtain ⟨K,U,Z,z1,z2,-⟩:=y.at;subst Z;have t0:=(zb HB.out E).trans q0;have t1:=(zb HB.out E).trans q1;obtain ⟨w1,G⟩:∃w1,w1=wr.alloc (.cells #[.string (za X.1),.slice K X.2.length U] 49):=⟨_,rfl⟩;have H:Below w.heap.size w w1:=by rw [G];exact HB.out.alloc ag _
   have aG:w1.heap.size=wr.heap.size+1:=by rw [G];simp
   have aa:w1.heap[wr.heap.size]?=some (.cells #[.string (za X.1),.slice K X.2.length U] 49 (0,0)):=by rw [G];exact World.alloc_heap_new _ _
   obtain ⟨r0,r1,-⟩:=yK aa;have cm:=vX T X (.slice K X.2.length U) (os.length:Int) w1 (y.kept H.size fun k _ hk=>H.block k hk) F an (HT.out.below H (Nat.le_refl _))
   have aE:=G.symm;have J:Hid (Below w.heap.size w w1):=H;have al:Hid (w1.heap[wr.heap.size]?=some (.cells #[.string (za X.1),.slice K X.2.length U] 49 (0,0))):=aa;have aH:=af.out i hi;clear H aa q0 q1 y hX G;go_wp2_with fail
   refine cm.mono ?_;clear cm r0 r1 t0 t1;cases hob:XQ X (os.length:Int) with
   | false =>
    rintro e w2 ⟨rfl,c⟩;have B:Hid (Below w.heap.size w w2):=J.out.trans (c.mono J.out.size);clear c;go_wp2
    exact bodyPost_ret (v:=.tuple #[.pointer none,.int .i64 2]) (by simp [results,Tryz.results11,go_sem]) rfl ⟨B.out,.inl ⟨rfl,X,by rw [HX.out];exact List.getElem_mem hlt,hob⟩⟩
   | true =>
    rintro e w2 ⟨rfl,c⟩;have B:Hid (Below w.heap.size w w2):=J.out.trans (c.mono J.out.size);obtain ⟨s0,s1,-⟩:=yK ((c.block wr.heap.size (by omega)).trans al.out)
    have ao:=VJ (za X.1) K X.2.length U (by omega) w2
    clear c;go_wp2_with fail
    refine ao.mono ?_;clear ao;rintro e w3 ⟨rfl,A⟩;have I:Hid (Below w.heap.size w w3):=B.out.trans (A.mono B.out.size);clear A;go_wp2
    refine ⟨⟨i+1,by omega,by go_num,?_,?_,I.out⟩,by simp [intOf];omega⟩
    ·rw [yh hlt,Zs,List.length_append,←HX.out]
     go_num
    ·rw [yh hlt,←HX.out]
     intro o ho;rcases List.mem_append.1 ho with h9 | h9
     ·exact V.out o h9
     ·rw [List.mem_singleton] at h9;subst h9;exact hob
  ·obtain rfl:i=os.length:=by omega
   have aw:¬ (os.length:Int)<os.length:=by omega
   have z:∀o∈os,XQ o (os.length:Int)=true:=by have:=V.out;rwa [List.take_of_length_le (Nat.le_refl _)] at this
   rw [List.take_of_length_le (Nat.le_refl os.length)];have cn:=vD m wr;have D:Hid (∀o∈os,XQ o (os.length:Int)=true):=z;clear z;go_wp2_with fail
   refine cn.mono ?_;clear cn;rintro e w2 ⟨rfl,H2,c⟩;have aF:=c.size;have B:Hid (Below w.heap.size w w2):=HB.out.trans (c.mono ag);obtain ⟨-,d1,-,-,-⟩:=Zw H2.blk;have aB:=Xh m;obtain ⟨M,hM⟩:∃M,M=mostN m:=⟨_,rfl⟩;have HM:Hid (M=mostN m):=hM;rw [←hM] at d1 H2 aB;obtain ⟨g,hg⟩:∃g,g=wr.heap.size:=⟨_,rfl⟩;rw [←hg] at d1 H2 ⊢;have HG:Hid (w.heap.size≤g):=by show _≤_;omega
   have au:Hid (yP (fun k=>w.heap.size≤k) w2 M [] g (.slice none 0 0) (.slice none 0 0)):=H2.bare.wide fun k _ h=>by omega
   have ap:=af.out os.length (Nat.le_refl _);rw [List.take_of_length_le (Nat.le_refl _)] at ap;clear hM hg H2 c
   by_cases hfit:M<os.length+(zo os).length
   ·have ax:(M:Int)<((os.length+(zo os).length:Nat):Int):=by omega
    have ae:(M:Int)<(os.length:Int)+((zo os).length:Int):=by omega
    go_wp2
    exact bodyPost_ret (v:=.tuple #[.pointer none,.int .i64 12]) (by simp [results,Tryz.results11,go_sem]) rfl ⟨B.out,.inr (.inl ⟨rfl,D.out,by rw [←HM.out];exact hfit⟩)⟩
   ·have ax:¬ (M:Int)<((os.length+(zo os).length:Nat):Int):=by omega
    have ae:¬ (M:Int)<(os.length:Int)+((zo os).length:Int):=by omega
    go_wp2
    clear d1
    go_loopw [38] (fun vi wx=>∃j:Nat,j≤os.length∧vi=.int .i64 j∧(∃vo vc,yP (fun k=>w.heap.size≤k) wx M (os.take j) g vo vc)∧Below w.heap.size w wx) (fun vi _=>os.length-(intOf vi).toNat)
    case atStart=>exact ⟨0,Nat.zero_le _,rfl,⟨_,_,au.out⟩,B.out⟩
    case round =>
     obtain ⟨j,hj,rfl,⟨vo,vc,hp⟩,ad⟩:=hrel;have HP:Hid (yP (fun k=>w.heap.size≤k) wr M (os.take j) g vo vc):=hp
     have O:Hid (Below w.heap.size w wr):=ad;have ar:=ad.size;clear hp ad
     by_cases hjt:j<os.length
     ·have aq:(j:Int)<os.length:=by omega
      obtain ⟨ba,oa,ua,rfl,-,E,q0,q1,y⟩:=H1.out j hjt;have F:=HS.out os[j] (List.getElem_mem hjt);have hcut:=(ZO os j hjt).1
      unfold fromO at hcut
      obtain ⟨X,hX⟩:∃X,X=os[j]:=⟨_,rfl⟩;rw [←hX] at q0 y F hcut;have HX:Hid (X=os[j]):=hX;obtain ⟨K,U,Z,z1,z2,-⟩:=y.at;subst Z;have t0:=(zb O.out E).trans q0;have t1:=(zb O.out E).trans q1;obtain ⟨w3,R⟩:∃w3,w3=wr.alloc (.cells #[.string (za X.1),.slice K X.2.length U] 49):=⟨_,rfl⟩;have ab:Below wr.heap.size wr w3:=by rw [R];exact (Below.refl _ _).alloc (Nat.le_refl _) _
      have A:Below w.heap.size w w3:=O.out.trans (ab.mono ar);have ah:w3.heap[wr.heap.size]?=some (.cells #[.string (za X.1),.slice K X.2.length U] 49 (0,0)):=by rw [R];exact World.alloc_heap_new _ _
      obtain ⟨r0,r1,-⟩:=yK ah;have am:(os.take j).length=j:=by rw [List.length_take];omega
      have ai:=VZ (fun k=>w.heap.size≤k) T M (os.take j) g vo vc X (.slice K X.2.length U) w3 (HP.out.below ab) (y.kept A.size fun k _ hk=>A.block k hk) F (by rw [am];omega)
      have aD:=R.symm;have I:Hid (Below w.heap.size w w3):=A;clear ab A ah q0 q1 y hX R am hcut;go_wp2_with fail
      refine ai.mono ?_;clear ai r0 r1 t0 t1;rintro e w4 ⟨rfl,ak,aC,av,aj⟩;have az:Hid (Below w.heap.size w w4):=I.out.trans (ak.below I.out.size (fun q hq=>hq))
      have aA:Hid (yP (fun k=>w.heap.size≤k) w4 M (os.take (j+1)) g aC av):=by
       show yP _ _ _ _ _ _ _
       rw [yh hjt,←HX.out];exact aj.wide fun k _ h=>by have:=I.out.size;omega
      clear ak aj;go_wp2
      exact ⟨⟨j+1,by omega,by go_num,⟨_,_,aA.out⟩,az.out⟩,by simp [intOf];omega⟩
     ·obtain rfl:j=os.length:=by omega
      have aq:¬ (os.length:Int)<os.length:=by omega
      have ay:Hid (yP (fun k=>w.heap.size≤k) wr M os g vo vc):=by
       have:=HP.out
       rw [List.take_of_length_le (Nat.le_refl _)] at this;exact this
      clear HP;go_wp2
      refine bodyPost_ret (v:=.tuple #[.pointer (some ⟨g,0,none⟩),.int .i64 0]) (by simp [results,Tryz.results11,go_sem]) rfl ⟨O.out,.inr (.inr ⟨D.out,by rw [←HM.out];omega,g,vo,vc,rfl,?_⟩)⟩
      rw [←HM.out];exact ay.out.full fun o ho=>⟨D.out o ho,HS.out o ho⟩
end Go.Proofs.YtbjndgachcdbcaaGreatDoor
