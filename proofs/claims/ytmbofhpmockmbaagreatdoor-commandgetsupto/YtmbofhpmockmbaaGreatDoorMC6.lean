import Derived.Test.YtmbofhpmockmbaaGreatDoorMC5
namespace Go.Proofs.YtmbofhpmockmbaaGreatDoor
open Go.RowKit
set_option maxHeartbeats 16000000
set_option maxRecDepth 100000
theorem yo (f:Nat) (h1:f<18446744073709551616) (w:World) :
  Calls Tryz.prog 83 #[.int .u64 f] w fun e w'=>e=.returned (.int .i64 (Lib.unzigzag f))∧w=w':=by
 have o:f % 2=1∨f % 2=0:=by omega
 rcases o with o | o
 ·have y:Hid (Lib.unzigzag f=-((f:Int) / 2)-1):=by rw [VG o];show _=_;omega
  have z:(((f:Int) % 2)==1)=true:=by simp;omega
  go_enter Tryz.func83,Tryz.ntmps83
  go_wp2
  go_ret
  exact ⟨by rw [y.out];rfl,rfl⟩
 ·have y:Hid (Lib.unzigzag f=(f:Int) / 2):=by rw [X4 o];show _=_;omega
  have z:(((f:Int) % 2)==1)=false:=by simp;omega
  go_enter Tryz.func83,Tryz.ntmps83
  go_wp2
  go_ret
  exact ⟨by rw [y.out];rfl,rfl⟩
def Z5 (l:List UInt8) (at0:Nat):Int × Nat × Nat :=
 if (zL (l.drop at0)).2.2=0 then ((zL (l.drop at0)).1,at0+(zL (l.drop at0)).2.1,0) else (0,0,(zL (l.drop at0)).2.2)
theorem vp {l:List UInt8} {at0 e:Nat} (h:zL (l.drop at0)=(0,0,e)) (he:e≠0):Z5 l at0=(0,0,e):=by
 unfold Z5;rw [h];simp [he]
theorem XI {l:List UInt8} {at0 k:Nat} {n:Int} (h:zL (l.drop at0)=(n,k,0)):Z5 l at0=(n,at0+k,0):=by
 unfold Z5;rw [h];simp
theorem uY {a:Int × Nat × Nat} {n i:Int} {k:Nat} (h:a=(n,k,0)) (hi:i=(k:Int)):(Ending.returned (.tuple #[.int .i64 n,.int .i64 i,.int .i64 0]):Ending)=Ending.returned (.tuple #[.int .i64 a.1,.int .i64 a.2.1,.int .i64 a.2.2]):=by
 rw [h,hi];rfl
theorem uZ (w:World) (s:ByteArray) (at0 k:Nat) (h:at0+k<s.size) :
  (Instr.index 9 (.string s) (.int .i64 ((at0:Int)+(k:Int)))).run Tryz.prog w=.ok (.int .u8 ((s.data.toList[at0+k]'(by rw [ZV];exact h)).toNat:Int)) w:=by
 have o:((at0:Int)+(k:Int)).toNat=at0+k:=by omega
 rw [run_index_string (P:=Tryz.prog) (w:=w) 9 s .i64 _ Tryz.underlying9,dif_pos ⟨by omega,by omega⟩]
 simp only [o]
 rfl
theorem Ua {k acc x:Nat} (hk:k≤9) (hacc:acc<128 ^ k) (h9:k=9→x % 128≤1) :
  IntKind.u64.wrap ((acc:Int)+IntKind.u64.wrap ((x:Int) % 128*2 ^ (7*k)))=((acc+x % 128*128 ^ k:Nat):Int):=by
 have A:=U4 hk h9;have o:=Vb hk hacc h9
 have e:(x:Int) % 128*2 ^ (7*k)=((x % 128*128 ^ k:Nat):Int):=by
  rw [qa,Int.natCast_mul,Int.natCast_pow];rfl
 have y:IntKind.u64.wrap ((x % 128*128 ^ k:Nat):Int)=((x % 128*128 ^ k:Nat):Int):=wraps_u64 _ (by omega) (by omega)
 have z:(acc:Int)+((x % 128*128 ^ k:Nat):Int)=((acc+x % 128*128 ^ k:Nat):Int):=by omega
 rw [e,y,z,wraps_u64 _ (by omega) (by omega)]
theorem xo (s:ByteArray) (at0:Nat) (w:World) (hs:s.size≤9223372036854775000) (ha:at0≤s.size) :
  Calls Tryz.prog 64 #[.string s,.int .i64 at0] w fun e w'=>e=.returned (.tuple #[.int .i64 (Z5 s.data.toList at0).1,.int .i64 (Z5 s.data.toList at0).2.1,.int .i64 (Z5 s.data.toList at0).2.2])∧w=w':=by
 obtain ⟨L,hL⟩:∃L,L=s.data.toList.drop at0:=⟨_,rfl⟩;have X:Hid (L=s.data.toList.drop at0):=hL;have O:L.length=s.size-at0:=by rw [hL,List.length_drop,ZV]
 have ae:Hid (L.length=s.size-at0):=O;clear hL O
 go_enter Tryz.func64,Tryz.ntmps64
 go_wp2
 go_loop [7,8] (fun f i=>∃k y:Nat,k≤L.length∧k≤9∧i=.int .i64 k∧f=.int .u64 y∧y<128 ^ k∧Zx 0 0 L=Zx k y (L.drop k)) (fun _ i=>10-(intOf i).toNat)
 case atStart=>exact ⟨0,0,Nat.zero_le _,Nat.zero_le _,rfl,rfl,by simp,rfl⟩
 case round =>
  obtain ⟨k,y,hk,M,rfl,rfl,J,U⟩:=hrel;have D:Hid (Zx 0 0 L=Zx k y (L.drop k)):=U;have HA:Hid (y<128 ^ k):=J;have R:=ae.out;clear U J
  by_cases hlt:k<L.length
  ·have H:at0+k<s.size:=by omega
   obtain ⟨x,Y⟩:∃x,x=L[k].toNat:=⟨_,rfl⟩;have Q:=fun wx=>uZ wx s at0 k H
   have T:(s.data.toList[at0+k]'(by rw [ZV];exact H)).toNat=x:=by
    rw [Y];congr 1;simp only [X.out];rw [List.getElem_drop]
   rw [T] at Q;have aa:x<256:=by rw [Y];exact UInt8.toNat_lt _
   have K:Hid (x=L[k].toNat):=Y;have af:(at0:Int)+(k:Int)<(s.size:Int):=by omega
   clear Y T R;have ab:(k:Int)<10:=by omega
   by_cases hbad:(0<k∧x=0)∨(k=9∧x≠1)
   ·have G:Hid (Z5 s.data.toList at0=(0,0,4)):=vp (by rw [←X.out];exact Yw (D.out.trans (X6 hlt (by rw [←K.out];exact hbad))) (by decide)) (by decide)
    by_cases hn9:k=9
    ·have Z:((k:Int)==9)=true:=by rw [beq_iff_eq];omega
     have ah:x≠1:=by omega
     have t3:((x:Int) != 1)=true:=by rw [bne_iff_ne];omega
     clear hbad hn9;go_wp2
     go_ret3
     exact ⟨Yx G.out,rfl⟩
    ·have Z:((k:Int)==9)=false:=by rw [beq_eq_false_iff_ne];omega
     have t3:((x:Int)==0)=true:=by rw [beq_iff_eq];omega
     have t4:0<k:=by omega
     have t5:x<128:=by omega
     clear hbad hn9;go_wp2
     go_ret3
     exact ⟨Yx G.out,rfl⟩
   ·have h9:k=9→x % 128≤1:=by omega
    have V:=Ua M HA.out h9;have E:=Vb M HA.out h9;have A:=Va (x:=x) HA.out;obtain ⟨o,z⟩:∃o,o=y+x % 128*128 ^ k:=⟨_,rfl⟩;rw [←z] at V E A;have W:Hid (o=y+x % 128*128 ^ k):=z;have ad:Hid (o<128 ^ (k+1)):=A;have I:Hid (¬ ((0<k∧x=0)∨(k=9∧x≠1))):=hbad;clear z A h9
    by_cases hx128:x<128
    ·have G:Hid (Z5 s.data.toList at0=(Lib.unzigzag o,at0+(k+1),0)):=XI (by rw [←X.out];exact VH (D.out.trans (by rw [X7 hlt (by rw [←K.out];exact I.out) (by rw [←K.out];exact hx128),W.out,K.out])))
     by_cases hn9:k=9
     ·have Z:((k:Int)==9)=true:=by rw [beq_iff_eq];omega
      have t3:((x:Int) != 1)=false:=by rw [bne_eq_false_iff_eq];omega
      have t4:((x:Int)==0)=false:=by rw [beq_eq_false_iff_ne];omega
      clear hbad hn9;go_wp2_with (go_at_call 83;refine (yo _ E _).mono ?_;rintro e w' ⟨rfl,rfl⟩)
      go_ret3
      exact ⟨uY G.out (by omega),rfl⟩
     ·have Z:((k:Int)==9)=false:=by rw [beq_eq_false_iff_ne];omega
      by_cases hx0:x=0
      ·have t4:((x:Int)==0)=true:=by rw [beq_iff_eq];omega
       have t5:¬ (0<k):=by omega
       clear hbad hn9 hx0;go_wp2_with (go_at_call 83;refine (yo _ E _).mono ?_;rintro e w' ⟨rfl,rfl⟩)
       go_ret3
       exact ⟨uY G.out (by omega),rfl⟩
      ·have t4:((x:Int)==0)=false:=by rw [beq_eq_false_iff_ne];omega
       clear hbad hn9 hx0;go_wp2_with (go_at_call 83;refine (yo _ E _).mono ?_;rintro e w' ⟨rfl,rfl⟩)
       go_ret3
       exact ⟨uY G.out (by omega),rfl⟩
    ·have HM:Hid (Zx 0 0 L=Zx (k+1) o (L.drop (k+1))):=D.out.trans (by rw [Xi hlt (by rw [←K.out];exact I.out) (by rw [←K.out];exact hx128),W.out,K.out])
     have ag:k≤8:=by omega
     have Z:((k:Int)==9)=false:=by rw [beq_eq_false_iff_ne];omega
     clear hbad M;go_wp2
     go_round
     case rel=>exact ⟨k+1,o,by omega,by omega,by go_num,rfl,ad.out,HM.out⟩
     case measure=>simp [intOf];omega
  ·have G:Hid (Z5 s.data.toList at0=(0,0,3)):=vp (by rw [←X.out];exact Yw (D.out.trans (Xj (by omega))) (by decide)) (by decide)
   have ai:¬ ((at0:Int)+(k:Int)<(s.size:Int)):=by omega
   have ab:(k:Int)<10:=by omega
   clear R;go_wp2
   go_ret3
   exact ⟨Yx G.out,rfl⟩
theorem Z6 (w:World) (a b:Obj):Below w.heap.size w ((w.alloc a).alloc b):=((Below.refl _ _).alloc (Nat.le_refl _) _).alloc (by simp) _
theorem yx (s:ByteArray) (a e0:Nat) (e1:Int) (w:World) :
  Calls Tryz.prog 65 #[.agg #[.string s,.int .i64 a,.int .i64 e0],.int .i64 e1] w fun e w'=>e=.returned (.agg #[.string s,.int .i64 a,.int .i64 e1])∧Below w.heap.size w w':=by
 go_enter Tryz.func65,Tryz.ntmps65
 go_wp2
 exact bodyPost_ret (v:=.agg #[.string s,.int .i64 a,.int .i64 e1]) (by simp [results,Tryz.results65,go_sem]) rfl ⟨rfl,Z6 _ _ _⟩
theorem Yh {W w1:World} (hb:Below W.heap.size W w1):(∀b o,b<W.heap.size→w1.cell? ⟨b,o,none⟩=W.cell? ⟨b,o,none⟩)∧(∀b o,b<W.heap.size→w1.frozen? ⟨b,o,none⟩=W.frozen? ⟨b,o,none⟩) :=
 ⟨fun b o h=>hb.cell (p:=⟨b,o,none⟩) h,fun b o h=>hb.frozen (p:=⟨b,o,none⟩) h⟩
theorem ua (l:List UInt8) (at0:Nat):(∃e,e≠0∧e≤9∧Z5 l at0=(0,0,e)∧stepR (0:Int) at0 0 (zL (l.drop at0))=(0,at0,e))∨(∃n k,Z5 l at0=(n,k,0)∧stepR (0:Int) at0 0 (zL (l.drop at0))=(n,k,0)):=by
 obtain ⟨v,k,e,o⟩:∃v k e,zL (l.drop at0)=(v,k,e):=⟨_,_,_,rfl⟩;have y:=Vc (l.drop at0);rw [o] at y
 by_cases he:e=0
 ·subst he
  right
  refine ⟨v,at0+k,XI o,?_⟩;rw [o];unfold stepR;simp
 ·left
  refine ⟨e,he,y,?_,?_⟩
  ·unfold Z5;rw [o];simp [he]
  ·rw [o];unfold stepR;simp [he]
theorem vq (s:ByteArray) (at0 er:Nat) (w:World) (hs:s.size≤9223372036854775000) (ha:at0≤s.size) :
  Calls Tryz.prog 43 #[.agg #[.string s,.int .i64 at0,.int .i64 er]] w fun e w' =>
   e=.returned (.tuple #[.agg #[.string s,.int .i64 (stepR (0:Int) at0 er (zL (s.data.toList.drop at0))).2.1,.int .i64 (stepR (0:Int) at0 er (zL (s.data.toList.drop at0))).2.2],.int .i64 (stepR (0:Int) at0 er (zL (s.data.toList.drop at0))).1])∧Below w.heap.size w w':=by
 by_cases her:er≠0
 ·have K:Hid (stepR (0:Int) at0 er (zL (s.data.toList.drop at0))=(0,at0,er)):=if_pos her
  have H:((er:Int) != 0)=true:=by rw [bne_iff_ne];omega
  clear her;rw [K.out]
  go_enter Tryz.func43,Tryz.ntmps43
  go_wp2
  exact bodyPost_ret (v:=.tuple #[.agg #[.string s,.int .i64 at0,.int .i64 er],.int .i64 0]) (by simp [results,Tryz.results43,go_sem]) rfl ⟨rfl,Z6 _ _ _⟩
 ·have I:er=0:=by omega
  subst I;clear her;have A:Hid (∀o,Calls Tryz.prog 64 #[.string s,.int .i64 at0] o fun e w'=>e=.returned (.tuple #[.int .i64 (Z5 s.data.toList at0).1,.int .i64 (Z5 s.data.toList at0).2.1,.int .i64 (Z5 s.data.toList at0).2.2])∧o=w'):=fun o=>xo s at0 o hs ha
  rcases ua s.data.toList at0 with ⟨e,M,_,z,y⟩ | ⟨n,k,z,y⟩
  ·rw [y]
   rw [z] at A;have H:((e:Int) != 0)=true:=by rw [bne_iff_ne];omega
   clear M z y
   go_enter Tryz.func43,Tryz.ntmps43
   go_wp2_with fail
   refine (A.out _).mono ?_;rintro E o ⟨rfl,rfl⟩;go_wp2_with fail
   refine (yx s at0 0 e _).mono ?_;rintro E w1 ⟨rfl,D⟩;obtain ⟨J,O⟩:=Yh D;have Q:w.heap.size+1<w1.heap.size:=by have:=D.size;simp at this;omega
   have G:Below w.heap.size w w1:=(Z6 w _ _).trans (D.mono (by simp;omega))
   have L:Hid (Below w.heap.size w w1):=G;clear G D;go_wp2
   refine bodyPost_ret (v:=.tuple #[.agg #[.string s,.int .i64 at0,.int .i64 e],.int .i64 0]) (by simp [results,Tryz.results43,go_sem,J]) rfl ⟨rfl,?_⟩
   exact ((L.out.setCell (by simp) _).setCell (by simp) _).setCell (by simp) _
  ·rw [y]
   rw [z] at A;clear z y
   go_enter Tryz.func43,Tryz.ntmps43
   go_wp2_with fail
   refine (A.out _).mono ?_;rintro E o ⟨rfl,rfl⟩;go_wp2
   exact bodyPost_ret (v:=.tuple #[.agg #[.string s,.int .i64 k,.int .i64 0],.int .i64 n]) (by simp [results,Tryz.results43,go_sem]) rfl ⟨rfl,Z6 _ _ _⟩
end Go.Proofs.YtmbofhpmockmbaaGreatDoor
