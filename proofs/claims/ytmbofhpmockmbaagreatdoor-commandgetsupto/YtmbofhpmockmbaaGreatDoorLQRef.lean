import Derived.Test.YtmbofhpmockmbaaGreatDoorMC4
import Derived.Test.YtmbofhpmockmbaaGreatDoorMC5
import Derived.Test.YtmbofhpmockmbaaGreatDoorMC6
import Derived.Test.YtmbofhpmockmbaaGreatDoorWRefText
namespace Go.Proofs.YtmbofhpmockmbaaGreatDoor
open Go.RowKit Go.Shelf
set_option maxHeartbeats 16000000
set_option maxRecDepth 100000
theorem YK (a b:List UInt8):(⟨a.toArray⟩:ByteArray)++⟨b.toArray⟩=⟨(a++b).toArray⟩:=by
 apply ByteArray.ext
 rw [ByteArray.data_append]
 simp
theorem yY (k n:Int) (s:List UInt8) (hk:-9223372036854775808≤k∧k≤9223372036854775807) (hn:-9223372036854775808≤n∧n≤9223372036854775807) (hs:s.length≤1048576) (w:World) :
  Calls Tryz.prog 20 #[ZH k n s] w fun e w'=>e=.returned (.string (za (Yo k n s)))∧Below w.heap.size w w':=by
 obtain ⟨o,y,z,I,J⟩:=ZY w (.cells #[.int .i64 k,.int .i64 n,.string (za s)] 24 (0,0));obtain ⟨M,R,Q,-⟩:=ze J;have G:=Zl J;have T:=zF (n:=o.heap.size) M G;have Z:=zF (n:=o.heap.size) R G;have X:=zF (n:=o.heap.size) Q G;obtain ⟨A,D⟩:∃A,A=Zo k:=⟨_,rfl⟩;obtain ⟨B,E⟩:∃B,B=Zo n:=⟨_,rfl⟩;obtain ⟨C,H⟩:∃C,C=yQ (za s):=⟨_,rfl⟩;have C1:Hid (∀W,Below o.heap.size o W→Calls Tryz.prog 47 #[.int .i64 k] W fun e w'=>e=.returned (.string (za A))∧Below o.heap.size o w'):=fun W hW=>(Yn k hk.1 hk.2 W).mono fun e w' ⟨h,hb⟩=>⟨by rw [h,D],hW.trans (hb.mono hW.size)⟩
 have C2:Hid (∀W,Below o.heap.size o W→Calls Tryz.prog 47 #[.int .i64 n] W fun e w'=>e=.returned (.string (za B))∧Below o.heap.size o w'):=fun W hW=>(Yn n hn.1 hn.2 W).mono fun e w' ⟨h,hb⟩=>⟨by rw [h,E],hW.trans (hb.mono hW.size)⟩
 have U:Hid (∀W,Below o.heap.size o W→Calls Tryz.prog 48 #[.string (za s)] W fun e w'=>e=.returned (.string (za C))∧Below o.heap.size o w'):=fun W hW=>(vo (za s) W (by show s.length≤_;omega)).mono fun e w' ⟨h,hb⟩=>⟨by rw [h,H],hW.trans (hb.mono hW.size)⟩
 have V:Hid (Yo k n s=A++B++C):=by show _=_;rw [D,E,H];rfl
 have ab:A.length≤10:=by rw [D];exact Zs hk.1 hk.2
 have aa:B.length≤10:=by rw [E];exact Zs hn.1 hn.2
 have Y:C.length≤1048676:=by
  have h3:=Zs (n:=(s.length:Int)) (by omega) (by omega)
  rw [H];unfold yQ;simp only [List.length_append]
  have:(za s).data.toList.length=s.length:=rfl
  have:(Zo ((za s).size:Int)).length=(Zo (s.length:Int)).length:=rfl
  omega
 have z0:(za A).size=A.length:=rfl;have z1:(za B).size=B.length:=rfl;have z2:(za C).size=C.length:=rfl;have z3:(za (A++B)).size=A.length+B.length:=by show (A++B).length=_;simp
 have e1:za A++za B=za (A++B):=YK A B;have e2:za (A++B)++za C=za (A++B++C):=YK _ C;have K:Hid (Below w.heap.size w o):=z;have O:=y.symm
 unfold ZH
 clear y z I J M R Q G hk hn D E H
 go_enter Tryz.func20,Tryz.ntmps20
 go_wp2_with fail
 refine xY (w0:=o) (n:=o.heap.size) (Below.refl _ _) (by kernel_rfl) (by decide +kernel) ?_
 go_big_quiet_step (fail)
 go_big_quiet_step (fail)
 go_big_quiet_step (exact YG C1.out _)
 go_big_quiet_step (fail)
 go_big_quiet_step (fail)
 go_big_quiet_step (exact YG C2.out _)
 go_big_quiet_step (fail)
 go_big_quiet_step (fail)
 go_big_quiet_step (fail)
 go_big_quiet_step (exact YG U.out _)
 go_big_quiet_step (fail)
 go_big_quiet_step (fail)
 refine wpQuiet_nil ?_;rintro w2 ⟨c,rfl⟩;have L:Hid (Below w.heap.size w c.1):=ZA K.out c.2;clear T Z X;go_wp2
 go_ret
 exact ⟨by rw [V.out,List.append_assoc];rfl,L.out⟩
theorem VJ {bs:List UInt8} {a e:Nat} (h:a≤bs.length):(gI bs a e).2.1≤bs.length:=by
 have o:=xk (bs.drop a);rw [List.length_drop] at o
 unfold gI stepR
 split
 ·exact h
 ·split
  ·exact h
  ·show a+_≤_;omega
theorem qB {bs:List UInt8} {a e:Nat} (h:a≤bs.length):(gT bs a e).2.1≤bs.length:=by
 have o:=vg (bs.drop a) 255;rw [List.length_drop] at o
 unfold gT stepR
 split
 ·exact h
 ·split
  ·exact h
  ·show a+_≤_;omega
theorem UQ {bs:List UInt8} {a e:Nat} (h:a≤bs.length):(yi bs a e).2.1≤bs.length:=by
 unfold yi xu
 exact qB (VJ (VJ h))
abbrev UH (b:List UInt8) (a e:Int):Obj:=.cells #[.string (za b),.int .i64 a,.int .i64 e] 44 (0,0)
structure GJ (w wr:World) (b:List UInt8) (a e:Nat):Prop where
 below:Below w.heap.size w wr
 pa:wr.heap[w.heap.size]?=some (UH b a e)
 pb:wr.heap[w.heap.size+1]?=some (.cells #[.string ⟨#[]⟩,.int .i64 0,.int .i64 0] 44 (0,0))
 pc:wr.heap[w.heap.size+2]?=some (.cells #[.int .i64 0,.int .i64 0,.string ⟨#[]⟩] 24 (0,0))
theorem GJ.step {w wr wx:World} {b:List UInt8} {a e:Nat} (h:GJ w wr b a e) (hb:Below wr.heap.size wr wx):GJ w wx b a e :=
 ⟨ZA h.below hb,(hb.block _ (Zl h.pa)).trans h.pa,(hb.block _ (Zl h.pb)).trans h.pb,(hb.block _ (Zl h.pc)).trans h.pc⟩
theorem Za (w:World) (N:Nat) (a b c:Value) {k:Nat} (hk:k≠N):(zM w N a b c).heap[k]?=w.heap[k]?:=by
 unfold zM
 rw [Below.heap_setCell _ _ _ _ hk,Below.heap_setCell _ _ _ _ hk,Below.heap_setCell _ _ _ _ hk]
theorem GJ.set {w wr:World} {b:List UInt8} {a e:Nat} (h:GJ w wr b a e) (a' e':Nat):GJ w (zM wr w.heap.size (.string (za b)) (.int .i64 a') (.int .i64 e')) b a' e' :=
 ⟨zN h.below (Nat.le_refl _) _ _ _,zI h.pa _ _ _,(Za _ _ _ _ _ (by omega)).trans h.pb,(Za _ _ _ _ _ (by omega)).trans h.pc⟩
theorem qC (w:World) (A B C:Obj):∃y,y=((w.alloc A).alloc B).alloc C∧Below w.heap.size w y∧y.heap[w.heap.size]?=some A∧y.heap[w.heap.size+1]?=some B∧y.heap[w.heap.size+2]?=some C:=by
 obtain ⟨y,z,G,E,I,J⟩:=vu w A B;obtain ⟨L,D,o,K,H⟩:=ZY y C;exact ⟨L,by rw [D,z],ZA G o,(o.block _ (Zl I)).trans I,(o.block _ (Zl J)).trans J,by rw [E] at H;exact H⟩
theorem YX (b:List UInt8) (at0 er:Nat) (hb:b.length≤1048576) (ha:at0≤b.length) (w:World) :
  Calls Tryz.prog 18 #[.agg #[.string (za b),.int .i64 at0,.int .i64 er]] w fun e w'=>e=.returned (.tuple #[.agg #[.string (za b),.int .i64 (yi b at0 er).2.1,.int .i64 (yi b at0 er).2.2],ZH (yi b at0 er).1.1 (yi b at0 er).1.2.1 (yi b at0 er).1.2.2])∧Below w.heap.size w w':=by
 obtain ⟨w1,ai,ak,p0,p1,p2⟩:=qC w (UH b at0 er) (.cells #[.string ⟨#[]⟩,.int .i64 0,.int .i64 0] 44 (0,0)) (.cells #[.int .i64 0,.int .i64 0,.string ⟨#[]⟩] 24 (0,0));have J1:GJ w w1 b at0 er:=⟨ak,p0,p1,p2⟩;have CI:Hid (∀(W:World) (x y:Nat),x≤b.length→Calls Tryz.prog 43 #[.agg #[.string (za b),.int .i64 x,.int .i64 y]] W fun e w'=>e=.returned (.tuple #[.agg #[.string (za b),.int .i64 (gI b x y).2.1,.int .i64 (gI b x y).2.2],.int .i64 (gI b x y).1])∧Below W.heap.size W w'):=fun W x y hx=>vq (za b) x y W (by show b.length≤_;omega) hx
 have CT:Hid (∀(W:World) (x y:Nat),x≤b.length→Calls Tryz.prog 44 #[.agg #[.string (za b),.int .i64 x,.int .i64 y],.int .i64 255] W fun e w'=>e=.returned (.tuple #[.agg #[.string (za b),.int .i64 (gT b x y).2.1,.int .i64 (gT b x y).2.2],.string (za (gT b x y).1)])∧Below W.heap.size W w'):=fun W x y hx=>XJ (za b) x y 255 W (by show b.length≤_;omega) hx
 have D:Hid (yi b at0 er=xu (gI b at0 er).1 (gI b (gI b at0 er).2.1 (gI b at0 er).2.2).1 (gT b (gI b (gI b at0 er).2.1 (gI b at0 er).2.2).2.1 (gI b (gI b at0 er).2.1 (gI b at0 er).2.2).2.2)):=rfl;have z:=VJ (e:=er) ha;have c1:=CI.out w1 at0 er ha;have ad:Hid (GJ w w1 b at0 er):=J1;obtain ⟨a0,a1,a2,-⟩:=ze J1.pa;have aj:=ai.symm;clear ai ak p0 p1 p2 J1 ha hb
 go_enter Tryz.func18,Tryz.ntmps18
 go_wp2_with fail
 refine c1.mono ?_;clear c1 aj a0 a1 a2;generalize gI b at0 er=A at D z ⊢;rintro e w2 ⟨rfl,ae⟩;obtain ⟨A1,Aa,Ae⟩:=A;simp only at D z ⊢;have J2:=ad.out.step ae;obtain ⟨a0,a1,a2,af⟩:=ze J2.pa;obtain ⟨w3,ab⟩:∃w3,w3=zM w2 w.heap.size (.string (za b)) (.int .i64 Aa) (.int .i64 Ae):=⟨_,rfl⟩;have J3:GJ w w3 b Aa Ae:=by rw [ab];exact J2.set Aa Ae
 have ag:Hid (GJ w w3 b Aa Ae):=J3;obtain ⟨d0,d1,d2,-⟩:=ze J3.pa;have c2:=CI.out w3 Aa Ae z;have L:=VJ (e:=Ae) z;have X:=ab.symm
 unfold zM at X
 clear ae J2 J3 ab z ad;go_wp2_with fail
 refine c2.mono ?_;clear c2 X a0 a1 a2 af d0 d1 d2;generalize gI b Aa Ae=B at D L ⊢;rintro e w4 ⟨rfl,al⟩;obtain ⟨B1,Ba,Be⟩:=B;simp only at D L ⊢;have J4:=ag.out.step al;obtain ⟨a0,a1,a2,af⟩:=ze J4.pa;obtain ⟨w5,aa⟩:∃w5,w5=zM w4 w.heap.size (.string (za b)) (.int .i64 Ba) (.int .i64 Be):=⟨_,rfl⟩;have J5:GJ w w5 b Ba Be:=by rw [aa];exact J4.set Ba Be
 have Y:Hid (GJ w w5 b Ba Be):=J5;obtain ⟨d0,d1,d2,-⟩:=ze J5.pa;have c3:=CT.out w5 Ba Be L;have V:=aa.symm
 unfold zM at V
 clear al J4 J5 aa L ag;go_wp2_with fail
 refine c3.mono ?_;clear c3 V a0 a1 a2 af d0 d1 d2;generalize gT b Ba Be=C at D ⊢;rintro e w6 ⟨rfl,Z⟩;obtain ⟨C1,H,Ce⟩:=C;simp only at D ⊢;have J6:=Y.out.step Z;obtain ⟨a0,a1,a2,af⟩:=ze J6.pa;obtain ⟨w7,R⟩:∃w7,w7=zM w6 w.heap.size (.string (za b)) (.int .i64 H) (.int .i64 Ce):=⟨_,rfl⟩;have T:GJ w w7 b H Ce:=by rw [R];exact J6.set H Ce
 obtain ⟨d0,d1,d2,-⟩:=ze T.pa;obtain ⟨e0,e1,e2,ef⟩:=ze T.pb
 by_cases hy:Ce=0
 ·have HQ:Hid (yi b at0 er=((A1,B1,C1),H,Ce)):=by
   show _=_
   rw [D.out];unfold xu;rw [if_pos hy]
  have am:((Ce:Int) != 0)=false:=by rw [hy];rfl
  clear hy;have o:=(Za w7 (w.heap.size+1) (.string (za b)) (.int .i64 H) (.int .i64 Ce) (show w.heap.size+2≠w.heap.size+1 by omega)).trans T.pc
  have z8:=zI T.pb (.string (za b)) (.int .i64 H) (.int .i64 Ce);have E:=zN (n:=w.heap.size) (N:=w.heap.size+1) T.below (by omega) (.string (za b)) (.int .i64 H) (.int .i64 Ce)
  obtain ⟨U,I⟩:∃U,U=zM w7 (w.heap.size+1) (.string (za b)) (.int .i64 H) (.int .i64 Ce):=⟨_,rfl⟩;rw [←I] at o z8 E;have z9:=(Za U (w.heap.size+2) (.int .i64 A1) (.int .i64 B1) (.string (za C1)) (show w.heap.size+1≠w.heap.size+2 by omega)).trans z8
  have G:=zI o (.int .i64 A1) (.int .i64 B1) (.string (za C1));have K:=zN (n:=w.heap.size) (N:=w.heap.size+2) E (by omega) (.int .i64 A1) (.int .i64 B1) (.string (za C1))
  obtain ⟨w9,J⟩:∃w9,w9=zM U (w.heap.size+2) (.int .i64 A1) (.int .i64 B1) (.string (za C1)):=⟨_,rfl⟩;rw [←J] at z9 G K;have HZ:Hid (Below w.heap.size w w9):=K;obtain ⟨g0,g1,g2,-⟩:=ze z9;obtain ⟨h0,h1,h2,-⟩:=ze G;obtain ⟨i0,i1,i2,ah⟩:=ze o;have O:=R.symm;have Q:=I.symm;have M:=J.symm
  unfold zM at O Q M
  clear Z J6 T R I J z8 o z9 G E K Y;go_wp2
  exact bodyPost_ret (v:=.tuple #[.agg #[.string (za b),.int .i64 H,.int .i64 Ce],.agg #[.int .i64 A1,.int .i64 B1,.string (za C1)]]) (by simp [results,Tryz.results18,go_sem,g0,g1,g2,h0,h1,h2]) rfl ⟨by rw [HQ.out];rfl,HZ.out⟩
 ·have HQ:Hid (yi b at0 er=((0,0,[]),H,Ce)):=by
   show _=_
   rw [D.out];unfold xu;rw [if_neg hy]
  have an:¬ (Ce:Int)=0:=by omega
  have o:=(Za w7 (w.heap.size+1) (.string (za b)) (.int .i64 H) (.int .i64 Ce) (show w.heap.size+2≠w.heap.size+1 by omega)).trans T.pc
  have z8:=zI T.pb (.string (za b)) (.int .i64 H) (.int .i64 Ce);have E:=zN (n:=w.heap.size) (N:=w.heap.size+1) T.below (by omega) (.string (za b)) (.int .i64 H) (.int .i64 Ce)
  obtain ⟨U,I⟩:∃U,U=zM w7 (w.heap.size+1) (.string (za b)) (.int .i64 H) (.int .i64 Ce):=⟨_,rfl⟩;rw [←I] at o z8 E;have z9:=(Za U (w.heap.size+2) (.int .i64 0) (.int .i64 0) (.string ⟨#[]⟩) (show w.heap.size+1≠w.heap.size+2 by omega)).trans z8
  have G:=zI o (.int .i64 0) (.int .i64 0) (.string ⟨#[]⟩);have K:=zN (n:=w.heap.size) (N:=w.heap.size+2) E (by omega) (.int .i64 0) (.int .i64 0) (.string ⟨#[]⟩)
  obtain ⟨w9,J⟩:∃w9,w9=zM U (w.heap.size+2) (.int .i64 0) (.int .i64 0) (.string ⟨#[]⟩):=⟨_,rfl⟩;rw [←J] at z9 G K;have HZ:Hid (Below w.heap.size w w9):=K;obtain ⟨g0,g1,g2,-⟩:=ze z9;obtain ⟨h0,h1,h2,-⟩:=ze G;obtain ⟨i0,i1,i2,ah⟩:=ze o;have O:=R.symm;have Q:=I.symm;have M:=J.symm
  unfold zM at O Q M
  clear Z J6 T R I J z8 o z9 G E K Y;go_wp2
  exact bodyPost_ret (v:=.tuple #[.agg #[.string (za b),.int .i64 H,.int .i64 Ce],.agg #[.int .i64 0,.int .i64 0,.string ⟨#[]⟩]]) (by simp [results,Tryz.results18,go_sem,g0,g1,g2,h0,h1,h2]) rfl ⟨by rw [HQ.out];rfl,HZ.out⟩
end Go.Proofs.YtmbofhpmockmbaaGreatDoor
