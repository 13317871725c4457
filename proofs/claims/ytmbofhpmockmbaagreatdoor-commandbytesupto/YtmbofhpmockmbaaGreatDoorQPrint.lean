import Derived.Test.YtmbofhpmockmbaaGreatDoorQCheck
import Derived.Lib.ItoaLen
namespace Go.Proofs.YtmbofhpmockmbaaGreatDoor
open Go.RowKit Go.Shelf
set_option maxHeartbeats 16000000
set_option maxRecDepth 100000
theorem X5 (a b:List UInt8):za a++za b=za (a++b):=by
 apply ByteArray.ext
 rw [ByteArray.data_append]
 simp
theorem ZF (g:Nat) (t p:List UInt8) (w:World) (ht:t.length≤1000000) (hp:p.length≤1000000) (hg:w.heap[g]?=some (.cells #[.string (za t)] 9 (0,0))) :
  Calls Tryz.prog 26 #[.string (za p),.pointer (some ⟨g,0,none⟩)] w fun e w'=>e=.returned (.tuple #[])∧w'=w.setCell ⟨g,0,none⟩ (.string (za (t++32::p))):=by
 obtain ⟨z,E⟩:=zN hg;have G:(⟨#[32]⟩:ByteArray)++za p=za (32::p):=X5 [32] p;have A:za t++za (32::p)=za (t++32::p):=X5 t _;have D:(za p).size=p.length:=rfl;have y:(za t).size=t.length:=rfl;have o:(za (32::p)).size=p.length+1:=rfl;clear hg
 go_enter Tryz.func26,Tryz.ntmps26
 go_wp2
 go_end0
 exact ⟨rfl,rfl⟩
theorem xj (s:List UInt8) (w:World) (hs:s.length≤1000000):Calls Tryz.prog 25 #[.string (za s)] w fun e w'=>e=.returned (.string (za s))∧Below w.heap.size w w':=by
 have o:=Tryz.stringslite_Clone (za s) w (by show s.length≤_;omega)
 go_enter Tryz.func25,Tryz.ntmps25
 go_wp2_with fail
 refine o.mono ?_;clear o;rintro e z ⟨rfl,y⟩;go_wp2
 go_ret
 exact ⟨rfl,y⟩
theorem Xp (k:Int):(ofKind k).2.1.length≤20∧(ofKind k).2.2.2.2.2.length≤20∧0≤(ofKind k).2.2.2.1:=by
 by_cases hk:k<1∨17<k
 ·rw [Yw k hk];decide
 ·exact XK (P:=fun k=>(ofKind k).2.1.length≤20∧(ofKind k).2.2.2.2.2.length≤20∧0≤(ofKind k).2.2.2.1) (by decide) (by decide) (by decide) (by decide) (by decide) (by decide) (by decide) (by decide) (by decide) (by decide) (by decide) (by decide) (by decide) (by decide) (by decide) (by decide) (by decide) k (by omega) (by omega)
theorem xY {k n:Int} {s:List UInt8} (h:yG yt k n s):s.length≤255:=by
 cases hf:(ofKind k).2.2.2.2.1 with
 | false=>rw [h.2.2.1 hf];exact Nat.zero_le _
 | true =>
  rcases h.2.2.2.2 hf with h | h
  ·rw [h.1];exact Nat.zero_le _
  ·exact h.1
structure PJ (w wr:World) (A B T:Nat) (k n:Int) (s:List UInt8) (a:Int) (b:List UInt8) (c:Bool) (d:Int) (f:Bool) (g t:List UInt8):Prop where
 below:Below w.heap.size w wr
 pa:wr.heap[A]?=some (.cells #[.int .i64 k,.int .i64 n,.string (za s)] 24 (0,0))
 pb:wr.heap[B]?=some (.cells #[.int .i64 a,.string (za b),.bool c,.int .i64 d,.bool f,.string (za g)] 55 (0,0))
 pt:wr.heap[T]?=some (.cells #[.string (za t)] 9 (0,0))
 hA:A<T
 hB:B<T
 hT:w.heap.size≤T
theorem PJ.step {w wr wx:World} {A B T:Nat} {k n:Int} {s:List UInt8} {a:Int} {b:List UInt8} {c:Bool} {d:Int} {f:Bool} {g t:List UInt8} (h:PJ w wr A B T k n s a b c d f g t) (hb:Below wr.heap.size wr wx):PJ w wx A B T k n s a b c d f g t :=
 ⟨Zw h.below hb,(hb.block _ (ZW h.pa)).trans h.pa,(hb.block _ (ZW h.pb)).trans h.pb,(hb.block _ (ZW h.pt)).trans h.pt,h.hA,h.hB,h.hT⟩
theorem PJ.add {w wr:World} {A B T:Nat} {k n:Int} {s:List UInt8} {a:Int} {b:List UInt8} {c:Bool} {d:Int} {f:Bool} {g t:List UInt8} (h:PJ w wr A B T k n s a b c d f g t) (u:List UInt8):PJ w (wr.setCell ⟨T,0,none⟩ (.string (za u))) A B T k n s a b c d f g u :=
 ⟨h.below.setCell h.hT _,by rw [Below.heap_setCell _ _ _ _ (by have:=h.hA;simp;omega)];exact h.pa,by rw [Below.heap_setCell _ _ _ _ (by have:=h.hB;simp;omega)];exact h.pb,Yk h.pt _,h.hA,h.hB,h.hT⟩
theorem xk (k n:Int) (s:List UInt8) (w:World) (hS:Yq w) :
  Calls Tryz.prog 9 #[Zz k n s] w fun e w'=>(yG yt k n s∧e=.returned (.tuple #[.string (za (yJ k n s)),.int .i64 0])∨¬ yG yt k n s∧e=.returned (.tuple #[.string ⟨#[]⟩,.int .i64 2]))∧Below w.heap.size w w':=by
 have HS:Hid (Yq w):=hS;have aA:∀(fn:Fn) (first cap:Array Value) (w:World),(Instr.makeFunc fn first cap).run Tryz.prog w=.ok (.func fn first cap) w:=fun _ _ _ _=>rfl
 obtain ⟨w1,al,V,ay,p0⟩:=yn w (.cells #[.int .i64 k,.int .i64 n,.string (za s)] 24 (0,0));have cc:=VX k n s w1 (hS.below V);obtain ⟨E,G,H,-⟩:=zh p0;have HP:Hid (Below w.heap.size w w1∧w1.heap[w.heap.size]?=some (.cells #[.int .i64 k,.int .i64 n,.string (za s)] 24 (0,0))):=⟨V,p0⟩;have ap:=al.symm
 unfold Zz at cc ⊢
 clear hS V al p0 ay
 go_enter Tryz.func9,Tryz.ntmps9
 go_wp2_with fail
 refine cc.mono ?_;clear cc E G H ap;rintro e w2 ⟨⟨am,rfl⟩ | ⟨au,rfl⟩,ae⟩
 ·obtain ⟨V,p0⟩:=HP.out
  have aj:w2.heap[w.heap.size]?=_:=(ae.block _ (ZW p0)).trans p0;obtain ⟨E,G,H,-⟩:=zh aj;have af:Hid (Below w.heap.size w w2∧w2.heap[w.heap.size]?=some (.cells #[.int .i64 k,.int .i64 n,.string (za s)] 24 (0,0))):=⟨Zw V ae,aj⟩;have Z:Hid (yG yt k n s):=am;have cw:=YX k w2;clear HP V ae p0 aj am;go_wp2_with fail
  refine cw.mono ?_;clear cw E G H;rintro e D ⟨rfl,ai⟩;have ah:Hid (s.length≤255):=xY Z.out;have o:Hid ((ofKind k).2.1.length≤20∧(ofKind k).2.2.2.2.2.length≤20∧0≤(ofKind k).2.2.2.1):=Xp k;have A:Hid ((ofKind k).2.2.1=true→(ofKind k).2.2.2.1≤n∧n≤4294967296):=Z.out.2.2.2.1;have aa:Hid (yJ k n s=(ofKind k).2.1++(if (ofKind k).2.2.1=true then 32::Lib.itoa n else [])++(if s≠[]∧(ofKind k).2.2.2.2.2≠[] then 32::(ofKind k).2.2.2.2.2 else [])++(if s≠[] then 32::s else [])):=rfl
  generalize ofKind k=r at o A aa ⊢;obtain ⟨a,b,c,d,f,g⟩:=r
  unfold wV
  simp only at o A aa ⊢;obtain ⟨w4,an,ad,ax,p4⟩:=yn D (.cells #[.int .i64 a,.string (za b),.bool c,.int .i64 d,.bool f,.string (za g)] 55 (0,0))
  have ak:Hid (Below w.heap.size w w4∧w4.heap[w.heap.size]?=some (.cells #[.int .i64 k,.int .i64 n,.string (za s)] 24 (0,0))∧w4.heap[D.heap.size]?=some (.cells #[.int .i64 a,.string (za b),.bool c,.int .i64 d,.bool f,.string (za g)] 55 (0,0))∧w.heap.size<w4.heap.size∧D.heap.size<w4.heap.size) :=
   ⟨Zw af.out.1 (Zw ai ad),((Zw ai ad).block _ (ZW af.out.2)).trans af.out.2,p4,by have:=ZW af.out.2;have:=ai.size;omega,by omega⟩
  have ck:=xj b w4 (by have:=o.out.1;omega)
  obtain ⟨I,Q,N,L,O,M,-⟩:=zr p4;have ar:=an.symm;clear af ai an ad ax p4;go_wp2_with fail
  refine ck.mono ?_;clear ck I Q N L O M ar;rintro e z ⟨rfl,ab⟩;obtain ⟨w6,aq,ag,aw,p6⟩:=yn z (.cells #[.string (za b)] 9 (0,0));obtain ⟨ad,pa,pb,ha,hb⟩:=ak.out
  have J:PJ w w6 w.heap.size D.heap.size z.heap.size k n s a b c d f g b :=
   ⟨Zw ad (Zw ab ag),((Zw ab ag).block _ (ZW pa)).trans pa,((Zw ab ag).block _ (ZW pb)).trans pb,p6,by have:=ab.size;omega,by have:=ab.size;omega,by have:=ab.size;omega⟩
  have y:Hid (PJ w w6 w.heap.size D.heap.size z.heap.size k n s a b c d f g b):=J;obtain ⟨E,G,H,-⟩:=zh J.pa;obtain ⟨I,Q,N,L,O,M,-⟩:=zr J.pb;have az:=aq.symm;clear ab ag aw p6 ad pa pb ha hb J ak aq;obtain ⟨T,-⟩:=zN y.out.pt;cases s with
  | nil =>
   cases c with
   | true =>
    have ci:=Tryz.strconv_Itoa n (by have:=A.out (by simp);have:=o.out.2.2;omega) (by have:=A.out (by simp);omega) w6 (HS.out.below y.out.below).1.2
    go_wp2_with fail
    refine ci.mono ?_;clear ci E G H I Q N L O M T;rintro e w7 ⟨rfl,kk,os,W⟩;have U:PJ w w7 w.heap.size D.heap.size z.heap.size k n [] a b true d f g (b):=y.out.step (by rw [W];exact Lib.below_grow _ _ (Nat.le_refl _) _ _)
    have X:Hid (PJ w w7 w.heap.size D.heap.size z.heap.size k n [] a b true d f g (b)):=U;have HI:Hid ((Lib.itoa n).length≤21):=Lib.itoa_length_le n (by have:=A.out (by simp);have:=o.out.2.2;omega) (by have:=A.out (by simp);omega)
    obtain ⟨E,G,H,-⟩:=zh U.pa;obtain ⟨I,Q,N,L,O,M,-⟩:=zr U.pb;obtain ⟨T,-⟩:=zN U.pt;have R:=ZF z.heap.size (b) (Lib.itoa n) w7 (by have:=o.out.1;omega) (by have:=HI.out;omega) U.pt
    clear W U y;go_wp2_with fail
    refine R.mono ?_;clear R E G H I Q N L O M T;rintro e Y ⟨rfl,K⟩;have J:PJ w Y w.heap.size D.heap.size z.heap.size k n [] a b true d f g (b++32::(Lib.itoa n)):=by rw [K];exact X.out.add _
    have y:Hid (PJ w Y w.heap.size D.heap.size z.heap.size k n [] a b true d f g (b++32::(Lib.itoa n))):=J;obtain ⟨E,G,H,-⟩:=zh J.pa;obtain ⟨I,Q,N,L,O,M,-⟩:=zr J.pb;obtain ⟨T,-⟩:=zN J.pt;clear K J X;have HT:Hid (yJ k n []=b++32::(Lib.itoa n)):=by show _=_;rw [aa.out];simp
    go_wp2
    go_ret2
    exact ⟨.inl ⟨Z.out,by rw [HT.out];first | rfl | simp⟩,y.out.below⟩
   | false =>
    have HT:Hid (yJ k n []=b):=by show _=_;rw [aa.out];simp
    go_wp2
    go_ret2
    exact ⟨.inl ⟨Z.out,by rw [HT.out];first | rfl | simp⟩,y.out.below⟩
  | cons s0 ss =>
   cases g with
   | nil =>
    cases c with
    | true =>
     have ci:=Tryz.strconv_Itoa n (by have:=A.out (by simp);have:=o.out.2.2;omega) (by have:=A.out (by simp);omega) w6 (HS.out.below y.out.below).1.2
     go_wp2_with fail
     refine ci.mono ?_;clear ci E G H I Q N L O M T;rintro e w7 ⟨rfl,kk,os,W⟩;have U:PJ w w7 w.heap.size D.heap.size z.heap.size k n (s0::ss) a b true d f [] (b):=y.out.step (by rw [W];exact Lib.below_grow _ _ (Nat.le_refl _) _ _)
     have X:Hid (PJ w w7 w.heap.size D.heap.size z.heap.size k n (s0::ss) a b true d f [] (b)):=U;have HI:Hid ((Lib.itoa n).length≤21):=Lib.itoa_length_le n (by have:=A.out (by simp);have:=o.out.2.2;omega) (by have:=A.out (by simp);omega)
     obtain ⟨E,G,H,-⟩:=zh U.pa;obtain ⟨I,Q,N,L,O,M,-⟩:=zr U.pb;obtain ⟨T,-⟩:=zN U.pt;have R:=ZF z.heap.size (b) (Lib.itoa n) w7 (by have:=o.out.1;omega) (by have:=HI.out;omega) U.pt
     clear W U y;go_wp2_with fail
     refine R.mono ?_;clear R E G H I Q N L O M T;rintro e Y ⟨rfl,K⟩;have J:PJ w Y w.heap.size D.heap.size z.heap.size k n (s0::ss) a b true d f [] (b++32::(Lib.itoa n)):=by rw [K];exact X.out.add _
     have y:Hid (PJ w Y w.heap.size D.heap.size z.heap.size k n (s0::ss) a b true d f [] (b++32::(Lib.itoa n))):=J;obtain ⟨E,G,H,-⟩:=zh J.pa;obtain ⟨I,Q,N,L,O,M,-⟩:=zr J.pb;obtain ⟨T,-⟩:=zN J.pt;clear K J X;have R:=ZF z.heap.size (b++32::(Lib.itoa n)) (s0::ss) Y (by have:=o.out.1;have:=o.out.2.1;have:=HI.out;simp only [List.length_append,List.length_cons] at *;omega) (by have:=ah.out;omega) y.out.pt
     go_wp2_with fail
     refine R.mono ?_;clear R E G H I Q N L O M T;rintro e w9 ⟨rfl,K⟩;have J:PJ w w9 w.heap.size D.heap.size z.heap.size k n (s0::ss) a b true d f [] (b++32::(Lib.itoa n)++32::(s0::ss)):=by rw [K];exact y.out.add _
     have y:Hid (PJ w w9 w.heap.size D.heap.size z.heap.size k n (s0::ss) a b true d f [] (b++32::(Lib.itoa n)++32::(s0::ss))):=J;obtain ⟨E,G,H,-⟩:=zh J.pa;obtain ⟨I,Q,N,L,O,M,-⟩:=zr J.pb;obtain ⟨T,-⟩:=zN J.pt;clear K J;have HT:Hid (yJ k n (s0::ss)=b++32::(Lib.itoa n)++32::(s0::ss)):=by show _=_;rw [aa.out];simp
     go_wp2
     go_ret2
     exact ⟨.inl ⟨Z.out,by rw [HT.out];first | rfl | simp⟩,y.out.below⟩
    | false =>
     have R:=ZF z.heap.size (b) (s0::ss) w6 (by have:=o.out.1;omega) (by have:=ah.out;omega) y.out.pt
     go_wp2_with fail
     refine R.mono ?_;clear R E G H I Q N L O M T;rintro e Y ⟨rfl,K⟩;have J:PJ w Y w.heap.size D.heap.size z.heap.size k n (s0::ss) a b false d f [] (b++32::(s0::ss)):=by rw [K];exact y.out.add _
     have y:Hid (PJ w Y w.heap.size D.heap.size z.heap.size k n (s0::ss) a b false d f [] (b++32::(s0::ss))):=J;obtain ⟨E,G,H,-⟩:=zh J.pa;obtain ⟨I,Q,N,L,O,M,-⟩:=zr J.pb;obtain ⟨T,-⟩:=zN J.pt;clear K J;have HT:Hid (yJ k n (s0::ss)=b++32::(s0::ss)):=by show _=_;rw [aa.out];simp
     go_wp2
     go_ret2
     exact ⟨.inl ⟨Z.out,by rw [HT.out];first | rfl | simp⟩,y.out.below⟩
   | cons g0 gs =>
    cases c with
    | true =>
     have ci:=Tryz.strconv_Itoa n (by have:=A.out (by simp);have:=o.out.2.2;omega) (by have:=A.out (by simp);omega) w6 (HS.out.below y.out.below).1.2
     go_wp2_with fail
     refine ci.mono ?_;clear ci E G H I Q N L O M T;rintro e w7 ⟨rfl,kk,os,W⟩;have U:PJ w w7 w.heap.size D.heap.size z.heap.size k n (s0::ss) a b true d f (g0::gs) (b):=y.out.step (by rw [W];exact Lib.below_grow _ _ (Nat.le_refl _) _ _)
     have X:Hid (PJ w w7 w.heap.size D.heap.size z.heap.size k n (s0::ss) a b true d f (g0::gs) (b)):=U;have HI:Hid ((Lib.itoa n).length≤21):=Lib.itoa_length_le n (by have:=A.out (by simp);have:=o.out.2.2;omega) (by have:=A.out (by simp);omega)
     obtain ⟨E,G,H,-⟩:=zh U.pa;obtain ⟨I,Q,N,L,O,M,-⟩:=zr U.pb;obtain ⟨T,-⟩:=zN U.pt;have R:=ZF z.heap.size (b) (Lib.itoa n) w7 (by have:=o.out.1;omega) (by have:=HI.out;omega) U.pt
     clear W U y;go_wp2_with fail
     refine R.mono ?_;clear R E G H I Q N L O M T;rintro e Y ⟨rfl,K⟩;have J:PJ w Y w.heap.size D.heap.size z.heap.size k n (s0::ss) a b true d f (g0::gs) (b++32::(Lib.itoa n)):=by rw [K];exact X.out.add _
     have y:Hid (PJ w Y w.heap.size D.heap.size z.heap.size k n (s0::ss) a b true d f (g0::gs) (b++32::(Lib.itoa n))):=J;obtain ⟨E,G,H,-⟩:=zh J.pa;obtain ⟨I,Q,N,L,O,M,-⟩:=zr J.pb;obtain ⟨T,-⟩:=zN J.pt;clear K J X;have R:=ZF z.heap.size (b++32::(Lib.itoa n)) (g0::gs) Y (by have:=o.out.1;have:=o.out.2.1;have:=HI.out;simp only [List.length_append,List.length_cons] at *;omega) (by have:=o.out.2.1;omega) y.out.pt
     go_wp2_with fail
     refine R.mono ?_;clear R E G H I Q N L O M T;rintro e w9 ⟨rfl,K⟩;have J:PJ w w9 w.heap.size D.heap.size z.heap.size k n (s0::ss) a b true d f (g0::gs) (b++32::(Lib.itoa n)++32::(g0::gs)):=by rw [K];exact y.out.add _
     have y:Hid (PJ w w9 w.heap.size D.heap.size z.heap.size k n (s0::ss) a b true d f (g0::gs) (b++32::(Lib.itoa n)++32::(g0::gs))):=J;obtain ⟨E,G,H,-⟩:=zh J.pa;obtain ⟨I,Q,N,L,O,M,-⟩:=zr J.pb;obtain ⟨T,-⟩:=zN J.pt;clear K J;have R:=ZF z.heap.size (b++32::(Lib.itoa n)++32::(g0::gs)) (s0::ss) w9 (by have:=o.out.1;have:=o.out.2.1;have:=HI.out;simp only [List.length_append,List.length_cons] at *;omega) (by have:=ah.out;omega) y.out.pt
     go_wp2_with fail
     refine R.mono ?_;clear R E G H I Q N L O M T;rintro e ao ⟨rfl,K⟩;have J:PJ w ao w.heap.size D.heap.size z.heap.size k n (s0::ss) a b true d f (g0::gs) (b++32::(Lib.itoa n)++32::(g0::gs)++32::(s0::ss)):=by rw [K];exact y.out.add _
     have y:Hid (PJ w ao w.heap.size D.heap.size z.heap.size k n (s0::ss) a b true d f (g0::gs) (b++32::(Lib.itoa n)++32::(g0::gs)++32::(s0::ss))):=J;obtain ⟨E,G,H,-⟩:=zh J.pa;obtain ⟨I,Q,N,L,O,M,-⟩:=zr J.pb;obtain ⟨T,-⟩:=zN J.pt;clear K J;have HT:Hid (yJ k n (s0::ss)=b++32::(Lib.itoa n)++32::(g0::gs)++32::(s0::ss)):=by show _=_;rw [aa.out];simp
     go_wp2
     go_ret2
     exact ⟨.inl ⟨Z.out,by rw [HT.out];first | rfl | simp⟩,y.out.below⟩
    | false =>
     have R:=ZF z.heap.size (b) (g0::gs) w6 (by have:=o.out.1;omega) (by have:=o.out.2.1;omega) y.out.pt
     go_wp2_with fail
     refine R.mono ?_;clear R E G H I Q N L O M T;rintro e Y ⟨rfl,K⟩;have J:PJ w Y w.heap.size D.heap.size z.heap.size k n (s0::ss) a b false d f (g0::gs) (b++32::(g0::gs)):=by rw [K];exact y.out.add _
     have y:Hid (PJ w Y w.heap.size D.heap.size z.heap.size k n (s0::ss) a b false d f (g0::gs) (b++32::(g0::gs))):=J;obtain ⟨E,G,H,-⟩:=zh J.pa;obtain ⟨I,Q,N,L,O,M,-⟩:=zr J.pb;obtain ⟨T,-⟩:=zN J.pt;clear K J;have R:=ZF z.heap.size (b++32::(g0::gs)) (s0::ss) Y (by have:=o.out.1;have:=o.out.2.1;simp only [List.length_append,List.length_cons] at *;omega) (by have:=ah.out;omega) y.out.pt
     go_wp2_with fail
     refine R.mono ?_;clear R E G H I Q N L O M T;rintro e w9 ⟨rfl,K⟩;have J:PJ w w9 w.heap.size D.heap.size z.heap.size k n (s0::ss) a b false d f (g0::gs) (b++32::(g0::gs)++32::(s0::ss)):=by rw [K];exact y.out.add _
     have y:Hid (PJ w w9 w.heap.size D.heap.size z.heap.size k n (s0::ss) a b false d f (g0::gs) (b++32::(g0::gs)++32::(s0::ss))):=J;obtain ⟨E,G,H,-⟩:=zh J.pa;obtain ⟨I,Q,N,L,O,M,-⟩:=zr J.pb;obtain ⟨T,-⟩:=zN J.pt;clear K J;have HT:Hid (yJ k n (s0::ss)=b++32::(g0::gs)++32::(s0::ss)):=by show _=_;rw [aa.out];simp
     go_wp2
     go_ret2
     exact ⟨.inl ⟨Z.out,by rw [HT.out];first | rfl | simp⟩,y.out.below⟩
 ·obtain ⟨V,p0⟩:=HP.out
  have av:Hid (Below w.heap.size w w2):=Zw V ae;have HN:Hid (¬ yG yt k n s):=au;clear V p0 ae au HP;go_wp2
  go_ret2
  exact ⟨.inr ⟨HN.out,rfl⟩,av.out⟩
end Go.Proofs.YtmbofhpmockmbaaGreatDoor
