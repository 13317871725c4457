import Derived.Test.YtmbofhpmockmbaaGreatDoorMC40
import Derived.Lib.ItoaLen
namespace Go.Proofs.YtmbofhpmockmbaaGreatDoor
open Go.RowKit Go.Shelf
set_option maxHeartbeats 16000000
set_option maxRecDepth 100000
theorem vP (a b:List UInt8):za a++za b=za (a++b):=by
 apply ByteArray.ext
 rw [ByteArray.data_append]
 simp
theorem ZN (g:Nat) (t p:List UInt8) (w:World) (ht:t.length≤1000000) (hp:p.length≤1000000) (hg:w.heap[g]?=some (.cells #[.string (za t)] 9 (0,0))) :
  Calls Tryz.prog 26 #[.string (za p),.pointer (some ⟨g,0,none⟩)] w fun e w'=>e=.returned (.tuple #[])∧w'=w.setCell ⟨g,0,none⟩ (.string (za (t++32::p))):=by
 obtain ⟨E,D⟩:=zV hg;have y:(⟨#[32]⟩:ByteArray)++za p=za (32::p):=vP [32] p;have G:za t++za (32::p)=za (t++32::p):=vP t _;have z:(za p).size=p.length:=rfl;have o:(za t).size=t.length:=rfl;have A:(za (32::p)).size=p.length+1:=rfl;clear hg
 go_enter Tryz.func26,Tryz.ntmps26
 go_wp2
 go_end0
 exact ⟨rfl,rfl⟩
theorem xN (s:List UInt8) (w:World) (hs:s.length≤1000000):Calls Tryz.prog 25 #[.string (za s)] w fun e w'=>e=.returned (.string (za s))∧Below w.heap.size w w':=by
 have o:=Tryz.stringslite_Clone (za s) w (by show s.length≤_;omega)
 go_enter Tryz.func25,Tryz.ntmps25
 go_wp2_with fail
 refine o.mono ?_;clear o;rintro e z ⟨rfl,y⟩;go_wp2
 go_ret
 exact ⟨rfl,y⟩
theorem XX (k:Int):(ofKind k).2.1.length≤20∧(ofKind k).2.2.2.2.2.length≤20∧0≤(ofKind k).2.2.2.1:=by
 by_cases hk:k<1∨17<k
 ·rw [YV k hk];decide
 ·exact vr (P:=fun k=>(ofKind k).2.1.length≤20∧(ofKind k).2.2.2.2.2.length≤20∧0≤(ofKind k).2.2.2.1) (by decide) (by decide) (by decide) (by decide) (by decide) (by decide) (by decide) (by decide) (by decide) (by decide) (by decide) (by decide) (by decide) (by decide) (by decide) (by decide) (by decide) k (by omega) (by omega)
theorem XC {k n:Int} {s:List UInt8} (h:yP yC k n s):s.length≤255:=by
 cases hf:(ofKind k).2.2.2.2.1 with
 | false=>rw [h.2.2.1 hf];exact Nat.zero_le _
 | true =>
  rcases h.2.2.2.2 hf with h | h
  ·rw [h.1];exact Nat.zero_le _
  ·exact h.1
structure PJ (w wr:World) (A B T:Nat) (k n:Int) (s:List UInt8) (a:Int) (b:List UInt8) (c:Bool) (d:Int) (f:Bool) (g t:List UInt8):Prop where
 below:Below w.heap.size w wr
 pa:wr.heap[A]?=some (.cells #[.int .i64 k,.int .i64 n,.string (za s)] 24 (0,0))
 pb:wr.heap[B]?=some (.cells #[.int .i64 a,.string (za b),.bool c,.int .i64 d,.bool f,.string (za g)] 55 (0,0))
 pt:wr.heap[T]?=some (.cells #[.string (za t)] 9 (0,0))
 hA:A<T
 hB:B<T
 hT:w.heap.size≤T
theorem PJ.step {w wr wx:World} {A B T:Nat} {k n:Int} {s:List UInt8} {a:Int} {b:List UInt8} {c:Bool} {d:Int} {f:Bool} {g t:List UInt8} (h:PJ w wr A B T k n s a b c d f g t) (hb:Below wr.heap.size wr wx):PJ w wx A B T k n s a b c d f g t :=
 ⟨ZA h.below hb,(hb.block _ (Zl h.pa)).trans h.pa,(hb.block _ (Zl h.pb)).trans h.pb,(hb.block _ (Zl h.pt)).trans h.pt,h.hA,h.hB,h.hT⟩
theorem PJ.add {w wr:World} {A B T:Nat} {k n:Int} {s:List UInt8} {a:Int} {b:List UInt8} {c:Bool} {d:Int} {f:Bool} {g t:List UInt8} (h:PJ w wr A B T k n s a b c d f g t) (u:List UInt8):PJ w (wr.setCell ⟨T,0,none⟩ (.string (za u))) A B T k n s a b c d f g u :=
 ⟨h.below.setCell h.hT _,by rw [Below.heap_setCell _ _ _ _ (by have:=h.hA;simp;omega)];exact h.pa,by rw [Below.heap_setCell _ _ _ _ (by have:=h.hB;simp;omega)];exact h.pb,YH h.pt _,h.hA,h.hB,h.hT⟩
theorem xO (k n:Int) (s:List UInt8) (w:World) (hS:YQ w) :
  Calls Tryz.prog 9 #[ZH k n s] w fun e w'=>(yP yC k n s∧e=.returned (.tuple #[.string (za (yV k n s)),.int .i64 0])∨¬ yP yC k n s∧e=.returned (.tuple #[.string ⟨#[]⟩,.int .i64 2]))∧Below w.heap.size w w':=by
 have HS:Hid (YQ w):=hS;have aB:∀(fn:Fn) (first cap:Array Value) (w:World),(Instr.makeFunc fn first cap).run Tryz.prog w=.ok (.func fn first cap) w:=fun _ _ _ _=>rfl
 obtain ⟨w1,aq,W,ax,p0⟩:=ZY w (.cells #[.int .i64 k,.int .i64 n,.string (za s)] 24 (0,0));have cc:=uF k n s w1 (hS.below W);obtain ⟨E,G,H,-⟩:=ze p0;have HP:Hid (Below w.heap.size w w1∧w1.heap[w.heap.size]?=some (.cells #[.int .i64 k,.int .i64 n,.string (za s)] 24 (0,0))):=⟨W,p0⟩;have au:=aq.symm
 unfold ZH at cc ⊢
 clear hS W aq p0 ax
 go_enter Tryz.func9,Tryz.ntmps9
 go_wp2_with fail
 refine cc.mono ?_;clear cc E G H au;rintro e w2 ⟨⟨ap,rfl⟩ | ⟨av,rfl⟩,af⟩
 ·obtain ⟨W,p0⟩:=HP.out
  have ak:w2.heap[w.heap.size]?=_:=(af.block _ (Zl p0)).trans p0;obtain ⟨E,G,H,-⟩:=ze ak;have ag:Hid (Below w.heap.size w w2∧w2.heap[w.heap.size]?=some (.cells #[.int .i64 k,.int .i64 n,.string (za s)] 24 (0,0))):=⟨ZA W af,ak⟩;have Z:Hid (yP yC k n s):=ap;have cw:=xt k w2;clear HP W af p0 ak ap;go_wp2_with fail
  refine cw.mono ?_;clear cw E G H;rintro e D ⟨rfl,aj⟩;have ah:Hid (s.length≤255):=XC Z.out;have o:Hid ((ofKind k).2.1.length≤20∧(ofKind k).2.2.2.2.2.length≤20∧0≤(ofKind k).2.2.2.1):=XX k;have A:Hid ((ofKind k).2.2.1=true→(ofKind k).2.2.2.1≤n∧n≤4294967296):=Z.out.2.2.2.1;have aa:Hid (yV k n s=(ofKind k).2.1++(if (ofKind k).2.2.1=true then 32::Lib.itoa n else [])++(if s≠[]∧(ofKind k).2.2.2.2.2≠[] then 32::(ofKind k).2.2.2.2.2 else [])++(if s≠[] then 32::s else [])):=rfl
  generalize ofKind k=r at o A aa ⊢;obtain ⟨a,b,c,d,f,g⟩:=r
  unfold wV
  simp only at o A aa ⊢;obtain ⟨w4,am,ae,aw,p4⟩:=ZY D (.cells #[.int .i64 a,.string (za b),.bool c,.int .i64 d,.bool f,.string (za g)] 55 (0,0))
  have al:Hid (Below w.heap.size w w4∧w4.heap[w.heap.size]?=some (.cells #[.int .i64 k,.int .i64 n,.string (za s)] 24 (0,0))∧w4.heap[D.heap.size]?=some (.cells #[.int .i64 a,.string (za b),.bool c,.int .i64 d,.bool f,.string (za g)] 55 (0,0))∧w.heap.size<w4.heap.size∧D.heap.size<w4.heap.size) :=
   ⟨ZA ag.out.1 (ZA aj ae),((ZA aj ae).block _ (Zl ag.out.2)).trans ag.out.2,p4,by have:=Zl ag.out.2;have:=aj.size;omega,by omega⟩
  have ck:=xN b w4 (by have:=o.out.1;omega)
  obtain ⟨R,T,Q,K,O,I,-⟩:=zu p4;have an:=am.symm;clear ag aj am ae aw p4;go_wp2_with fail
  refine ck.mono ?_;clear ck R T Q K O I an;rintro e z ⟨rfl,ad⟩;obtain ⟨w6,ao,ai,ay,p6⟩:=ZY z (.cells #[.string (za b)] 9 (0,0));obtain ⟨ae,pa,pb,ha,hb⟩:=al.out
  have J:PJ w w6 w.heap.size D.heap.size z.heap.size k n s a b c d f g b :=
   ⟨ZA ae (ZA ad ai),((ZA ad ai).block _ (Zl pa)).trans pa,((ZA ad ai).block _ (Zl pb)).trans pb,p6,by have:=ad.size;omega,by have:=ad.size;omega,by have:=ad.size;omega⟩
  have y:Hid (PJ w w6 w.heap.size D.heap.size z.heap.size k n s a b c d f g b):=J;obtain ⟨E,G,H,-⟩:=ze J.pa;obtain ⟨R,T,Q,K,O,I,-⟩:=zu J.pb;have aA:=ao.symm;clear ad ai ay p6 ae pa pb ha hb J al ao;obtain ⟨U,-⟩:=zV y.out.pt;cases s with
  | nil =>
   cases c with
   | true =>
    have ci:=Tryz.strconv_Itoa n (by have:=A.out (by simp);have:=o.out.2.2;omega) (by have:=A.out (by simp);omega) w6 (HS.out.below y.out.below).1.2
    go_wp2_with fail
    refine ci.mono ?_;clear ci E G H R T Q K O I U;rintro e w7 ⟨rfl,kk,os,ab⟩;have V:PJ w w7 w.heap.size D.heap.size z.heap.size k n [] a b true d f g (b):=y.out.step (by rw [ab];exact Lib.below_grow _ _ (Nat.le_refl _) _ _)
    have Y:Hid (PJ w w7 w.heap.size D.heap.size z.heap.size k n [] a b true d f g (b)):=V;have HI:Hid ((Lib.itoa n).length≤21):=Lib.itoa_length_le n (by have:=A.out (by simp);have:=o.out.2.2;omega) (by have:=A.out (by simp);omega)
    obtain ⟨E,G,H,-⟩:=ze V.pa;obtain ⟨R,T,Q,K,O,I,-⟩:=zu V.pb;obtain ⟨U,-⟩:=zV V.pt;have L:=ZN z.heap.size (b) (Lib.itoa n) w7 (by have:=o.out.1;omega) (by have:=HI.out;omega) V.pt
    clear ab V y;go_wp2_with fail
    refine L.mono ?_;clear L E G H R T Q K O I U;rintro e X ⟨rfl,M⟩;have J:PJ w X w.heap.size D.heap.size z.heap.size k n [] a b true d f g (b++32::(Lib.itoa n)):=by rw [M];exact Y.out.add _
    have y:Hid (PJ w X w.heap.size D.heap.size z.heap.size k n [] a b true d f g (b++32::(Lib.itoa n))):=J;obtain ⟨E,G,H,-⟩:=ze J.pa;obtain ⟨R,T,Q,K,O,I,-⟩:=zu J.pb;obtain ⟨U,-⟩:=zV J.pt;clear M J Y;have HT:Hid (yV k n []=b++32::(Lib.itoa n)):=by show _=_;rw [aa.out];simp
    go_wp2
    go_ret2
    exact ⟨.inl ⟨Z.out,by rw [HT.out];first | rfl | simp⟩,y.out.below⟩
   | false =>
    have HT:Hid (yV k n []=b):=by show _=_;rw [aa.out];simp
    go_wp2
    go_ret2
    exact ⟨.inl ⟨Z.out,by rw [HT.out];first | rfl | simp⟩,y.out.below⟩
  | cons s0 ss =>
   cases g with
   | nil =>
    cases c with
    | true =>
     have ci:=Tryz.strconv_Itoa n (by have:=A.out (by simp);have:=o.out.2.2;omega) (by have:=A.out (by simp);omega) w6 (HS.out.below y.out.below).1.2
     go_wp2_with fail
     refine ci.mono ?_;clear ci E G H R T Q K O I U;rintro e w7 ⟨rfl,kk,os,ab⟩;have V:PJ w w7 w.heap.size D.heap.size z.heap.size k n (s0::ss) a b true d f [] (b):=y.out.step (by rw [ab];exact Lib.below_grow _ _ (Nat.le_refl _) _ _)
     have Y:Hid (PJ w w7 w.heap.size D.heap.size z.heap.size k n (s0::ss) a b true d f [] (b)):=V;have HI:Hid ((Lib.itoa n).length≤21):=Lib.itoa_length_le n (by have:=A.out (by simp);have:=o.out.2.2;omega) (by have:=A.out (by simp);omega)
     obtain ⟨E,G,H,-⟩:=ze V.pa;obtain ⟨R,T,Q,K,O,I,-⟩:=zu V.pb;obtain ⟨U,-⟩:=zV V.pt;have L:=ZN z.heap.size (b) (Lib.itoa n) w7 (by have:=o.out.1;omega) (by have:=HI.out;omega) V.pt
     clear ab V y;go_wp2_with fail
     refine L.mono ?_;clear L E G H R T Q K O I U;rintro e X ⟨rfl,M⟩;have J:PJ w X w.heap.size D.heap.size z.heap.size k n (s0::ss) a b true d f [] (b++32::(Lib.itoa n)):=by rw [M];exact Y.out.add _
     have y:Hid (PJ w X w.heap.size D.heap.size z.heap.size k n (s0::ss) a b true d f [] (b++32::(Lib.itoa n))):=J;obtain ⟨E,G,H,-⟩:=ze J.pa;obtain ⟨R,T,Q,K,O,I,-⟩:=zu J.pb;obtain ⟨U,-⟩:=zV J.pt;clear M J Y;have L:=ZN z.heap.size (b++32::(Lib.itoa n)) (s0::ss) X (by have:=o.out.1;have:=o.out.2.1;have:=HI.out;simp only [List.length_append,List.length_cons] at *;omega) (by have:=ah.out;omega) y.out.pt
     go_wp2_with fail
     refine L.mono ?_;clear L E G H R T Q K O I U;rintro e w9 ⟨rfl,M⟩;have J:PJ w w9 w.heap.size D.heap.size z.heap.size k n (s0::ss) a b true d f [] (b++32::(Lib.itoa n)++32::(s0::ss)):=by rw [M];exact y.out.add _
     have y:Hid (PJ w w9 w.heap.size D.heap.size z.heap.size k n (s0::ss) a b true d f [] (b++32::(Lib.itoa n)++32::(s0::ss))):=J;obtain ⟨E,G,H,-⟩:=ze J.pa;obtain ⟨R,T,Q,K,O,I,-⟩:=zu J.pb;obtain ⟨U,-⟩:=zV J.pt;clear M J;have HT:Hid (yV k n (s0::ss)=b++32::(Lib.itoa n)++32::(s0::ss)):=by show _=_;rw [aa.out];simp
     go_wp2
     go_ret2
     exact ⟨.inl ⟨Z.out,by rw [HT.out];first | rfl | simp⟩,y.out.below⟩
    | false =>
     have L:=ZN z.heap.size (b) (s0::ss) w6 (by have:=o.out.1;omega) (by have:=ah.out;omega) y.out.pt
     go_wp2_with fail
     refine L.mono ?_;clear L E G H R T Q K O I U;rintro e X ⟨rfl,M⟩;have J:PJ w X w.heap.size D.heap.size z.heap.size k n (s0::ss) a b false d f [] (b++32::(s0::ss)):=by rw [M];exact y.out.add _
     have y:Hid (PJ w X w.heap.size D.heap.size z.heap.size k n (s0::ss) a b false d f [] (b++32::(s0::ss))):=J;obtain ⟨E,G,H,-⟩:=ze J.pa;obtain ⟨R,T,Q,K,O,I,-⟩:=zu J.pb;obtain ⟨U,-⟩:=zV J.pt;clear M J;have HT:Hid (yV k n (s0::ss)=b++32::(s0::ss)):=by show _=_;rw [aa.out];simp
     go_wp2
     go_ret2
     exact ⟨.inl ⟨Z.out,by rw [HT.out];first | rfl | simp⟩,y.out.below⟩
   | cons g0 gs =>
    cases c with
    | true =>
     have ci:=Tryz.strconv_Itoa n (by have:=A.out (by simp);have:=o.out.2.2;omega) (by have:=A.out (by simp);omega) w6 (HS.out.below y.out.below).1.2
     go_wp2_with fail
     refine ci.mono ?_;clear ci E G H R T Q K O I U;rintro e w7 ⟨rfl,kk,os,ab⟩;have V:PJ w w7 w.heap.size D.heap.size z.heap.size k n (s0::ss) a b true d f (g0::gs) (b):=y.out.step (by rw [ab];exact Lib.below_grow _ _ (Nat.le_refl _) _ _)
     have Y:Hid (PJ w w7 w.heap.size D.heap.size z.heap.size k n (s0::ss) a b true d f (g0::gs) (b)):=V;have HI:Hid ((Lib.itoa n).length≤21):=Lib.itoa_length_le n (by have:=A.out (by simp);have:=o.out.2.2;omega) (by have:=A.out (by simp);omega)
     obtain ⟨E,G,H,-⟩:=ze V.pa;obtain ⟨R,T,Q,K,O,I,-⟩:=zu V.pb;obtain ⟨U,-⟩:=zV V.pt;have L:=ZN z.heap.size (b) (Lib.itoa n) w7 (by have:=o.out.1;omega) (by have:=HI.out;omega) V.pt
     clear ab V y;go_wp2_with fail
     refine L.mono ?_;clear L E G H R T Q K O I U;rintro e X ⟨rfl,M⟩;have J:PJ w X w.heap.size D.heap.size z.heap.size k n (s0::ss) a b true d f (g0::gs) (b++32::(Lib.itoa n)):=by rw [M];exact Y.out.add _
     have y:Hid (PJ w X w.heap.size D.heap.size z.heap.size k n (s0::ss) a b true d f (g0::gs) (b++32::(Lib.itoa n))):=J;obtain ⟨E,G,H,-⟩:=ze J.pa;obtain ⟨R,T,Q,K,O,I,-⟩:=zu J.pb;obtain ⟨U,-⟩:=zV J.pt;clear M J Y;have L:=ZN z.heap.size (b++32::(Lib.itoa n)) (g0::gs) X (by have:=o.out.1;have:=o.out.2.1;have:=HI.out;simp only [List.length_append,List.length_cons] at *;omega) (by have:=o.out.2.1;omega) y.out.pt
     go_wp2_with fail
     refine L.mono ?_;clear L E G H R T Q K O I U;rintro e w9 ⟨rfl,M⟩;have J:PJ w w9 w.heap.size D.heap.size z.heap.size k n (s0::ss) a b true d f (g0::gs) (b++32::(Lib.itoa n)++32::(g0::gs)):=by rw [M];exact y.out.add _
     have y:Hid (PJ w w9 w.heap.size D.heap.size z.heap.size k n (s0::ss) a b true d f (g0::gs) (b++32::(Lib.itoa n)++32::(g0::gs))):=J;obtain ⟨E,G,H,-⟩:=ze J.pa;obtain ⟨R,T,Q,K,O,I,-⟩:=zu J.pb;obtain ⟨U,-⟩:=zV J.pt;clear M J;have L:=ZN z.heap.size (b++32::(Lib.itoa n)++32::(g0::gs)) (s0::ss) w9 (by have:=o.out.1;have:=o.out.2.1;have:=HI.out;simp only [List.length_append,List.length_cons] at *;omega) (by have:=ah.out;omega) y.out.pt
     go_wp2_with fail
     refine L.mono ?_;clear L E G H R T Q K O I U;rintro e ar ⟨rfl,M⟩;have J:PJ w ar w.heap.size D.heap.size z.heap.size k n (s0::ss) a b true d f (g0::gs) (b++32::(Lib.itoa n)++32::(g0::gs)++32::(s0::ss)):=by rw [M];exact y.out.add _
     have y:Hid (PJ w ar w.heap.size D.heap.size z.heap.size k n (s0::ss) a b true d f (g0::gs) (b++32::(Lib.itoa n)++32::(g0::gs)++32::(s0::ss))):=J;obtain ⟨E,G,H,-⟩:=ze J.pa;obtain ⟨R,T,Q,K,O,I,-⟩:=zu J.pb;obtain ⟨U,-⟩:=zV J.pt;clear M J;have HT:Hid (yV k n (s0::ss)=b++32::(Lib.itoa n)++32::(g0::gs)++32::(s0::ss)):=by show _=_;rw [aa.out];simp
     go_wp2
     go_ret2
     exact ⟨.inl ⟨Z.out,by rw [HT.out];first | rfl | simp⟩,y.out.below⟩
    | false =>
     have L:=ZN z.heap.size (b) (g0::gs) w6 (by have:=o.out.1;omega) (by have:=o.out.2.1;omega) y.out.pt
     go_wp2_with fail
     refine L.mono ?_;clear L E G H R T Q K O I U;rintro e X ⟨rfl,M⟩;have J:PJ w X w.heap.size D.heap.size z.heap.size k n (s0::ss) a b false d f (g0::gs) (b++32::(g0::gs)):=by rw [M];exact y.out.add _
     have y:Hid (PJ w X w.heap.size D.heap.size z.heap.size k n (s0::ss) a b false d f (g0::gs) (b++32::(g0::gs))):=J;obtain ⟨E,G,H,-⟩:=ze J.pa;obtain ⟨R,T,Q,K,O,I,-⟩:=zu J.pb;obtain ⟨U,-⟩:=zV J.pt;clear M J;have L:=ZN z.heap.size (b++32::(g0::gs)) (s0::ss) X (by have:=o.out.1;have:=o.out.2.1;simp only [List.length_append,List.length_cons] at *;omega) (by have:=ah.out;omega) y.out.pt
     go_wp2_with fail
     refine L.mono ?_;clear L E G H R T Q K O I U;rintro e w9 ⟨rfl,M⟩;have J:PJ w w9 w.heap.size D.heap.size z.heap.size k n (s0::ss) a b false d f (g0::gs) (b++32::(g0::gs)++32::(s0::ss)):=by rw [M];exact y.out.add _
     have y:Hid (PJ w w9 w.heap.size D.heap.size z.heap.size k n (s0::ss) a b false d f (g0::gs) (b++32::(g0::gs)++32::(s0::ss))):=J;obtain ⟨E,G,H,-⟩:=ze J.pa;obtain ⟨R,T,Q,K,O,I,-⟩:=zu J.pb;obtain ⟨U,-⟩:=zV J.pt;clear M J;have HT:Hid (yV k n (s0::ss)=b++32::(g0::gs)++32::(s0::ss)):=by show _=_;rw [aa.out];simp
     go_wp2
     go_ret2
     exact ⟨.inl ⟨Z.out,by rw [HT.out];first | rfl | simp⟩,y.out.below⟩
 ·obtain ⟨W,p0⟩:=HP.out
  have az:Hid (Below w.heap.size w w2):=ZA W af;have HN:Hid (¬ yP yC k n s):=av;clear W p0 af av HP;go_wp2
  go_ret2
  exact ⟨.inr ⟨HN.out,rfl⟩,az.out⟩
end Go.Proofs.YtmbofhpmockmbaaGreatDoor
