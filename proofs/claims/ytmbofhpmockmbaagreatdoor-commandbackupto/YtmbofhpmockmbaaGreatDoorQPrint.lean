import Derived.Test.YtmbofhpmockmbaaGreatDoorQCheck
import Derived.Lib.ItoaLen
namespace Go.Proofs.YtmbofhpmockmbaaGreatDoor
open Go.RowKit Go.Shelf
set_option maxHeartbeats 16000000
set_option maxRecDepth 100000
theorem xY (a b:List UInt8):za a++za b=za (a++b):=by
 apply ByteArray.ext
 rw [ByteArray.data_append]
 simp
theorem Zr (g:Nat) (t p:List UInt8) (w:World) (ht:t.length≤1000000) (hp:p.length≤1000000) (hg:w.heap[g]?=some (.cells #[.string (za t)] 9 (0,0))) :
  Calls Tryz.prog 26 #[.string (za p),.pointer (some ⟨g,0,none⟩)] w fun e w'=>e=.returned (.tuple #[])∧w'=w.setCell ⟨g,0,none⟩ (.string (za (t++32::p))):=by
 obtain ⟨h,o⟩:=zL hg;have x:(⟨#[32]⟩:ByteArray)++za p=za (32::p):=xY [32] p;have y:za t++za (32::p)=za (t++32::p):=xY t _;have z:(za p).size=p.length:=rfl;have D:(za t).size=t.length:=rfl;have A:(za (32::p)).size=p.length+1:=rfl;clear hg
 go_enter Tryz.func26,Tryz.ntmps26
 go_wp2
 go_end0
 exact ⟨rfl,rfl⟩
theorem Yx (s:List UInt8) (w:World) (hs:s.length≤1000000):Calls Tryz.prog 25 #[.string (za s)] w fun e w'=>e=.returned (.string (za s))∧Below w.heap.size w w':=by
 have h:=Tryz.stringslite_Clone (za s) w (by show s.length≤_;omega)
 go_enter Tryz.func25,Tryz.ntmps25
 go_wp2_with fail
 refine h.mono ?_;clear h;rintro e x ⟨rfl,o⟩;go_wp2
 go_ret
 exact ⟨rfl,o⟩
theorem yH (k:Int):(ofKind k).2.1.length≤20∧(ofKind k).2.2.2.2.2.length≤20∧0≤(ofKind k).2.2.2.1:=by
 by_cases hk:k<1∨17<k
 ·rw [yh k hk];decide
 ·exact Yd (P:=fun k=>(ofKind k).2.1.length≤20∧(ofKind k).2.2.2.2.2.length≤20∧0≤(ofKind k).2.2.2.1) (by decide) (by decide) (by decide) (by decide) (by decide) (by decide) (by decide) (by decide) (by decide) (by decide) (by decide) (by decide) (by decide) (by decide) (by decide) (by decide) (by decide) k (by omega) (by omega)
theorem yS {k n:Int} {s:List UInt8} (h:ZG ZN k n s):s.length≤255:=by
 cases hf:(ofKind k).2.2.2.2.1 with
 | false=>rw [h.2.2.1 hf];exact Nat.zero_le _
 | true =>
  rcases h.2.2.2.2 hf with h | h
  ·rw [h.1];exact Nat.zero_le _
  ·exact h.1
structure PJ (w wr:World) (A B T:Nat) (k n:Int) (s:List UInt8) (a:Int) (b:List UInt8) (c:Bool) (d:Int) (f:Bool) (g t:List UInt8):Prop where
 below:Below w.heap.size w wr
 pa:wr.heap[A]?=some (.cells #[.int .i64 k,.int .i64 n,.string (za s)] 24 (0,0))
 pb:wr.heap[B]?=some (.cells #[.int .i64 a,.string (za b),.bool c,.int .i64 d,.bool f,.string (za g)] 55 (0,0))
 pt:wr.heap[T]?=some (.cells #[.string (za t)] 9 (0,0))
 hA:A<T
 hB:B<T
 hT:w.heap.size≤T
theorem PJ.step {w wr wx:World} {A B T:Nat} {k n:Int} {s:List UInt8} {a:Int} {b:List UInt8} {c:Bool} {d:Int} {f:Bool} {g t:List UInt8} (h:PJ w wr A B T k n s a b c d f g t) (hb:Below wr.heap.size wr wx):PJ w wx A B T k n s a b c d f g t :=
 ⟨Zs h.below hb,(hb.block _ (yq h.pa)).trans h.pa,(hb.block _ (yq h.pb)).trans h.pb,(hb.block _ (yq h.pt)).trans h.pt,h.hA,h.hB,h.hT⟩
theorem PJ.add {w wr:World} {A B T:Nat} {k n:Int} {s:List UInt8} {a:Int} {b:List UInt8} {c:Bool} {d:Int} {f:Bool} {g t:List UInt8} (h:PJ w wr A B T k n s a b c d f g t) (u:List UInt8):PJ w (wr.setCell ⟨T,0,none⟩ (.string (za u))) A B T k n s a b c d f g u :=
 ⟨h.below.setCell h.hT _,by rw [Below.heap_setCell _ _ _ _ (by have:=h.hA;simp;omega)];exact h.pa,by rw [Below.heap_setCell _ _ _ _ (by have:=h.hB;simp;omega)];exact h.pb,yL h.pt _,h.hA,h.hB,h.hT⟩
theorem yb (k n:Int) (s:List UInt8) (w:World) (hS:yR w) :
  Calls Tryz.prog 9 #[ZS k n s] w fun e w'=>(ZG ZN k n s∧e=.returned (.tuple #[.string (za (Zt k n s)),.int .i64 0])∨¬ ZG ZN k n s∧e=.returned (.tuple #[.string ⟨#[]⟩,.int .i64 2]))∧Below w.heap.size w w':=by
 have HS:Hid (yR w):=hS;have ax:∀(fn:Fn) (first cap:Array Value) (w:World),(Instr.makeFunc fn first cap).run Tryz.prog w=.ok (.func fn first cap) w:=fun _ _ _ _=>rfl
 obtain ⟨w1,ak,S,av,p0⟩:=yd w (.cells #[.int .i64 k,.int .i64 n,.string (za s)] 24 (0,0));have cc:=Y2 k n s w1 (hS.below S);obtain ⟨A,E,D,-⟩:=zp p0;have HP:Hid (Below w.heap.size w w1∧w1.heap[w.heap.size]?=some (.cells #[.int .i64 k,.int .i64 n,.string (za s)] 24 (0,0))):=⟨S,p0⟩;have ah:=ak.symm
 unfold ZS at cc ⊢
 clear hS S ak p0 av
 go_enter Tryz.func9,Tryz.ntmps9
 go_wp2_with fail
 refine cc.mono ?_;clear cc A E D ah;rintro e w2 ⟨⟨an,rfl⟩ | ⟨ap,rfl⟩,aa⟩
 ·obtain ⟨S,p0⟩:=HP.out
  have ag:w2.heap[w.heap.size]?=_:=(aa.block _ (yq p0)).trans p0;obtain ⟨A,E,D,-⟩:=zp ag;have ab:Hid (Below w.heap.size w w2∧w2.heap[w.heap.size]?=some (.cells #[.int .i64 k,.int .i64 n,.string (za s)] 24 (0,0))):=⟨Zs S aa,ag⟩;have U:Hid (ZG ZN k n s):=an;have cw:=Yg k w2;clear HP S aa p0 ag an;go_wp2_with fail
  refine cw.mono ?_;clear cw A E D;rintro e z ⟨rfl,ad⟩;have ae:Hid (s.length≤255):=yS U.out;have h:Hid ((ofKind k).2.1.length≤20∧(ofKind k).2.2.2.2.2.length≤20∧0≤(ofKind k).2.2.2.1):=yH k;have y:Hid ((ofKind k).2.2.1=true→(ofKind k).2.2.2.1≤n∧n≤4294967296):=U.out.2.2.2.1;have W:Hid (Zt k n s=(ofKind k).2.1++(if (ofKind k).2.2.1=true then 32::Lib.itoa n else [])++(if s≠[]∧(ofKind k).2.2.2.2.2≠[] then 32::(ofKind k).2.2.2.2.2 else [])++(if s≠[] then 32::s else [])):=rfl
  generalize ofKind k=r at h y W ⊢;obtain ⟨a,b,c,d,f,g⟩:=r
  unfold wV
  simp only at h y W ⊢;obtain ⟨w4,ao,Z,au,p4⟩:=yd z (.cells #[.int .i64 a,.string (za b),.bool c,.int .i64 d,.bool f,.string (za g)] 55 (0,0))
  have al:Hid (Below w.heap.size w w4∧w4.heap[w.heap.size]?=some (.cells #[.int .i64 k,.int .i64 n,.string (za s)] 24 (0,0))∧w4.heap[z.heap.size]?=some (.cells #[.int .i64 a,.string (za b),.bool c,.int .i64 d,.bool f,.string (za g)] 55 (0,0))∧w.heap.size<w4.heap.size∧z.heap.size<w4.heap.size) :=
   ⟨Zs ab.out.1 (Zs ad Z),((Zs ad Z).block _ (yq ab.out.2)).trans ab.out.2,p4,by have:=yq ab.out.2;have:=ad.size;omega,by omega⟩
  have ck:=Yx b w4 (by have:=h.out.1;omega)
  obtain ⟨O,M,G,L,K,I,-⟩:=zq p4;have ai:=ao.symm;clear ab ad ao Z au p4;go_wp2_with fail
  refine ck.mono ?_;clear ck O M G L K I ai;rintro e x ⟨rfl,Y⟩;obtain ⟨w6,aj,af,aq,p6⟩:=yd x (.cells #[.string (za b)] 9 (0,0));obtain ⟨Z,pa,pb,ha,hb⟩:=al.out
  have J:PJ w w6 w.heap.size z.heap.size x.heap.size k n s a b c d f g b :=
   ⟨Zs Z (Zs Y af),((Zs Y af).block _ (yq pa)).trans pa,((Zs Y af).block _ (yq pb)).trans pb,p6,by have:=Y.size;omega,by have:=Y.size;omega,by have:=Y.size;omega⟩
  have o:Hid (PJ w w6 w.heap.size z.heap.size x.heap.size k n s a b c d f g b):=J;obtain ⟨A,E,D,-⟩:=zp J.pa;obtain ⟨O,M,G,L,K,I,-⟩:=zq J.pb;have aw:=aj.symm;clear Y af aq p6 Z pa pb ha hb J al aj;obtain ⟨Q,-⟩:=zL o.out.pt;cases s with
  | nil =>
   cases c with
   | true =>
    have ci:=Tryz.strconv_Itoa n (by have:=y.out (by simp);have:=h.out.2.2;omega) (by have:=y.out (by simp);omega) w6 (HS.out.below o.out.below).1.2
    go_wp2_with fail
    refine ci.mono ?_;clear ci A E D O M G L K I Q;rintro e w7 ⟨rfl,kk,os,V⟩;have R:PJ w w7 w.heap.size z.heap.size x.heap.size k n [] a b true d f g (b):=o.out.step (by rw [V];exact Lib.below_grow _ _ (Nat.le_refl _) _ _)
    have T:Hid (PJ w w7 w.heap.size z.heap.size x.heap.size k n [] a b true d f g (b)):=R;have HI:Hid ((Lib.itoa n).length≤21):=Lib.itoa_length_le n (by have:=y.out (by simp);have:=h.out.2.2;omega) (by have:=y.out (by simp);omega)
    obtain ⟨A,E,D,-⟩:=zp R.pa;obtain ⟨O,M,G,L,K,I,-⟩:=zq R.pb;obtain ⟨Q,-⟩:=zL R.pt;have N:=Zr x.heap.size (b) (Lib.itoa n) w7 (by have:=h.out.1;omega) (by have:=HI.out;omega) R.pt
    clear V R o;go_wp2_with fail
    refine N.mono ?_;clear N A E D O M G L K I Q;rintro e X ⟨rfl,H⟩;have J:PJ w X w.heap.size z.heap.size x.heap.size k n [] a b true d f g (b++32::(Lib.itoa n)):=by rw [H];exact T.out.add _
    have o:Hid (PJ w X w.heap.size z.heap.size x.heap.size k n [] a b true d f g (b++32::(Lib.itoa n))):=J;obtain ⟨A,E,D,-⟩:=zp J.pa;obtain ⟨O,M,G,L,K,I,-⟩:=zq J.pb;obtain ⟨Q,-⟩:=zL J.pt;clear H J T;have HT:Hid (Zt k n []=b++32::(Lib.itoa n)):=by show _=_;rw [W.out];simp
    go_wp2
    go_ret2
    exact ⟨.inl ⟨U.out,by rw [HT.out];first | rfl | simp⟩,o.out.below⟩
   | false =>
    have HT:Hid (Zt k n []=b):=by show _=_;rw [W.out];simp
    go_wp2
    go_ret2
    exact ⟨.inl ⟨U.out,by rw [HT.out];first | rfl | simp⟩,o.out.below⟩
  | cons s0 ss =>
   cases g with
   | nil =>
    cases c with
    | true =>
     have ci:=Tryz.strconv_Itoa n (by have:=y.out (by simp);have:=h.out.2.2;omega) (by have:=y.out (by simp);omega) w6 (HS.out.below o.out.below).1.2
     go_wp2_with fail
     refine ci.mono ?_;clear ci A E D O M G L K I Q;rintro e w7 ⟨rfl,kk,os,V⟩;have R:PJ w w7 w.heap.size z.heap.size x.heap.size k n (s0::ss) a b true d f [] (b):=o.out.step (by rw [V];exact Lib.below_grow _ _ (Nat.le_refl _) _ _)
     have T:Hid (PJ w w7 w.heap.size z.heap.size x.heap.size k n (s0::ss) a b true d f [] (b)):=R;have HI:Hid ((Lib.itoa n).length≤21):=Lib.itoa_length_le n (by have:=y.out (by simp);have:=h.out.2.2;omega) (by have:=y.out (by simp);omega)
     obtain ⟨A,E,D,-⟩:=zp R.pa;obtain ⟨O,M,G,L,K,I,-⟩:=zq R.pb;obtain ⟨Q,-⟩:=zL R.pt;have N:=Zr x.heap.size (b) (Lib.itoa n) w7 (by have:=h.out.1;omega) (by have:=HI.out;omega) R.pt
     clear V R o;go_wp2_with fail
     refine N.mono ?_;clear N A E D O M G L K I Q;rintro e X ⟨rfl,H⟩;have J:PJ w X w.heap.size z.heap.size x.heap.size k n (s0::ss) a b true d f [] (b++32::(Lib.itoa n)):=by rw [H];exact T.out.add _
     have o:Hid (PJ w X w.heap.size z.heap.size x.heap.size k n (s0::ss) a b true d f [] (b++32::(Lib.itoa n))):=J;obtain ⟨A,E,D,-⟩:=zp J.pa;obtain ⟨O,M,G,L,K,I,-⟩:=zq J.pb;obtain ⟨Q,-⟩:=zL J.pt;clear H J T;have N:=Zr x.heap.size (b++32::(Lib.itoa n)) (s0::ss) X (by have:=h.out.1;have:=h.out.2.1;have:=HI.out;simp only [List.length_append,List.length_cons] at *;omega) (by have:=ae.out;omega) o.out.pt
     go_wp2_with fail
     refine N.mono ?_;clear N A E D O M G L K I Q;rintro e w9 ⟨rfl,H⟩;have J:PJ w w9 w.heap.size z.heap.size x.heap.size k n (s0::ss) a b true d f [] (b++32::(Lib.itoa n)++32::(s0::ss)):=by rw [H];exact o.out.add _
     have o:Hid (PJ w w9 w.heap.size z.heap.size x.heap.size k n (s0::ss) a b true d f [] (b++32::(Lib.itoa n)++32::(s0::ss))):=J;obtain ⟨A,E,D,-⟩:=zp J.pa;obtain ⟨O,M,G,L,K,I,-⟩:=zq J.pb;obtain ⟨Q,-⟩:=zL J.pt;clear H J;have HT:Hid (Zt k n (s0::ss)=b++32::(Lib.itoa n)++32::(s0::ss)):=by show _=_;rw [W.out];simp
     go_wp2
     go_ret2
     exact ⟨.inl ⟨U.out,by rw [HT.out];first | rfl | simp⟩,o.out.below⟩
    | false =>
     have N:=Zr x.heap.size (b) (s0::ss) w6 (by have:=h.out.1;omega) (by have:=ae.out;omega) o.out.pt
     go_wp2_with fail
     refine N.mono ?_;clear N A E D O M G L K I Q;rintro e X ⟨rfl,H⟩;have J:PJ w X w.heap.size z.heap.size x.heap.size k n (s0::ss) a b false d f [] (b++32::(s0::ss)):=by rw [H];exact o.out.add _
     have o:Hid (PJ w X w.heap.size z.heap.size x.heap.size k n (s0::ss) a b false d f [] (b++32::(s0::ss))):=J;obtain ⟨A,E,D,-⟩:=zp J.pa;obtain ⟨O,M,G,L,K,I,-⟩:=zq J.pb;obtain ⟨Q,-⟩:=zL J.pt;clear H J;have HT:Hid (Zt k n (s0::ss)=b++32::(s0::ss)):=by show _=_;rw [W.out];simp
     go_wp2
     go_ret2
     exact ⟨.inl ⟨U.out,by rw [HT.out];first | rfl | simp⟩,o.out.below⟩
   | cons g0 gs =>
    cases c with
    | true =>
     have ci:=Tryz.strconv_Itoa n (by have:=y.out (by simp);have:=h.out.2.2;omega) (by have:=y.out (by simp);omega) w6 (HS.out.below o.out.below).1.2
     go_wp2_with fail
     refine ci.mono ?_;clear ci A E D O M G L K I Q;rintro e w7 ⟨rfl,kk,os,V⟩;have R:PJ w w7 w.heap.size z.heap.size x.heap.size k n (s0::ss) a b true d f (g0::gs) (b):=o.out.step (by rw [V];exact Lib.below_grow _ _ (Nat.le_refl _) _ _)
     have T:Hid (PJ w w7 w.heap.size z.heap.size x.heap.size k n (s0::ss) a b true d f (g0::gs) (b)):=R;have HI:Hid ((Lib.itoa n).length≤21):=Lib.itoa_length_le n (by have:=y.out (by simp);have:=h.out.2.2;omega) (by have:=y.out (by simp);omega)
     obtain ⟨A,E,D,-⟩:=zp R.pa;obtain ⟨O,M,G,L,K,I,-⟩:=zq R.pb;obtain ⟨Q,-⟩:=zL R.pt;have N:=Zr x.heap.size (b) (Lib.itoa n) w7 (by have:=h.out.1;omega) (by have:=HI.out;omega) R.pt
     clear V R o;go_wp2_with fail
     refine N.mono ?_;clear N A E D O M G L K I Q;rintro e X ⟨rfl,H⟩;have J:PJ w X w.heap.size z.heap.size x.heap.size k n (s0::ss) a b true d f (g0::gs) (b++32::(Lib.itoa n)):=by rw [H];exact T.out.add _
     have o:Hid (PJ w X w.heap.size z.heap.size x.heap.size k n (s0::ss) a b true d f (g0::gs) (b++32::(Lib.itoa n))):=J;obtain ⟨A,E,D,-⟩:=zp J.pa;obtain ⟨O,M,G,L,K,I,-⟩:=zq J.pb;obtain ⟨Q,-⟩:=zL J.pt;clear H J T;have N:=Zr x.heap.size (b++32::(Lib.itoa n)) (g0::gs) X (by have:=h.out.1;have:=h.out.2.1;have:=HI.out;simp only [List.length_append,List.length_cons] at *;omega) (by have:=h.out.2.1;omega) o.out.pt
     go_wp2_with fail
     refine N.mono ?_;clear N A E D O M G L K I Q;rintro e w9 ⟨rfl,H⟩;have J:PJ w w9 w.heap.size z.heap.size x.heap.size k n (s0::ss) a b true d f (g0::gs) (b++32::(Lib.itoa n)++32::(g0::gs)):=by rw [H];exact o.out.add _
     have o:Hid (PJ w w9 w.heap.size z.heap.size x.heap.size k n (s0::ss) a b true d f (g0::gs) (b++32::(Lib.itoa n)++32::(g0::gs))):=J;obtain ⟨A,E,D,-⟩:=zp J.pa;obtain ⟨O,M,G,L,K,I,-⟩:=zq J.pb;obtain ⟨Q,-⟩:=zL J.pt;clear H J;have N:=Zr x.heap.size (b++32::(Lib.itoa n)++32::(g0::gs)) (s0::ss) w9 (by have:=h.out.1;have:=h.out.2.1;have:=HI.out;simp only [List.length_append,List.length_cons] at *;omega) (by have:=ae.out;omega) o.out.pt
     go_wp2_with fail
     refine N.mono ?_;clear N A E D O M G L K I Q;rintro e am ⟨rfl,H⟩;have J:PJ w am w.heap.size z.heap.size x.heap.size k n (s0::ss) a b true d f (g0::gs) (b++32::(Lib.itoa n)++32::(g0::gs)++32::(s0::ss)):=by rw [H];exact o.out.add _
     have o:Hid (PJ w am w.heap.size z.heap.size x.heap.size k n (s0::ss) a b true d f (g0::gs) (b++32::(Lib.itoa n)++32::(g0::gs)++32::(s0::ss))):=J;obtain ⟨A,E,D,-⟩:=zp J.pa;obtain ⟨O,M,G,L,K,I,-⟩:=zq J.pb;obtain ⟨Q,-⟩:=zL J.pt;clear H J;have HT:Hid (Zt k n (s0::ss)=b++32::(Lib.itoa n)++32::(g0::gs)++32::(s0::ss)):=by show _=_;rw [W.out];simp
     go_wp2
     go_ret2
     exact ⟨.inl ⟨U.out,by rw [HT.out];first | rfl | simp⟩,o.out.below⟩
    | false =>
     have N:=Zr x.heap.size (b) (g0::gs) w6 (by have:=h.out.1;omega) (by have:=h.out.2.1;omega) o.out.pt
     go_wp2_with fail
     refine N.mono ?_;clear N A E D O M G L K I Q;rintro e X ⟨rfl,H⟩;have J:PJ w X w.heap.size z.heap.size x.heap.size k n (s0::ss) a b false d f (g0::gs) (b++32::(g0::gs)):=by rw [H];exact o.out.add _
     have o:Hid (PJ w X w.heap.size z.heap.size x.heap.size k n (s0::ss) a b false d f (g0::gs) (b++32::(g0::gs))):=J;obtain ⟨A,E,D,-⟩:=zp J.pa;obtain ⟨O,M,G,L,K,I,-⟩:=zq J.pb;obtain ⟨Q,-⟩:=zL J.pt;clear H J;have N:=Zr x.heap.size (b++32::(g0::gs)) (s0::ss) X (by have:=h.out.1;have:=h.out.2.1;simp only [List.length_append,List.length_cons] at *;omega) (by have:=ae.out;omega) o.out.pt
     go_wp2_with fail
     refine N.mono ?_;clear N A E D O M G L K I Q;rintro e w9 ⟨rfl,H⟩;have J:PJ w w9 w.heap.size z.heap.size x.heap.size k n (s0::ss) a b false d f (g0::gs) (b++32::(g0::gs)++32::(s0::ss)):=by rw [H];exact o.out.add _
     have o:Hid (PJ w w9 w.heap.size z.heap.size x.heap.size k n (s0::ss) a b false d f (g0::gs) (b++32::(g0::gs)++32::(s0::ss))):=J;obtain ⟨A,E,D,-⟩:=zp J.pa;obtain ⟨O,M,G,L,K,I,-⟩:=zq J.pb;obtain ⟨Q,-⟩:=zL J.pt;clear H J;have HT:Hid (Zt k n (s0::ss)=b++32::(g0::gs)++32::(s0::ss)):=by show _=_;rw [W.out];simp
     go_wp2
     go_ret2
     exact ⟨.inl ⟨U.out,by rw [HT.out];first | rfl | simp⟩,o.out.below⟩
 ·obtain ⟨S,p0⟩:=HP.out
  have ar:Hid (Below w.heap.size w w2):=Zs S aa;have HN:Hid (¬ ZG ZN k n s):=ap;clear S p0 aa ap HP;go_wp2
  go_ret2
  exact ⟨.inr ⟨HN.out,rfl⟩,ar.out⟩
end Go.Proofs.YtmbofhpmockmbaaGreatDoor
