import Derived.Test.YtmbofhpmockmbaaGreatDoorMC24
import Derived.Lib.ItoaLen
namespace Go.Proofs.YtmbofhpmockmbaaGreatDoor
open Go.RowKit Go.Shelf
set_option maxHeartbeats 16000000
set_option maxRecDepth 100000
theorem ZK (a b:List UInt8):za a++za b=za (a++b):=by
 apply ByteArray.ext
 rw [ByteArray.data_append]
 simp
theorem yg (g:Nat) (t p:List UInt8) (w:World) (ht:t.length≤1000000) (hp:p.length≤1000000) (hg:w.heap[g]?=some (.cells #[.string (za t)] 9 (0,0))) :
  Calls Tryz.prog 26 #[.string (za p),.pointer (some ⟨g,0,none⟩)] w fun e w'=>e=.returned (.tuple #[])∧w'=w.setCell ⟨g,0,none⟩ (.string (za (t++32::p))):=by
 obtain ⟨E,A⟩:=Zm hg;have z:(⟨#[32]⟩:ByteArray)++za p=za (32::p):=ZK [32] p;have y:za t++za (32::p)=za (t++32::p):=ZK t _;have o:(za p).size=p.length:=rfl;have h:(za t).size=t.length:=rfl;have D:(za (32::p)).size=p.length+1:=rfl;clear hg
 go_enter Tryz.func26,Tryz.ntmps26
 go_wp2
 go_end0
 exact ⟨rfl,rfl⟩
theorem X3 (s:List UInt8) (w:World) (hs:s.length≤1000000):Calls Tryz.prog 25 #[.string (za s)] w fun e w'=>e=.returned (.string (za s))∧Below w.heap.size w w':=by
 have h:=Tryz.stringslite_Clone (za s) w (by show s.length≤_;omega)
 go_enter Tryz.func25,Tryz.ntmps25
 go_wp2_with fail
 refine h.mono ?_;clear h;rintro e y ⟨rfl,o⟩;go_wp2
 go_ret
 exact ⟨rfl,o⟩
theorem xE (k:Int):(ofKind k).2.1.length≤20∧(ofKind k).2.2.2.2.2.length≤20∧0≤(ofKind k).2.2.2.1:=by
 by_cases hk:k<1∨17<k
 ·rw [yU k hk];decide
 ·exact Xv (P:=fun k=>(ofKind k).2.1.length≤20∧(ofKind k).2.2.2.2.2.length≤20∧0≤(ofKind k).2.2.2.1) (by decide) (by decide) (by decide) (by decide) (by decide) (by decide) (by decide) (by decide) (by decide) (by decide) (by decide) (by decide) (by decide) (by decide) (by decide) (by decide) (by decide) k (by omega) (by omega)
theorem xW {k n:Int} {s:List UInt8} (h:ZP ZE k n s):s.length≤255:=by
 cases hf:(ofKind k).2.2.2.2.1 with
 | false=>rw [h.2.2.1 hf];exact Nat.zero_le _
 | true =>
  rcases h.2.2.2.2 hf with h | h
  ·rw [h.1];exact Nat.zero_le _
  ·exact h.1
structure PJ (w wr:World) (A B T:Nat) (k n:Int) (s:List UInt8) (a:Int) (b:List UInt8) (c:Bool) (d:Int) (f:Bool) (g t:List UInt8):Prop where
 below:Below w.heap.size w wr
 pa:wr.heap[A]?=some (.cells #[.int .i64 k,.int .i64 n,.string (za s)] 24 (0,0))
 pb:wr.heap[B]?=some (.cells #[.int .i64 a,.string (za b),.bool c,.int .i64 d,.bool f,.string (za g)] 55 (0,0))
 pt:wr.heap[T]?=some (.cells #[.string (za t)] 9 (0,0))
 hA:A<T
 hB:B<T
 hT:w.heap.size≤T
theorem PJ.step {w wr wx:World} {A B T:Nat} {k n:Int} {s:List UInt8} {a:Int} {b:List UInt8} {c:Bool} {d:Int} {f:Bool} {g t:List UInt8} (h:PJ w wr A B T k n s a b c d f g t) (hb:Below wr.heap.size wr wx):PJ w wx A B T k n s a b c d f g t :=
 ⟨Z8 h.below hb,(hb.block _ (Yf h.pa)).trans h.pa,(hb.block _ (Yf h.pb)).trans h.pb,(hb.block _ (Yf h.pt)).trans h.pt,h.hA,h.hB,h.hT⟩
theorem PJ.add {w wr:World} {A B T:Nat} {k n:Int} {s:List UInt8} {a:Int} {b:List UInt8} {c:Bool} {d:Int} {f:Bool} {g t:List UInt8} (h:PJ w wr A B T k n s a b c d f g t) (u:List UInt8):PJ w (wr.setCell ⟨T,0,none⟩ (.string (za u))) A B T k n s a b c d f g u :=
 ⟨h.below.setCell h.hT _,by rw [Below.heap_setCell _ _ _ _ (by have:=h.hA;simp;omega)];exact h.pa,by rw [Below.heap_setCell _ _ _ _ (by have:=h.hB;simp;omega)];exact h.pb,xH h.pt _,h.hA,h.hB,h.hT⟩
theorem xt (k n:Int) (s:List UInt8) (w:World) (hS:xN w) :
  Calls Tryz.prog 9 #[yi k n s] w fun e w'=>(ZP ZE k n s∧e=.returned (.tuple #[.string (za (y7 k n s)),.int .i64 0])∨¬ ZP ZE k n s∧e=.returned (.tuple #[.string ⟨#[]⟩,.int .i64 2]))∧Below w.heap.size w w':=by
 have HS:Hid (xN w):=hS;have az:∀(fn:Fn) (first cap:Array Value) (w:World),(Instr.makeFunc fn first cap).run Tryz.prog w=.ok (.func fn first cap) w:=fun _ _ _ _=>rfl
 obtain ⟨w1,ar,U,av,p0⟩:=Yg w (.cells #[.int .i64 k,.int .i64 n,.string (za s)] 24 (0,0));have cc:=vW k n s w1 (hS.below U);obtain ⟨G,E,D,-⟩:=zv p0;have HP:Hid (Below w.heap.size w w1∧w1.heap[w.heap.size]?=some (.cells #[.int .i64 k,.int .i64 n,.string (za s)] 24 (0,0))):=⟨U,p0⟩;have an:=ar.symm
 unfold yi at cc ⊢
 clear hS U ar p0 av
 go_enter Tryz.func9,Tryz.ntmps9
 go_wp2_with fail
 refine cc.mono ?_;clear cc G E D an;rintro e w2 ⟨⟨ap,rfl⟩ | ⟨am,rfl⟩,ae⟩
 ·obtain ⟨U,p0⟩:=HP.out
  have ai:w2.heap[w.heap.size]?=_:=(ae.block _ (Yf p0)).trans p0;obtain ⟨G,E,D,-⟩:=zv ai;have ad:Hid (Below w.heap.size w w2∧w2.heap[w.heap.size]?=some (.cells #[.int .i64 k,.int .i64 n,.string (za s)] 24 (0,0))):=⟨Z8 U ae,ai⟩;have Z:Hid (ZP ZE k n s):=ap;have cw:=Xx k w2;clear HP U ae p0 ai ap;go_wp2_with fail
  refine cw.mono ?_;clear cw G E D;rintro e z ⟨rfl,ag⟩;have af:Hid (s.length≤255):=xW Z.out;have h:Hid ((ofKind k).2.1.length≤20∧(ofKind k).2.2.2.2.2.length≤20∧0≤(ofKind k).2.2.2.1):=xE k;have A:Hid ((ofKind k).2.2.1=true→(ofKind k).2.2.2.1≤n∧n≤4294967296):=Z.out.2.2.2.1;have Y:Hid (y7 k n s=(ofKind k).2.1++(if (ofKind k).2.2.1=true then 32::Lib.itoa n else [])++(if s≠[]∧(ofKind k).2.2.2.2.2≠[] then 32::(ofKind k).2.2.2.2.2 else [])++(if s≠[] then 32::s else [])):=rfl
  generalize ofKind k=r at h A Y ⊢;obtain ⟨a,b,c,d,f,g⟩:=r
  unfold wV
  simp only at h A Y ⊢;obtain ⟨w4,al,ab,ax,p4⟩:=Yg z (.cells #[.int .i64 a,.string (za b),.bool c,.int .i64 d,.bool f,.string (za g)] 55 (0,0))
  have ak:Hid (Below w.heap.size w w4∧w4.heap[w.heap.size]?=some (.cells #[.int .i64 k,.int .i64 n,.string (za s)] 24 (0,0))∧w4.heap[z.heap.size]?=some (.cells #[.int .i64 a,.string (za b),.bool c,.int .i64 d,.bool f,.string (za g)] 55 (0,0))∧w.heap.size<w4.heap.size∧z.heap.size<w4.heap.size) :=
   ⟨Z8 ad.out.1 (Z8 ag ab),((Z8 ag ab).block _ (Yf ad.out.2)).trans ad.out.2,p4,by have:=Yf ad.out.2;have:=ag.size;omega,by omega⟩
  have ck:=X3 b w4 (by have:=h.out.1;omega)
  obtain ⟨L,Q,I,M,H,K,-⟩:=zE p4;have aq:=al.symm;clear ad ag al ab ax p4;go_wp2_with fail
  refine ck.mono ?_;clear ck L Q I M H K aq;rintro e y ⟨rfl,aa⟩;obtain ⟨w6,aj,ah,au,p6⟩:=Yg y (.cells #[.string (za b)] 9 (0,0));obtain ⟨ab,pa,pb,ha,hb⟩:=ak.out
  have J:PJ w w6 w.heap.size z.heap.size y.heap.size k n s a b c d f g b :=
   ⟨Z8 ab (Z8 aa ah),((Z8 aa ah).block _ (Yf pa)).trans pa,((Z8 aa ah).block _ (Yf pb)).trans pb,p6,by have:=aa.size;omega,by have:=aa.size;omega,by have:=aa.size;omega⟩
  have o:Hid (PJ w w6 w.heap.size z.heap.size y.heap.size k n s a b c d f g b):=J;obtain ⟨G,E,D,-⟩:=zv J.pa;obtain ⟨L,Q,I,M,H,K,-⟩:=zE J.pb;have ay:=aj.symm;clear aa ah au p6 ab pa pb ha hb J ak aj;obtain ⟨R,-⟩:=Zm o.out.pt;cases s with
  | nil =>
   cases c with
   | true =>
    have ci:=Tryz.strconv_Itoa n (by have:=A.out (by simp);have:=h.out.2.2;omega) (by have:=A.out (by simp);omega) w6 (HS.out.below o.out.below).1.2
    go_wp2_with fail
    refine ci.mono ?_;clear ci G E D L Q I M H K R;rintro e w7 ⟨rfl,kk,os,X⟩;have T:PJ w w7 w.heap.size z.heap.size y.heap.size k n [] a b true d f g (b):=o.out.step (by rw [X];exact Lib.below_grow _ _ (Nat.le_refl _) _ _)
    have W:Hid (PJ w w7 w.heap.size z.heap.size y.heap.size k n [] a b true d f g (b)):=T;have HI:Hid ((Lib.itoa n).length≤21):=Lib.itoa_length_le n (by have:=A.out (by simp);have:=h.out.2.2;omega) (by have:=A.out (by simp);omega)
    obtain ⟨G,E,D,-⟩:=zv T.pa;obtain ⟨L,Q,I,M,H,K,-⟩:=zE T.pb;obtain ⟨R,-⟩:=Zm T.pt;have O:=yg y.heap.size (b) (Lib.itoa n) w7 (by have:=h.out.1;omega) (by have:=HI.out;omega) T.pt
    clear X T o;go_wp2_with fail
    refine O.mono ?_;clear O G E D L Q I M H K R;rintro e V ⟨rfl,N⟩;have J:PJ w V w.heap.size z.heap.size y.heap.size k n [] a b true d f g (b++32::(Lib.itoa n)):=by rw [N];exact W.out.add _
    have o:Hid (PJ w V w.heap.size z.heap.size y.heap.size k n [] a b true d f g (b++32::(Lib.itoa n))):=J;obtain ⟨G,E,D,-⟩:=zv J.pa;obtain ⟨L,Q,I,M,H,K,-⟩:=zE J.pb;obtain ⟨R,-⟩:=Zm J.pt;clear N J W;have HT:Hid (y7 k n []=b++32::(Lib.itoa n)):=by show _=_;rw [Y.out];simp
    go_wp2
    go_ret2
    exact ⟨.inl ⟨Z.out,by rw [HT.out];first | rfl | simp⟩,o.out.below⟩
   | false =>
    have HT:Hid (y7 k n []=b):=by show _=_;rw [Y.out];simp
    go_wp2
    go_ret2
    exact ⟨.inl ⟨Z.out,by rw [HT.out];first | rfl | simp⟩,o.out.below⟩
  | cons s0 ss =>
   cases g with
   | nil =>
    cases c with
    | true =>
     have ci:=Tryz.strconv_Itoa n (by have:=A.out (by simp);have:=h.out.2.2;omega) (by have:=A.out (by simp);omega) w6 (HS.out.below o.out.below).1.2
     go_wp2_with fail
     refine ci.mono ?_;clear ci G E D L Q I M H K R;rintro e w7 ⟨rfl,kk,os,X⟩;have T:PJ w w7 w.heap.size z.heap.size y.heap.size k n (s0::ss) a b true d f [] (b):=o.out.step (by rw [X];exact Lib.below_grow _ _ (Nat.le_refl _) _ _)
     have W:Hid (PJ w w7 w.heap.size z.heap.size y.heap.size k n (s0::ss) a b true d f [] (b)):=T;have HI:Hid ((Lib.itoa n).length≤21):=Lib.itoa_length_le n (by have:=A.out (by simp);have:=h.out.2.2;omega) (by have:=A.out (by simp);omega)
     obtain ⟨G,E,D,-⟩:=zv T.pa;obtain ⟨L,Q,I,M,H,K,-⟩:=zE T.pb;obtain ⟨R,-⟩:=Zm T.pt;have O:=yg y.heap.size (b) (Lib.itoa n) w7 (by have:=h.out.1;omega) (by have:=HI.out;omega) T.pt
     clear X T o;go_wp2_with fail
     refine O.mono ?_;clear O G E D L Q I M H K R;rintro e V ⟨rfl,N⟩;have J:PJ w V w.heap.size z.heap.size y.heap.size k n (s0::ss) a b true d f [] (b++32::(Lib.itoa n)):=by rw [N];exact W.out.add _
     have o:Hid (PJ w V w.heap.size z.heap.size y.heap.size k n (s0::ss) a b true d f [] (b++32::(Lib.itoa n))):=J;obtain ⟨G,E,D,-⟩:=zv J.pa;obtain ⟨L,Q,I,M,H,K,-⟩:=zE J.pb;obtain ⟨R,-⟩:=Zm J.pt;clear N J W;have O:=yg y.heap.size (b++32::(Lib.itoa n)) (s0::ss) V (by have:=h.out.1;have:=h.out.2.1;have:=HI.out;simp only [List.length_append,List.length_cons] at *;omega) (by have:=af.out;omega) o.out.pt
     go_wp2_with fail
     refine O.mono ?_;clear O G E D L Q I M H K R;rintro e w9 ⟨rfl,N⟩;have J:PJ w w9 w.heap.size z.heap.size y.heap.size k n (s0::ss) a b true d f [] (b++32::(Lib.itoa n)++32::(s0::ss)):=by rw [N];exact o.out.add _
     have o:Hid (PJ w w9 w.heap.size z.heap.size y.heap.size k n (s0::ss) a b true d f [] (b++32::(Lib.itoa n)++32::(s0::ss))):=J;obtain ⟨G,E,D,-⟩:=zv J.pa;obtain ⟨L,Q,I,M,H,K,-⟩:=zE J.pb;obtain ⟨R,-⟩:=Zm J.pt;clear N J;have HT:Hid (y7 k n (s0::ss)=b++32::(Lib.itoa n)++32::(s0::ss)):=by show _=_;rw [Y.out];simp
     go_wp2
     go_ret2
     exact ⟨.inl ⟨Z.out,by rw [HT.out];first | rfl | simp⟩,o.out.below⟩
    | false =>
     have O:=yg y.heap.size (b) (s0::ss) w6 (by have:=h.out.1;omega) (by have:=af.out;omega) o.out.pt
     go_wp2_with fail
     refine O.mono ?_;clear O G E D L Q I M H K R;rintro e V ⟨rfl,N⟩;have J:PJ w V w.heap.size z.heap.size y.heap.size k n (s0::ss) a b false d f [] (b++32::(s0::ss)):=by rw [N];exact o.out.add _
     have o:Hid (PJ w V w.heap.size z.heap.size y.heap.size k n (s0::ss) a b false d f [] (b++32::(s0::ss))):=J;obtain ⟨G,E,D,-⟩:=zv J.pa;obtain ⟨L,Q,I,M,H,K,-⟩:=zE J.pb;obtain ⟨R,-⟩:=Zm J.pt;clear N J;have HT:Hid (y7 k n (s0::ss)=b++32::(s0::ss)):=by show _=_;rw [Y.out];simp
     go_wp2
     go_ret2
     exact ⟨.inl ⟨Z.out,by rw [HT.out];first | rfl | simp⟩,o.out.below⟩
   | cons g0 gs =>
    cases c with
    | true =>
     have ci:=Tryz.strconv_Itoa n (by have:=A.out (by simp);have:=h.out.2.2;omega) (by have:=A.out (by simp);omega) w6 (HS.out.below o.out.below).1.2
     go_wp2_with fail
     refine ci.mono ?_;clear ci G E D L Q I M H K R;rintro e w7 ⟨rfl,kk,os,X⟩;have T:PJ w w7 w.heap.size z.heap.size y.heap.size k n (s0::ss) a b true d f (g0::gs) (b):=o.out.step (by rw [X];exact Lib.below_grow _ _ (Nat.le_refl _) _ _)
     have W:Hid (PJ w w7 w.heap.size z.heap.size y.heap.size k n (s0::ss) a b true d f (g0::gs) (b)):=T;have HI:Hid ((Lib.itoa n).length≤21):=Lib.itoa_length_le n (by have:=A.out (by simp);have:=h.out.2.2;omega) (by have:=A.out (by simp);omega)
     obtain ⟨G,E,D,-⟩:=zv T.pa;obtain ⟨L,Q,I,M,H,K,-⟩:=zE T.pb;obtain ⟨R,-⟩:=Zm T.pt;have O:=yg y.heap.size (b) (Lib.itoa n) w7 (by have:=h.out.1;omega) (by have:=HI.out;omega) T.pt
     clear X T o;go_wp2_with fail
     refine O.mono ?_;clear O G E D L Q I M H K R;rintro e V ⟨rfl,N⟩;have J:PJ w V w.heap.size z.heap.size y.heap.size k n (s0::ss) a b true d f (g0::gs) (b++32::(Lib.itoa n)):=by rw [N];exact W.out.add _
     have o:Hid (PJ w V w.heap.size z.heap.size y.heap.size k n (s0::ss) a b true d f (g0::gs) (b++32::(Lib.itoa n))):=J;obtain ⟨G,E,D,-⟩:=zv J.pa;obtain ⟨L,Q,I,M,H,K,-⟩:=zE J.pb;obtain ⟨R,-⟩:=Zm J.pt;clear N J W;have O:=yg y.heap.size (b++32::(Lib.itoa n)) (g0::gs) V (by have:=h.out.1;have:=h.out.2.1;have:=HI.out;simp only [List.length_append,List.length_cons] at *;omega) (by have:=h.out.2.1;omega) o.out.pt
     go_wp2_with fail
     refine O.mono ?_;clear O G E D L Q I M H K R;rintro e w9 ⟨rfl,N⟩;have J:PJ w w9 w.heap.size z.heap.size y.heap.size k n (s0::ss) a b true d f (g0::gs) (b++32::(Lib.itoa n)++32::(g0::gs)):=by rw [N];exact o.out.add _
     have o:Hid (PJ w w9 w.heap.size z.heap.size y.heap.size k n (s0::ss) a b true d f (g0::gs) (b++32::(Lib.itoa n)++32::(g0::gs))):=J;obtain ⟨G,E,D,-⟩:=zv J.pa;obtain ⟨L,Q,I,M,H,K,-⟩:=zE J.pb;obtain ⟨R,-⟩:=Zm J.pt;clear N J;have O:=yg y.heap.size (b++32::(Lib.itoa n)++32::(g0::gs)) (s0::ss) w9 (by have:=h.out.1;have:=h.out.2.1;have:=HI.out;simp only [List.length_append,List.length_cons] at *;omega) (by have:=af.out;omega) o.out.pt
     go_wp2_with fail
     refine O.mono ?_;clear O G E D L Q I M H K R;rintro e ao ⟨rfl,N⟩;have J:PJ w ao w.heap.size z.heap.size y.heap.size k n (s0::ss) a b true d f (g0::gs) (b++32::(Lib.itoa n)++32::(g0::gs)++32::(s0::ss)):=by rw [N];exact o.out.add _
     have o:Hid (PJ w ao w.heap.size z.heap.size y.heap.size k n (s0::ss) a b true d f (g0::gs) (b++32::(Lib.itoa n)++32::(g0::gs)++32::(s0::ss))):=J;obtain ⟨G,E,D,-⟩:=zv J.pa;obtain ⟨L,Q,I,M,H,K,-⟩:=zE J.pb;obtain ⟨R,-⟩:=Zm J.pt;clear N J;have HT:Hid (y7 k n (s0::ss)=b++32::(Lib.itoa n)++32::(g0::gs)++32::(s0::ss)):=by show _=_;rw [Y.out];simp
     go_wp2
     go_ret2
     exact ⟨.inl ⟨Z.out,by rw [HT.out];first | rfl | simp⟩,o.out.below⟩
    | false =>
     have O:=yg y.heap.size (b) (g0::gs) w6 (by have:=h.out.1;omega) (by have:=h.out.2.1;omega) o.out.pt
     go_wp2_with fail
     refine O.mono ?_;clear O G E D L Q I M H K R;rintro e V ⟨rfl,N⟩;have J:PJ w V w.heap.size z.heap.size y.heap.size k n (s0::ss) a b false d f (g0::gs) (b++32::(g0::gs)):=by rw [N];exact o.out.add _
     have o:Hid (PJ w V w.heap.size z.heap.size y.heap.size k n (s0::ss) a b false d f (g0::gs) (b++32::(g0::gs))):=J;obtain ⟨G,E,D,-⟩:=zv J.pa;obtain ⟨L,Q,I,M,H,K,-⟩:=zE J.pb;obtain ⟨R,-⟩:=Zm J.pt;clear N J;have O:=yg y.heap.size (b++32::(g0::gs)) (s0::ss) V (by have:=h.out.1;have:=h.out.2.1;simp only [List.length_append,List.length_cons] at *;omega) (by have:=af.out;omega) o.out.pt
     go_wp2_with fail
     refine O.mono ?_;clear O G E D L Q I M H K R;rintro e w9 ⟨rfl,N⟩;have J:PJ w w9 w.heap.size z.heap.size y.heap.size k n (s0::ss) a b false d f (g0::gs) (b++32::(g0::gs)++32::(s0::ss)):=by rw [N];exact o.out.add _
     have o:Hid (PJ w w9 w.heap.size z.heap.size y.heap.size k n (s0::ss) a b false d f (g0::gs) (b++32::(g0::gs)++32::(s0::ss))):=J;obtain ⟨G,E,D,-⟩:=zv J.pa;obtain ⟨L,Q,I,M,H,K,-⟩:=zE J.pb;obtain ⟨R,-⟩:=Zm J.pt;clear N J;have HT:Hid (y7 k n (s0::ss)=b++32::(g0::gs)++32::(s0::ss)):=by show _=_;rw [Y.out];simp
     go_wp2
     go_ret2
     exact ⟨.inl ⟨Z.out,by rw [HT.out];first | rfl | simp⟩,o.out.below⟩
 ·obtain ⟨U,p0⟩:=HP.out
  have aw:Hid (Below w.heap.size w w2):=Z8 U ae;have HN:Hid (¬ ZP ZE k n s):=am;clear U p0 ae am HP;go_wp2
  go_ret2
  exact ⟨.inr ⟨HN.out,rfl⟩,aw.out⟩
end Go.Proofs.YtmbofhpmockmbaaGreatDoor
