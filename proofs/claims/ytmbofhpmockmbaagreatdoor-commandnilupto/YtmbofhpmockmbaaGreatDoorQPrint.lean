import Derived.Test.YtmbofhpmockmbaaGreatDoorQCheck
import Derived.Lib.ItoaLen
namespace Go.Proofs.YtmbofhpmockmbaaGreatDoor
open Go.RowKit Go.Shelf
set_option maxHeartbeats 16000000
set_option maxRecDepth 100000
theorem XL (a b:List UInt8):za a++za b=za (a++b):=by
 apply ByteArray.ext
 rw [ByteArray.data_append]
 simp
theorem ZA (g:Nat) (t p:List UInt8) (w:World) (ht:t.length≤1000000) (hp:p.length≤1000000) (hg:w.heap[g]?=some (.cells #[.string (za t)] 9 (0,0))) :
  Calls Tryz.prog 26 #[.string (za p),.pointer (some ⟨g,0,none⟩)] w fun e w'=>e=.returned (.tuple #[])∧w'=w.setCell ⟨g,0,none⟩ (.string (za (t++32::p))):=by
 obtain ⟨D,o⟩:=zL hg;have z:(⟨#[32]⟩:ByteArray)++za p=za (32::p):=XL [32] p;have A:za t++za (32::p)=za (t++32::p):=XL t _;have E:(za p).size=p.length:=rfl;have y:(za t).size=t.length:=rfl;have G:(za (32::p)).size=p.length+1:=rfl;clear hg
 go_enter Tryz.func26,Tryz.ntmps26
 go_wp2
 go_end0
 exact ⟨rfl,rfl⟩
theorem YX (s:List UInt8) (w:World) (hs:s.length≤1000000):Calls Tryz.prog 25 #[.string (za s)] w fun e w'=>e=.returned (.string (za s))∧Below w.heap.size w w':=by
 have o:=Tryz.stringslite_Clone (za s) w (by show s.length≤_;omega)
 go_enter Tryz.func25,Tryz.ntmps25
 go_wp2_with fail
 refine o.mono ?_;clear o;rintro e z ⟨rfl,y⟩;go_wp2
 go_ret
 exact ⟨rfl,y⟩
theorem Xa (k:Int):(ofKind k).2.1.length≤20∧(ofKind k).2.2.2.2.2.length≤20∧0≤(ofKind k).2.2.2.1:=by
 by_cases hk:k<1∨17<k
 ·rw [Yf k hk];decide
 ·exact Xr (P:=fun k=>(ofKind k).2.1.length≤20∧(ofKind k).2.2.2.2.2.length≤20∧0≤(ofKind k).2.2.2.1) (by decide) (by decide) (by decide) (by decide) (by decide) (by decide) (by decide) (by decide) (by decide) (by decide) (by decide) (by decide) (by decide) (by decide) (by decide) (by decide) (by decide) k (by omega) (by omega)
theorem xF {k n:Int} {s:List UInt8} (h:yw yi k n s):s.length≤255:=by
 cases hf:(ofKind k).2.2.2.2.1 with
 | false=>rw [h.2.2.1 hf];exact Nat.zero_le _
 | true =>
  rcases h.2.2.2.2 hf with h | h
  ·rw [h.1];exact Nat.zero_le _
  ·exact h.1
structure PJ (w wr:World) (A B T:Nat) (k n:Int) (s:List UInt8) (a:Int) (b:List UInt8) (c:Bool) (d:Int) (f:Bool) (g t:List UInt8):Prop where
 below:Below w.heap.size w wr
 pa:wr.heap[A]?=some (.cells #[.int .i64 k,.int .i64 n,.string (za s)] 24 (0,0))
 pb:wr.heap[B]?=some (.cells #[.int .i64 a,.string (za b),.bool c,.int .i64 d,.bool f,.string (za g)] 55 (0,0))
 pt:wr.heap[T]?=some (.cells #[.string (za t)] 9 (0,0))
 hA:A<T
 hB:B<T
 hT:w.heap.size≤T
theorem PJ.step {w wr wx:World} {A B T:Nat} {k n:Int} {s:List UInt8} {a:Int} {b:List UInt8} {c:Bool} {d:Int} {f:Bool} {g t:List UInt8} (h:PJ w wr A B T k n s a b c d f g t) (hb:Below wr.heap.size wr wx):PJ w wx A B T k n s a b c d f g t :=
 ⟨ZC h.below hb,(hb.block _ (yj h.pa)).trans h.pa,(hb.block _ (yj h.pb)).trans h.pb,(hb.block _ (yj h.pt)).trans h.pt,h.hA,h.hB,h.hT⟩
theorem PJ.add {w wr:World} {A B T:Nat} {k n:Int} {s:List UInt8} {a:Int} {b:List UInt8} {c:Bool} {d:Int} {f:Bool} {g t:List UInt8} (h:PJ w wr A B T k n s a b c d f g t) (u:List UInt8):PJ w (wr.setCell ⟨T,0,none⟩ (.string (za u))) A B T k n s a b c d f g u :=
 ⟨h.below.setCell h.hT _,by rw [Below.heap_setCell _ _ _ _ (by have:=h.hA;simp;omega)];exact h.pa,by rw [Below.heap_setCell _ _ _ _ (by have:=h.hB;simp;omega)];exact h.pb,y2 h.pt _,h.hA,h.hB,h.hT⟩
theorem YY (k n:Int) (s:List UInt8) (w:World) (hS:y8 w) :
  Calls Tryz.prog 9 #[ZJ k n s] w fun e w'=>(yw yi k n s∧e=.returned (.tuple #[.string (za (yz k n s)),.int .i64 0])∨¬ yw yi k n s∧e=.returned (.tuple #[.string ⟨#[]⟩,.int .i64 2]))∧Below w.heap.size w w':=by
 have HS:Hid (y8 w):=hS;have az:∀(fn:Fn) (first cap:Array Value) (w:World),(Instr.makeFunc fn first cap).run Tryz.prog w=.ok (.func fn first cap) w:=fun _ _ _ _=>rfl
 obtain ⟨w1,al,U,aw,p0⟩:=yd w (.cells #[.int .i64 k,.int .i64 n,.string (za s)] 24 (0,0));have cc:=Vx k n s w1 (hS.below U);obtain ⟨E,G,H,-⟩:=zl p0;have HP:Hid (Below w.heap.size w w1∧w1.heap[w.heap.size]?=some (.cells #[.int .i64 k,.int .i64 n,.string (za s)] 24 (0,0))):=⟨U,p0⟩;have ao:=al.symm
 unfold ZJ at cc ⊢
 clear hS U al p0 aw
 go_enter Tryz.func9,Tryz.ntmps9
 go_wp2_with fail
 refine cc.mono ?_;clear cc E G H ao;rintro e w2 ⟨⟨aq,rfl⟩ | ⟨aj,rfl⟩,ae⟩
 ·obtain ⟨U,p0⟩:=HP.out
  have ai:w2.heap[w.heap.size]?=_:=(ae.block _ (yj p0)).trans p0;obtain ⟨E,G,H,-⟩:=zl ai;have ad:Hid (Below w.heap.size w w2∧w2.heap[w.heap.size]?=some (.cells #[.int .i64 k,.int .i64 n,.string (za s)] 24 (0,0))):=⟨ZC U ae,ai⟩;have X:Hid (yw yi k n s):=aq;have cw:=YF k w2;clear HP U ae p0 ai aq;go_wp2_with fail
  refine cw.mono ?_;clear cw E G H;rintro e D ⟨rfl,ah⟩;have ag:Hid (s.length≤255):=xF X.out;have o:Hid ((ofKind k).2.1.length≤20∧(ofKind k).2.2.2.2.2.length≤20∧0≤(ofKind k).2.2.2.1):=Xa k;have A:Hid ((ofKind k).2.2.1=true→(ofKind k).2.2.2.1≤n∧n≤4294967296):=X.out.2.2.2.1;have Y:Hid (yz k n s=(ofKind k).2.1++(if (ofKind k).2.2.1=true then 32::Lib.itoa n else [])++(if s≠[]∧(ofKind k).2.2.2.2.2≠[] then 32::(ofKind k).2.2.2.2.2 else [])++(if s≠[] then 32::s else [])):=rfl
  generalize ofKind k=r at o A Y ⊢;obtain ⟨a,b,c,d,f,g⟩:=r
  unfold wV
  simp only at o A Y ⊢;obtain ⟨w4,ap,ab,au,p4⟩:=yd D (.cells #[.int .i64 a,.string (za b),.bool c,.int .i64 d,.bool f,.string (za g)] 55 (0,0))
  have ar:Hid (Below w.heap.size w w4∧w4.heap[w.heap.size]?=some (.cells #[.int .i64 k,.int .i64 n,.string (za s)] 24 (0,0))∧w4.heap[D.heap.size]?=some (.cells #[.int .i64 a,.string (za b),.bool c,.int .i64 d,.bool f,.string (za g)] 55 (0,0))∧w.heap.size<w4.heap.size∧D.heap.size<w4.heap.size) :=
   ⟨ZC ad.out.1 (ZC ah ab),((ZC ah ab).block _ (yj ad.out.2)).trans ad.out.2,p4,by have:=yj ad.out.2;have:=ah.size;omega,by omega⟩
  have ck:=YX b w4 (by have:=o.out.1;omega)
  obtain ⟨L,M,O,N,K,R,-⟩:=zr p4;have ak:=ap.symm;clear ad ah ap ab au p4;go_wp2_with fail
  refine ck.mono ?_;clear ck L M O N K R ak;rintro e z ⟨rfl,aa⟩;obtain ⟨w6,an,af,av,p6⟩:=yd z (.cells #[.string (za b)] 9 (0,0));obtain ⟨ab,pa,pb,ha,hb⟩:=ar.out
  have J:PJ w w6 w.heap.size D.heap.size z.heap.size k n s a b c d f g b :=
   ⟨ZC ab (ZC aa af),((ZC aa af).block _ (yj pa)).trans pa,((ZC aa af).block _ (yj pb)).trans pb,p6,by have:=aa.size;omega,by have:=aa.size;omega,by have:=aa.size;omega⟩
  have y:Hid (PJ w w6 w.heap.size D.heap.size z.heap.size k n s a b c d f g b):=J;obtain ⟨E,G,H,-⟩:=zl J.pa;obtain ⟨L,M,O,N,K,R,-⟩:=zr J.pb;have ay:=an.symm;clear aa af av p6 ab pa pb ha hb J ar an;obtain ⟨S,-⟩:=zL y.out.pt;cases s with
  | nil =>
   cases c with
   | true =>
    have ci:=Tryz.strconv_Itoa n (by have:=A.out (by simp);have:=o.out.2.2;omega) (by have:=A.out (by simp);omega) w6 (HS.out.below y.out.below).1.2
    go_wp2_with fail
    refine ci.mono ?_;clear ci E G H L M O N K R S;rintro e w7 ⟨rfl,kk,os,Z⟩;have T:PJ w w7 w.heap.size D.heap.size z.heap.size k n [] a b true d f g (b):=y.out.step (by rw [Z];exact Lib.below_grow _ _ (Nat.le_refl _) _ _)
    have W:Hid (PJ w w7 w.heap.size D.heap.size z.heap.size k n [] a b true d f g (b)):=T;have HI:Hid ((Lib.itoa n).length≤21):=Lib.itoa_length_le n (by have:=A.out (by simp);have:=o.out.2.2;omega) (by have:=A.out (by simp);omega)
    obtain ⟨E,G,H,-⟩:=zl T.pa;obtain ⟨L,M,O,N,K,R,-⟩:=zr T.pb;obtain ⟨S,-⟩:=zL T.pt;have I:=ZA z.heap.size (b) (Lib.itoa n) w7 (by have:=o.out.1;omega) (by have:=HI.out;omega) T.pt
    clear Z T y;go_wp2_with fail
    refine I.mono ?_;clear I E G H L M O N K R S;rintro e V ⟨rfl,Q⟩;have J:PJ w V w.heap.size D.heap.size z.heap.size k n [] a b true d f g (b++32::(Lib.itoa n)):=by rw [Q];exact W.out.add _
    have y:Hid (PJ w V w.heap.size D.heap.size z.heap.size k n [] a b true d f g (b++32::(Lib.itoa n))):=J;obtain ⟨E,G,H,-⟩:=zl J.pa;obtain ⟨L,M,O,N,K,R,-⟩:=zr J.pb;obtain ⟨S,-⟩:=zL J.pt;clear Q J W;have HT:Hid (yz k n []=b++32::(Lib.itoa n)):=by show _=_;rw [Y.out];simp
    go_wp2
    go_ret2
    exact ⟨.inl ⟨X.out,by rw [HT.out];first | rfl | simp⟩,y.out.below⟩
   | false =>
    have HT:Hid (yz k n []=b):=by show _=_;rw [Y.out];simp
    go_wp2
    go_ret2
    exact ⟨.inl ⟨X.out,by rw [HT.out];first | rfl | simp⟩,y.out.below⟩
  | cons s0 ss =>
   cases g with
   | nil =>
    cases c with
    | true =>
     have ci:=Tryz.strconv_Itoa n (by have:=A.out (by simp);have:=o.out.2.2;omega) (by have:=A.out (by simp);omega) w6 (HS.out.below y.out.below).1.2
     go_wp2_with fail
     refine ci.mono ?_;clear ci E G H L M O N K R S;rintro e w7 ⟨rfl,kk,os,Z⟩;have T:PJ w w7 w.heap.size D.heap.size z.heap.size k n (s0::ss) a b true d f [] (b):=y.out.step (by rw [Z];exact Lib.below_grow _ _ (Nat.le_refl _) _ _)
     have W:Hid (PJ w w7 w.heap.size D.heap.size z.heap.size k n (s0::ss) a b true d f [] (b)):=T;have HI:Hid ((Lib.itoa n).length≤21):=Lib.itoa_length_le n (by have:=A.out (by simp);have:=o.out.2.2;omega) (by have:=A.out (by simp);omega)
     obtain ⟨E,G,H,-⟩:=zl T.pa;obtain ⟨L,M,O,N,K,R,-⟩:=zr T.pb;obtain ⟨S,-⟩:=zL T.pt;have I:=ZA z.heap.size (b) (Lib.itoa n) w7 (by have:=o.out.1;omega) (by have:=HI.out;omega) T.pt
     clear Z T y;go_wp2_with fail
     refine I.mono ?_;clear I E G H L M O N K R S;rintro e V ⟨rfl,Q⟩;have J:PJ w V w.heap.size D.heap.size z.heap.size k n (s0::ss) a b true d f [] (b++32::(Lib.itoa n)):=by rw [Q];exact W.out.add _
     have y:Hid (PJ w V w.heap.size D.heap.size z.heap.size k n (s0::ss) a b true d f [] (b++32::(Lib.itoa n))):=J;obtain ⟨E,G,H,-⟩:=zl J.pa;obtain ⟨L,M,O,N,K,R,-⟩:=zr J.pb;obtain ⟨S,-⟩:=zL J.pt;clear Q J W;have I:=ZA z.heap.size (b++32::(Lib.itoa n)) (s0::ss) V (by have:=o.out.1;have:=o.out.2.1;have:=HI.out;simp only [List.length_append,List.length_cons] at *;omega) (by have:=ag.out;omega) y.out.pt
     go_wp2_with fail
     refine I.mono ?_;clear I E G H L M O N K R S;rintro e w9 ⟨rfl,Q⟩;have J:PJ w w9 w.heap.size D.heap.size z.heap.size k n (s0::ss) a b true d f [] (b++32::(Lib.itoa n)++32::(s0::ss)):=by rw [Q];exact y.out.add _
     have y:Hid (PJ w w9 w.heap.size D.heap.size z.heap.size k n (s0::ss) a b true d f [] (b++32::(Lib.itoa n)++32::(s0::ss))):=J;obtain ⟨E,G,H,-⟩:=zl J.pa;obtain ⟨L,M,O,N,K,R,-⟩:=zr J.pb;obtain ⟨S,-⟩:=zL J.pt;clear Q J;have HT:Hid (yz k n (s0::ss)=b++32::(Lib.itoa n)++32::(s0::ss)):=by show _=_;rw [Y.out];simp
     go_wp2
     go_ret2
     exact ⟨.inl ⟨X.out,by rw [HT.out];first | rfl | simp⟩,y.out.below⟩
    | false =>
     have I:=ZA z.heap.size (b) (s0::ss) w6 (by have:=o.out.1;omega) (by have:=ag.out;omega) y.out.pt
     go_wp2_with fail
     refine I.mono ?_;clear I E G H L M O N K R S;rintro e V ⟨rfl,Q⟩;have J:PJ w V w.heap.size D.heap.size z.heap.size k n (s0::ss) a b false d f [] (b++32::(s0::ss)):=by rw [Q];exact y.out.add _
     have y:Hid (PJ w V w.heap.size D.heap.size z.heap.size k n (s0::ss) a b false d f [] (b++32::(s0::ss))):=J;obtain ⟨E,G,H,-⟩:=zl J.pa;obtain ⟨L,M,O,N,K,R,-⟩:=zr J.pb;obtain ⟨S,-⟩:=zL J.pt;clear Q J;have HT:Hid (yz k n (s0::ss)=b++32::(s0::ss)):=by show _=_;rw [Y.out];simp
     go_wp2
     go_ret2
     exact ⟨.inl ⟨X.out,by rw [HT.out];first | rfl | simp⟩,y.out.below⟩
   | cons g0 gs =>
    cases c with
    | true =>
     have ci:=Tryz.strconv_Itoa n (by have:=A.out (by simp);have:=o.out.2.2;omega) (by have:=A.out (by simp);omega) w6 (HS.out.below y.out.below).1.2
     go_wp2_with fail
     refine ci.mono ?_;clear ci E G H L M O N K R S;rintro e w7 ⟨rfl,kk,os,Z⟩;have T:PJ w w7 w.heap.size D.heap.size z.heap.size k n (s0::ss) a b true d f (g0::gs) (b):=y.out.step (by rw [Z];exact Lib.below_grow _ _ (Nat.le_refl _) _ _)
     have W:Hid (PJ w w7 w.heap.size D.heap.size z.heap.size k n (s0::ss) a b true d f (g0::gs) (b)):=T;have HI:Hid ((Lib.itoa n).length≤21):=Lib.itoa_length_le n (by have:=A.out (by simp);have:=o.out.2.2;omega) (by have:=A.out (by simp);omega)
     obtain ⟨E,G,H,-⟩:=zl T.pa;obtain ⟨L,M,O,N,K,R,-⟩:=zr T.pb;obtain ⟨S,-⟩:=zL T.pt;have I:=ZA z.heap.size (b) (Lib.itoa n) w7 (by have:=o.out.1;omega) (by have:=HI.out;omega) T.pt
     clear Z T y;go_wp2_with fail
     refine I.mono ?_;clear I E G H L M O N K R S;rintro e V ⟨rfl,Q⟩;have J:PJ w V w.heap.size D.heap.size z.heap.size k n (s0::ss) a b true d f (g0::gs) (b++32::(Lib.itoa n)):=by rw [Q];exact W.out.add _
     have y:Hid (PJ w V w.heap.size D.heap.size z.heap.size k n (s0::ss) a b true d f (g0::gs) (b++32::(Lib.itoa n))):=J;obtain ⟨E,G,H,-⟩:=zl J.pa;obtain ⟨L,M,O,N,K,R,-⟩:=zr J.pb;obtain ⟨S,-⟩:=zL J.pt;clear Q J W;have I:=ZA z.heap.size (b++32::(Lib.itoa n)) (g0::gs) V (by have:=o.out.1;have:=o.out.2.1;have:=HI.out;simp only [List.length_append,List.length_cons] at *;omega) (by have:=o.out.2.1;omega) y.out.pt
     go_wp2_with fail
     refine I.mono ?_;clear I E G H L M O N K R S;rintro e w9 ⟨rfl,Q⟩;have J:PJ w w9 w.heap.size D.heap.size z.heap.size k n (s0::ss) a b true d f (g0::gs) (b++32::(Lib.itoa n)++32::(g0::gs)):=by rw [Q];exact y.out.add _
     have y:Hid (PJ w w9 w.heap.size D.heap.size z.heap.size k n (s0::ss) a b true d f (g0::gs) (b++32::(Lib.itoa n)++32::(g0::gs))):=J;obtain ⟨E,G,H,-⟩:=zl J.pa;obtain ⟨L,M,O,N,K,R,-⟩:=zr J.pb;obtain ⟨S,-⟩:=zL J.pt;clear Q J;have I:=ZA z.heap.size (b++32::(Lib.itoa n)++32::(g0::gs)) (s0::ss) w9 (by have:=o.out.1;have:=o.out.2.1;have:=HI.out;simp only [List.length_append,List.length_cons] at *;omega) (by have:=ag.out;omega) y.out.pt
     go_wp2_with fail
     refine I.mono ?_;clear I E G H L M O N K R S;rintro e am ⟨rfl,Q⟩;have J:PJ w am w.heap.size D.heap.size z.heap.size k n (s0::ss) a b true d f (g0::gs) (b++32::(Lib.itoa n)++32::(g0::gs)++32::(s0::ss)):=by rw [Q];exact y.out.add _
     have y:Hid (PJ w am w.heap.size D.heap.size z.heap.size k n (s0::ss) a b true d f (g0::gs) (b++32::(Lib.itoa n)++32::(g0::gs)++32::(s0::ss))):=J;obtain ⟨E,G,H,-⟩:=zl J.pa;obtain ⟨L,M,O,N,K,R,-⟩:=zr J.pb;obtain ⟨S,-⟩:=zL J.pt;clear Q J;have HT:Hid (yz k n (s0::ss)=b++32::(Lib.itoa n)++32::(g0::gs)++32::(s0::ss)):=by show _=_;rw [Y.out];simp
     go_wp2
     go_ret2
     exact ⟨.inl ⟨X.out,by rw [HT.out];first | rfl | simp⟩,y.out.below⟩
    | false =>
     have I:=ZA z.heap.size (b) (g0::gs) w6 (by have:=o.out.1;omega) (by have:=o.out.2.1;omega) y.out.pt
     go_wp2_with fail
     refine I.mono ?_;clear I E G H L M O N K R S;rintro e V ⟨rfl,Q⟩;have J:PJ w V w.heap.size D.heap.size z.heap.size k n (s0::ss) a b false d f (g0::gs) (b++32::(g0::gs)):=by rw [Q];exact y.out.add _
     have y:Hid (PJ w V w.heap.size D.heap.size z.heap.size k n (s0::ss) a b false d f (g0::gs) (b++32::(g0::gs))):=J;obtain ⟨E,G,H,-⟩:=zl J.pa;obtain ⟨L,M,O,N,K,R,-⟩:=zr J.pb;obtain ⟨S,-⟩:=zL J.pt;clear Q J;have I:=ZA z.heap.size (b++32::(g0::gs)) (s0::ss) V (by have:=o.out.1;have:=o.out.2.1;simp only [List.length_append,List.length_cons] at *;omega) (by have:=ag.out;omega) y.out.pt
     go_wp2_with fail
     refine I.mono ?_;clear I E G H L M O N K R S;rintro e w9 ⟨rfl,Q⟩;have J:PJ w w9 w.heap.size D.heap.size z.heap.size k n (s0::ss) a b false d f (g0::gs) (b++32::(g0::gs)++32::(s0::ss)):=by rw [Q];exact y.out.add _
     have y:Hid (PJ w w9 w.heap.size D.heap.size z.heap.size k n (s0::ss) a b false d f (g0::gs) (b++32::(g0::gs)++32::(s0::ss))):=J;obtain ⟨E,G,H,-⟩:=zl J.pa;obtain ⟨L,M,O,N,K,R,-⟩:=zr J.pb;obtain ⟨S,-⟩:=zL J.pt;clear Q J;have HT:Hid (yz k n (s0::ss)=b++32::(g0::gs)++32::(s0::ss)):=by show _=_;rw [Y.out];simp
     go_wp2
     go_ret2
     exact ⟨.inl ⟨X.out,by rw [HT.out];first | rfl | simp⟩,y.out.below⟩
 ·obtain ⟨U,p0⟩:=HP.out
  have ax:Hid (Below w.heap.size w w2):=ZC U ae;have HN:Hid (¬ yw yi k n s):=aj;clear U p0 ae aj HP;go_wp2
  go_ret2
  exact ⟨.inr ⟨HN.out,rfl⟩,ax.out⟩
end Go.Proofs.YtmbofhpmockmbaaGreatDoor
