import Derived.Test.YtmbofhpmockmbaaGreatDoorMC23
import Derived.Lib.ItoaLen
namespace Go.Proofs.YtmbofhpmockmbaaGreatDoor
open Go.RowKit Go.Shelf
set_option maxHeartbeats 16000000
set_option maxRecDepth 100000
theorem ZO (a b:List UInt8):za a++za b=za (a++b):=by
 apply ByteArray.ext
 rw [ByteArray.data_append]
 simp
theorem yj (g:Nat) (t p:List UInt8) (w:World) (ht:t.length≤1000000) (hp:p.length≤1000000) (hg:w.heap[g]?=some (.cells #[.string (za t)] 9 (0,0))) :
  Calls Tryz.prog 26 #[.string (za p),.pointer (some ⟨g,0,none⟩)] w fun e w'=>e=.returned (.tuple #[])∧w'=w.setCell ⟨g,0,none⟩ (.string (za (t++32::p))):=by
 obtain ⟨z,o⟩:=Zq hg;have y:(⟨#[32]⟩:ByteArray)++za p=za (32::p):=ZO [32] p;have h:za t++za (32::p)=za (t++32::p):=ZO t _;have E:(za p).size=p.length:=rfl;have D:(za t).size=t.length:=rfl;have A:(za (32::p)).size=p.length+1:=rfl;clear hg
 go_enter Tryz.func26,Tryz.ntmps26
 go_wp2
 go_end0
 exact ⟨rfl,rfl⟩
theorem vw (s:List UInt8) (w:World) (hs:s.length≤1000000):Calls Tryz.prog 25 #[.string (za s)] w fun e w'=>e=.returned (.string (za s))∧Below w.heap.size w w':=by
 have h:=Tryz.stringslite_Clone (za s) w (by show s.length≤_;omega)
 go_enter Tryz.func25,Tryz.ntmps25
 go_wp2_with fail
 refine h.mono ?_;clear h;rintro e y ⟨rfl,o⟩;go_wp2
 go_ret
 exact ⟨rfl,o⟩
theorem YK (k:Int):(ofKind k).2.1.length≤20∧(ofKind k).2.2.2.2.2.length≤20∧0≤(ofKind k).2.2.2.1:=by
 by_cases hk:k<1∨17<k
 ·rw [y6 k hk];decide
 ·exact YR (P:=fun k=>(ofKind k).2.1.length≤20∧(ofKind k).2.2.2.2.2.length≤20∧0≤(ofKind k).2.2.2.1) (by decide) (by decide) (by decide) (by decide) (by decide) (by decide) (by decide) (by decide) (by decide) (by decide) (by decide) (by decide) (by decide) (by decide) (by decide) (by decide) (by decide) k (by omega) (by omega)
theorem Xd {k n:Int} {s:List UInt8} (h:Zt Zy k n s):s.length≤255:=by
 cases hf:(ofKind k).2.2.2.2.1 with
 | false=>rw [h.2.2.1 hf];exact Nat.zero_le _
 | true =>
  rcases h.2.2.2.2 hf with h | h
  ·rw [h.1];exact Nat.zero_le _
  ·exact h.1
structure PJ (w wr:World) (A B T:Nat) (k n:Int) (s:List UInt8) (a:Int) (b:List UInt8) (c:Bool) (d:Int) (f:Bool) (g t:List UInt8):Prop where
 below:Below w.heap.size w wr
 pa:wr.heap[A]?=some (.cells #[.int .i64 k,.int .i64 n,.string (za s)] 24 (0,0))
 pb:wr.heap[B]?=some (.cells #[.int .i64 a,.string (za b),.bool c,.int .i64 d,.bool f,.string (za g)] 55 (0,0))
 pt:wr.heap[T]?=some (.cells #[.string (za t)] 9 (0,0))
 hA:A<T
 hB:B<T
 hT:w.heap.size≤T
theorem PJ.step {w wr wx:World} {A B T:Nat} {k n:Int} {s:List UInt8} {a:Int} {b:List UInt8} {c:Bool} {d:Int} {f:Bool} {g t:List UInt8} (h:PJ w wr A B T k n s a b c d f g t) (hb:Below wr.heap.size wr wx):PJ w wx A B T k n s a b c d f g t :=
 ⟨yb h.below hb,(hb.block _ (y7 h.pa)).trans h.pa,(hb.block _ (y7 h.pb)).trans h.pb,(hb.block _ (y7 h.pt)).trans h.pt,h.hA,h.hB,h.hT⟩
theorem PJ.add {w wr:World} {A B T:Nat} {k n:Int} {s:List UInt8} {a:Int} {b:List UInt8} {c:Bool} {d:Int} {f:Bool} {g t:List UInt8} (h:PJ w wr A B T k n s a b c d f g t) (u:List UInt8):PJ w (wr.setCell ⟨T,0,none⟩ (.string (za u))) A B T k n s a b c d f g u :=
 ⟨h.below.setCell h.hT _,by rw [Below.heap_setCell _ _ _ _ (by have:=h.hA;simp;omega)];exact h.pa,by rw [Below.heap_setCell _ _ _ _ (by have:=h.hB;simp;omega)];exact h.pb,xR h.pt _,h.hA,h.hB,h.hT⟩
theorem vx (k n:Int) (s:List UInt8) (w:World) (hS:xX w) :
  Calls Tryz.prog 9 #[yJ k n s] w fun e w'=>(Zt Zy k n s∧e=.returned (.tuple #[.string (za (Zv k n s)),.int .i64 0])∨¬ Zt Zy k n s∧e=.returned (.tuple #[.string ⟨#[]⟩,.int .i64 2]))∧Below w.heap.size w w':=by
 have HS:Hid (xX w):=hS;have az:∀(fn:Fn) (first cap:Array Value) (w:World),(Instr.makeFunc fn first cap).run Tryz.prog w=.ok (.func fn first cap) w:=fun _ _ _ _=>rfl
 obtain ⟨w1,ak,U,av,p0⟩:=y8 w (.cells #[.int .i64 k,.int .i64 n,.string (za s)] 24 (0,0));have cc:=qJ k n s w1 (hS.below U);obtain ⟨E,D,G,-⟩:=zw p0;have HP:Hid (Below w.heap.size w w1∧w1.heap[w.heap.size]?=some (.cells #[.int .i64 k,.int .i64 n,.string (za s)] 24 (0,0))):=⟨U,p0⟩;have an:=ak.symm
 unfold yJ at cc ⊢
 clear hS U ak p0 av
 go_enter Tryz.func9,Tryz.ntmps9
 go_wp2_with fail
 refine cc.mono ?_;clear cc E D G an;rintro e w2 ⟨⟨aj,rfl⟩ | ⟨ap,rfl⟩,ae⟩
 ·obtain ⟨U,p0⟩:=HP.out
  have ai:w2.heap[w.heap.size]?=_:=(ae.block _ (y7 p0)).trans p0;obtain ⟨E,D,G,-⟩:=zw ai;have ad:Hid (Below w.heap.size w w2∧w2.heap[w.heap.size]?=some (.cells #[.int .i64 k,.int .i64 n,.string (za s)] 24 (0,0))):=⟨yb U ae,ai⟩;have Y:Hid (Zt Zy k n s):=aj;have cw:=XK k w2;clear HP U ae p0 ai aj;go_wp2_with fail
  refine cw.mono ?_;clear cw E D G;rintro e A ⟨rfl,af⟩;have ag:Hid (s.length≤255):=Xd Y.out;have h:Hid ((ofKind k).2.1.length≤20∧(ofKind k).2.2.2.2.2.length≤20∧0≤(ofKind k).2.2.2.1):=YK k;have z:Hid ((ofKind k).2.2.1=true→(ofKind k).2.2.2.1≤n∧n≤4294967296):=Y.out.2.2.2.1;have V:Hid (Zv k n s=(ofKind k).2.1++(if (ofKind k).2.2.1=true then 32::Lib.itoa n else [])++(if s≠[]∧(ofKind k).2.2.2.2.2≠[] then 32::(ofKind k).2.2.2.2.2 else [])++(if s≠[] then 32::s else [])):=rfl
  generalize ofKind k=r at h z V ⊢;obtain ⟨a,b,c,d,f,g⟩:=r
  unfold wV
  simp only at h z V ⊢;obtain ⟨w4,ao,ab,aw,p4⟩:=y8 A (.cells #[.int .i64 a,.string (za b),.bool c,.int .i64 d,.bool f,.string (za g)] 55 (0,0))
  have am:Hid (Below w.heap.size w w4∧w4.heap[w.heap.size]?=some (.cells #[.int .i64 k,.int .i64 n,.string (za s)] 24 (0,0))∧w4.heap[A.heap.size]?=some (.cells #[.int .i64 a,.string (za b),.bool c,.int .i64 d,.bool f,.string (za g)] 55 (0,0))∧w.heap.size<w4.heap.size∧A.heap.size<w4.heap.size) :=
   ⟨yb ad.out.1 (yb af ab),((yb af ab).block _ (y7 ad.out.2)).trans ad.out.2,p4,by have:=y7 ad.out.2;have:=af.size;omega,by omega⟩
  have ck:=vw b w4 (by have:=h.out.1;omega)
  obtain ⟨H,L,Q,I,M,N,-⟩:=zG p4;have ar:=ao.symm;clear ad af ao ab aw p4;go_wp2_with fail
  refine ck.mono ?_;clear ck H L Q I M N ar;rintro e y ⟨rfl,aa⟩;obtain ⟨w6,aq,ah,ax,p6⟩:=y8 y (.cells #[.string (za b)] 9 (0,0));obtain ⟨ab,pa,pb,ha,hb⟩:=am.out
  have J:PJ w w6 w.heap.size A.heap.size y.heap.size k n s a b c d f g b :=
   ⟨yb ab (yb aa ah),((yb aa ah).block _ (y7 pa)).trans pa,((yb aa ah).block _ (y7 pb)).trans pb,p6,by have:=aa.size;omega,by have:=aa.size;omega,by have:=aa.size;omega⟩
  have o:Hid (PJ w w6 w.heap.size A.heap.size y.heap.size k n s a b c d f g b):=J;obtain ⟨E,D,G,-⟩:=zw J.pa;obtain ⟨H,L,Q,I,M,N,-⟩:=zG J.pb;have ay:=aq.symm;clear aa ah ax p6 ab pa pb ha hb J am aq;obtain ⟨R,-⟩:=Zq o.out.pt;cases s with
  | nil =>
   cases c with
   | true =>
    have ci:=Tryz.strconv_Itoa n (by have:=z.out (by simp);have:=h.out.2.2;omega) (by have:=z.out (by simp);omega) w6 (HS.out.below o.out.below).1.2
    go_wp2_with fail
    refine ci.mono ?_;clear ci E D G H L Q I M N R;rintro e w7 ⟨rfl,kk,os,W⟩;have T:PJ w w7 w.heap.size A.heap.size y.heap.size k n [] a b true d f g (b):=o.out.step (by rw [W];exact Lib.below_grow _ _ (Nat.le_refl _) _ _)
    have Z:Hid (PJ w w7 w.heap.size A.heap.size y.heap.size k n [] a b true d f g (b)):=T;have HI:Hid ((Lib.itoa n).length≤21):=Lib.itoa_length_le n (by have:=z.out (by simp);have:=h.out.2.2;omega) (by have:=z.out (by simp);omega)
    obtain ⟨E,D,G,-⟩:=zw T.pa;obtain ⟨H,L,Q,I,M,N,-⟩:=zG T.pb;obtain ⟨R,-⟩:=Zq T.pt;have O:=yj y.heap.size (b) (Lib.itoa n) w7 (by have:=h.out.1;omega) (by have:=HI.out;omega) T.pt
    clear W T o;go_wp2_with fail
    refine O.mono ?_;clear O E D G H L Q I M N R;rintro e X ⟨rfl,K⟩;have J:PJ w X w.heap.size A.heap.size y.heap.size k n [] a b true d f g (b++32::(Lib.itoa n)):=by rw [K];exact Z.out.add _
    have o:Hid (PJ w X w.heap.size A.heap.size y.heap.size k n [] a b true d f g (b++32::(Lib.itoa n))):=J;obtain ⟨E,D,G,-⟩:=zw J.pa;obtain ⟨H,L,Q,I,M,N,-⟩:=zG J.pb;obtain ⟨R,-⟩:=Zq J.pt;clear K J Z;have HT:Hid (Zv k n []=b++32::(Lib.itoa n)):=by show _=_;rw [V.out];simp
    go_wp2
    go_ret2
    exact ⟨.inl ⟨Y.out,by rw [HT.out];first | rfl | simp⟩,o.out.below⟩
   | false =>
    have HT:Hid (Zv k n []=b):=by show _=_;rw [V.out];simp
    go_wp2
    go_ret2
    exact ⟨.inl ⟨Y.out,by rw [HT.out];first | rfl | simp⟩,o.out.below⟩
  | cons s0 ss =>
   cases g with
   | nil =>
    cases c with
    | true =>
     have ci:=Tryz.strconv_Itoa n (by have:=z.out (by simp);have:=h.out.2.2;omega) (by have:=z.out (by simp);omega) w6 (HS.out.below o.out.below).1.2
     go_wp2_with fail
     refine ci.mono ?_;clear ci E D G H L Q I M N R;rintro e w7 ⟨rfl,kk,os,W⟩;have T:PJ w w7 w.heap.size A.heap.size y.heap.size k n (s0::ss) a b true d f [] (b):=o.out.step (by rw [W];exact Lib.below_grow _ _ (Nat.le_refl _) _ _)
     have Z:Hid (PJ w w7 w.heap.size A.heap.size y.heap.size k n (s0::ss) a b true d f [] (b)):=T;have HI:Hid ((Lib.itoa n).length≤21):=Lib.itoa_length_le n (by have:=z.out (by simp);have:=h.out.2.2;omega) (by have:=z.out (by simp);omega)
     obtain ⟨E,D,G,-⟩:=zw T.pa;obtain ⟨H,L,Q,I,M,N,-⟩:=zG T.pb;obtain ⟨R,-⟩:=Zq T.pt;have O:=yj y.heap.size (b) (Lib.itoa n) w7 (by have:=h.out.1;omega) (by have:=HI.out;omega) T.pt
     clear W T o;go_wp2_with fail
     refine O.mono ?_;clear O E D G H L Q I M N R;rintro e X ⟨rfl,K⟩;have J:PJ w X w.heap.size A.heap.size y.heap.size k n (s0::ss) a b true d f [] (b++32::(Lib.itoa n)):=by rw [K];exact Z.out.add _
     have o:Hid (PJ w X w.heap.size A.heap.size y.heap.size k n (s0::ss) a b true d f [] (b++32::(Lib.itoa n))):=J;obtain ⟨E,D,G,-⟩:=zw J.pa;obtain ⟨H,L,Q,I,M,N,-⟩:=zG J.pb;obtain ⟨R,-⟩:=Zq J.pt;clear K J Z;have O:=yj y.heap.size (b++32::(Lib.itoa n)) (s0::ss) X (by have:=h.out.1;have:=h.out.2.1;have:=HI.out;simp only [List.length_append,List.length_cons] at *;omega) (by have:=ag.out;omega) o.out.pt
     go_wp2_with fail
     refine O.mono ?_;clear O E D G H L Q I M N R;rintro e w9 ⟨rfl,K⟩;have J:PJ w w9 w.heap.size A.heap.size y.heap.size k n (s0::ss) a b true d f [] (b++32::(Lib.itoa n)++32::(s0::ss)):=by rw [K];exact o.out.add _
     have o:Hid (PJ w w9 w.heap.size A.heap.size y.heap.size k n (s0::ss) a b true d f [] (b++32::(Lib.itoa n)++32::(s0::ss))):=J;obtain ⟨E,D,G,-⟩:=zw J.pa;obtain ⟨H,L,Q,I,M,N,-⟩:=zG J.pb;obtain ⟨R,-⟩:=Zq J.pt;clear K J;have HT:Hid (Zv k n (s0::ss)=b++32::(Lib.itoa n)++32::(s0::ss)):=by show _=_;rw [V.out];simp
     go_wp2
     go_ret2
     exact ⟨.inl ⟨Y.out,by rw [HT.out];first | rfl | simp⟩,o.out.below⟩
    | false =>
     have O:=yj y.heap.size (b) (s0::ss) w6 (by have:=h.out.1;omega) (by have:=ag.out;omega) o.out.pt
     go_wp2_with fail
     refine O.mono ?_;clear O E D G H L Q I M N R;rintro e X ⟨rfl,K⟩;have J:PJ w X w.heap.size A.heap.size y.heap.size k n (s0::ss) a b false d f [] (b++32::(s0::ss)):=by rw [K];exact o.out.add _
     have o:Hid (PJ w X w.heap.size A.heap.size y.heap.size k n (s0::ss) a b false d f [] (b++32::(s0::ss))):=J;obtain ⟨E,D,G,-⟩:=zw J.pa;obtain ⟨H,L,Q,I,M,N,-⟩:=zG J.pb;obtain ⟨R,-⟩:=Zq J.pt;clear K J;have HT:Hid (Zv k n (s0::ss)=b++32::(s0::ss)):=by show _=_;rw [V.out];simp
     go_wp2
     go_ret2
     exact ⟨.inl ⟨Y.out,by rw [HT.out];first | rfl | simp⟩,o.out.below⟩
   | cons g0 gs =>
    cases c with
    | true =>
     have ci:=Tryz.strconv_Itoa n (by have:=z.out (by simp);have:=h.out.2.2;omega) (by have:=z.out (by simp);omega) w6 (HS.out.below o.out.below).1.2
     go_wp2_with fail
     refine ci.mono ?_;clear ci E D G H L Q I M N R;rintro e w7 ⟨rfl,kk,os,W⟩;have T:PJ w w7 w.heap.size A.heap.size y.heap.size k n (s0::ss) a b true d f (g0::gs) (b):=o.out.step (by rw [W];exact Lib.below_grow _ _ (Nat.le_refl _) _ _)
     have Z:Hid (PJ w w7 w.heap.size A.heap.size y.heap.size k n (s0::ss) a b true d f (g0::gs) (b)):=T;have HI:Hid ((Lib.itoa n).length≤21):=Lib.itoa_length_le n (by have:=z.out (by simp);have:=h.out.2.2;omega) (by have:=z.out (by simp);omega)
     obtain ⟨E,D,G,-⟩:=zw T.pa;obtain ⟨H,L,Q,I,M,N,-⟩:=zG T.pb;obtain ⟨R,-⟩:=Zq T.pt;have O:=yj y.heap.size (b) (Lib.itoa n) w7 (by have:=h.out.1;omega) (by have:=HI.out;omega) T.pt
     clear W T o;go_wp2_with fail
     refine O.mono ?_;clear O E D G H L Q I M N R;rintro e X ⟨rfl,K⟩;have J:PJ w X w.heap.size A.heap.size y.heap.size k n (s0::ss) a b true d f (g0::gs) (b++32::(Lib.itoa n)):=by rw [K];exact Z.out.add _
     have o:Hid (PJ w X w.heap.size A.heap.size y.heap.size k n (s0::ss) a b true d f (g0::gs) (b++32::(Lib.itoa n))):=J;obtain ⟨E,D,G,-⟩:=zw J.pa;obtain ⟨H,L,Q,I,M,N,-⟩:=zG J.pb;obtain ⟨R,-⟩:=Zq J.pt;clear K J Z;have O:=yj y.heap.size (b++32::(Lib.itoa n)) (g0::gs) X (by have:=h.out.1;have:=h.out.2.1;have:=HI.out;simp only [List.length_append,List.length_cons] at *;omega) (by have:=h.out.2.1;omega) o.out.pt
     go_wp2_with fail
     refine O.mono ?_;clear O E D G H L Q I M N R;rintro e w9 ⟨rfl,K⟩;have J:PJ w w9 w.heap.size A.heap.size y.heap.size k n (s0::ss) a b true d f (g0::gs) (b++32::(Lib.itoa n)++32::(g0::gs)):=by rw [K];exact o.out.add _
     have o:Hid (PJ w w9 w.heap.size A.heap.size y.heap.size k n (s0::ss) a b true d f (g0::gs) (b++32::(Lib.itoa n)++32::(g0::gs))):=J;obtain ⟨E,D,G,-⟩:=zw J.pa;obtain ⟨H,L,Q,I,M,N,-⟩:=zG J.pb;obtain ⟨R,-⟩:=Zq J.pt;clear K J;have O:=yj y.heap.size (b++32::(Lib.itoa n)++32::(g0::gs)) (s0::ss) w9 (by have:=h.out.1;have:=h.out.2.1;have:=HI.out;simp only [List.length_append,List.length_cons] at *;omega) (by have:=ag.out;omega) o.out.pt
     go_wp2_with fail
     refine O.mono ?_;clear O E D G H L Q I M N R;rintro e al ⟨rfl,K⟩;have J:PJ w al w.heap.size A.heap.size y.heap.size k n (s0::ss) a b true d f (g0::gs) (b++32::(Lib.itoa n)++32::(g0::gs)++32::(s0::ss)):=by rw [K];exact o.out.add _
     have o:Hid (PJ w al w.heap.size A.heap.size y.heap.size k n (s0::ss) a b true d f (g0::gs) (b++32::(Lib.itoa n)++32::(g0::gs)++32::(s0::ss))):=J;obtain ⟨E,D,G,-⟩:=zw J.pa;obtain ⟨H,L,Q,I,M,N,-⟩:=zG J.pb;obtain ⟨R,-⟩:=Zq J.pt;clear K J;have HT:Hid (Zv k n (s0::ss)=b++32::(Lib.itoa n)++32::(g0::gs)++32::(s0::ss)):=by show _=_;rw [V.out];simp
     go_wp2
     go_ret2
     exact ⟨.inl ⟨Y.out,by rw [HT.out];first | rfl | simp⟩,o.out.below⟩
    | false =>
     have O:=yj y.heap.size (b) (g0::gs) w6 (by have:=h.out.1;omega) (by have:=h.out.2.1;omega) o.out.pt
     go_wp2_with fail
     refine O.mono ?_;clear O E D G H L Q I M N R;rintro e X ⟨rfl,K⟩;have J:PJ w X w.heap.size A.heap.size y.heap.size k n (s0::ss) a b false d f (g0::gs) (b++32::(g0::gs)):=by rw [K];exact o.out.add _
     have o:Hid (PJ w X w.heap.size A.heap.size y.heap.size k n (s0::ss) a b false d f (g0::gs) (b++32::(g0::gs))):=J;obtain ⟨E,D,G,-⟩:=zw J.pa;obtain ⟨H,L,Q,I,M,N,-⟩:=zG J.pb;obtain ⟨R,-⟩:=Zq J.pt;clear K J;have O:=yj y.heap.size (b++32::(g0::gs)) (s0::ss) X (by have:=h.out.1;have:=h.out.2.1;simp only [List.length_append,List.length_cons] at *;omega) (by have:=ag.out;omega) o.out.pt
     go_wp2_with fail
     refine O.mono ?_;clear O E D G H L Q I M N R;rintro e w9 ⟨rfl,K⟩;have J:PJ w w9 w.heap.size A.heap.size y.heap.size k n (s0::ss) a b false d f (g0::gs) (b++32::(g0::gs)++32::(s0::ss)):=by rw [K];exact o.out.add _
     have o:Hid (PJ w w9 w.heap.size A.heap.size y.heap.size k n (s0::ss) a b false d f (g0::gs) (b++32::(g0::gs)++32::(s0::ss))):=J;obtain ⟨E,D,G,-⟩:=zw J.pa;obtain ⟨H,L,Q,I,M,N,-⟩:=zG J.pb;obtain ⟨R,-⟩:=Zq J.pt;clear K J;have HT:Hid (Zv k n (s0::ss)=b++32::(g0::gs)++32::(s0::ss)):=by show _=_;rw [V.out];simp
     go_wp2
     go_ret2
     exact ⟨.inl ⟨Y.out,by rw [HT.out];first | rfl | simp⟩,o.out.below⟩
 ·obtain ⟨U,p0⟩:=HP.out
  have au:Hid (Below w.heap.size w w2):=yb U ae;have HN:Hid (¬ Zt Zy k n s):=ap;clear U p0 ae ap HP;go_wp2
  go_ret2
  exact ⟨.inr ⟨HN.out,rfl⟩,au.out⟩
end Go.Proofs.YtmbofhpmockmbaaGreatDoor
