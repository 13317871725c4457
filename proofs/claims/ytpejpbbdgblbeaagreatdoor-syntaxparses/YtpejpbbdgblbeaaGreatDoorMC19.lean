import Derived.Test.YtpejpbbdgblbeaaGreatDoorMC16
import Derived.Deep.RegionWith
import Derived.Deep.CutRange
namespace Go.Proofs.YtpejpbbdgblbeaaGreatDoor
open Go.RowKit Go.Shelf
set_option maxHeartbeats 16000000
set_option maxRecDepth 100000
theorem vB {w:World} {N:Nat} (ob:Obj) (a b c d e:Value) (h:N<w.heap.size):set5 (w.alloc ob) N a b c d e=(set5 w N a b c d e).alloc ob:=by
 have key:∀(W:World) (i:Nat) (v:Value),N<W.heap.size→(W.alloc ob).setCell ⟨N,i,none⟩ v=(W.setCell ⟨N,i,none⟩ v).alloc ob:=fun W i v hp=>World.setCell_alloc_past ob N i v hp
 simp only [set5];rw [key _ _ _ h,key _ _ _ (by simpa using h),key _ _ _ (by simpa using h),key _ _ _ (by simpa using h),key _ _ _ (by simpa using h)]
theorem yB.two {r g N F f:Nat} {w wr wE w7:World} {res:PR Ex} {p:Nat→Ex→List Tk→Option (PR Ex)} {e x:Ex} {us:List Tk} {o cap:Nat} {a2:Int} {b2:ByteArray} {c2:Int} {p2:Option Addr} {q2 s2:Nat} {l2:Int} {a3:Int} {b3:ByteArray} {c3:Int} {u0:Option Addr} {u1 u2:Nat} {l3:Int}
  (k:Nat) (s:List UInt8) (hr:r<w.heap.size) (hg:g<w.heap.size) (hNw:w.heap.size<N) (hN:N<wE.heap.size)
  (hx:zY (fun k=>w.heap.size<k∧k≠N) wr e (.agg #[.int .i64 a2,.string b2,.int .i64 c2,.slice p2 q2 s2,.int .i64 l2])) (hkr:zc r w wr) (hkE:zc r wr wE) (hk7:zc r wE w7)
  (p7:w7.heap[N]?=some (.cells #[.int .i64 a2,.string b2,.int .i64 c2,.slice p2 q2 s2,.int .i64 l2] 45 (0,0))) (hz:wE.heap[w.heap.size]?=some ZA)
  (hx7:ZO wE.heap.size w7 x (.agg #[.int .i64 a3,.string b3,.int .i64 c3,.slice u0 u1 u2,.int .i64 l3])) (hrd:zh r g o cap us w7)
  (hf:f≤F) (hp:p f (.mk k s 0 [e,x] e.line) us=some res) (hE:zj us) (hlen:us.length≤1099511627776) (kv:Value) (hkv:kv=.int .i64 k) (W:World)
  (hW:W=(set5 w7 N kv (.string (za s)) (.int .i64 0) (.slice (some ⟨w7.heap.size,0,none⟩) 2 2) (.int .i64 l2)).alloc (.cells #[.int .i64 a2,.string b2,.int .i64 c2,.slice p2 q2 s2,.int .i64 l2,.int .i64 a3,.string b3,.int .i64 c3,.slice u0 u1 u2,.int .i64 l3] 45)) :
  yB r g N F w res p W∧yu r W=us.length:=by
 obtain rfl:l2=(e.line:Int):=hx.line_eq;rw [←vB _ _ _ _ _ _ (Array.getElem?_eq_some_iff.1 p7).1] at hW;subst hkv;have hs7:=hk7.size;have hsE:=hkE.size;have hsr:=hkr.size;have hkw:=(hkr.trans hkE).trans hk7;obtain ⟨t7,ts7,rfl⟩:=hE.cons;have hxe:=zY.kept (zY.kept hx hkE.size fun k hk' hlt=>hkE.block k hlt (by omega)) hk7.size fun k hk' hlt=>hk7.block k hlt (by omega)
 have hrow:=zv.two 45 (c:=[.int .i64 a2,.string b2,.int .i64 c2,.slice p2 q2 s2,.int .i64 (e.line:Int)]) (d:=[.int .i64 a3,.string b3,.int .i64 c3,.slice u0 u1 u2,.int .i64 l3]) hxe (zY.wide hx7 fun k hk'=>⟨by omega,by omega⟩) rfl rfl ⟨by omega,by omega⟩
 simp only [List.cons_append,List.nil_append] at hrow;have hJ:=yB.store (p:=p) (res:=res) (f:=f) (F:=F) k s 0 e.line hr hg hNw hkw p7 hrow hrd ((hk7.block _ (by omega) (by omega)).trans hz) hf hp hE hlen
 have hrdW:=(hrd.alloc (.cells #[.int .i64 a2,.string b2,.int .i64 c2,.slice p2 q2 s2,.int .i64 (e.line:Int),.int .i64 a3,.string b3,.int .i64 c3,.slice u0 u1 u2,.int .i64 l3] 45)).keep (w':=W) (by rw [hW];exact zw _ _ _ _ _ _ _ (by omega)) (by rw [hW];exact zw _ _ _ _ _ _ _ (by omega))
 rw [←hW] at hJ;exact ⟨hJ,hrdW.left⟩
theorem yB.one {r g N F f:Nat} {w wr wE w7:World} {res:PR Ex} {p:Nat→Ex→List Tk→Option (PR Ex)} {e:Ex} {us:List Tk} {o cap:Nat} {a2:Int} {b2:ByteArray} {c2:Int} {p2:Option Addr} {q2 s2:Nat} {l2:Int}
  (k:Nat) (s:List UInt8) (hr:r<w.heap.size) (hg:g<w.heap.size) (hNw:w.heap.size<N) (hN:N<wE.heap.size)
  (hx:zY (fun k=>w.heap.size<k∧k≠N) wr e (.agg #[.int .i64 a2,.string b2,.int .i64 c2,.slice p2 q2 s2,.int .i64 l2])) (hkr:zc r w wr) (hkE:zc r wr wE) (hk7:zc r wE w7)
  (p7:w7.heap[N]?=some (.cells #[.int .i64 a2,.string b2,.int .i64 c2,.slice p2 q2 s2,.int .i64 l2] 45 (0,0))) (hz:wE.heap[w.heap.size]?=some ZA) (hrd:zh r g o cap us w7)
  (hf:f≤F) (hp:p f (.mk k s 0 [e] e.line) us=some res) (hE:zj us) (hlen:us.length≤1099511627776) (kv:Value) (hkv:kv=.int .i64 k) (W:World)
  (hW:W=(set5 w7 N kv (.string (za s)) (.int .i64 0) (.slice (some ⟨w7.heap.size,0,none⟩) 1 1) (.int .i64 l2)).alloc (.cells #[.int .i64 a2,.string b2,.int .i64 c2,.slice p2 q2 s2,.int .i64 l2] 45)) :
  yB r g N F w res p W∧yu r W=us.length:=by
 obtain rfl:l2=(e.line:Int):=hx.line_eq;rw [←vB _ _ _ _ _ _ (Array.getElem?_eq_some_iff.1 p7).1] at hW;subst hkv;have hs7:=hk7.size;have hsE:=hkE.size;have hsr:=hkr.size;have hkw:=(hkr.trans hkE).trans hk7;obtain ⟨t7,ts7,rfl⟩:=hE.cons;have hxe:=zY.kept (zY.kept hx hkE.size fun k hk' hlt=>hkE.block k hlt (by omega)) hk7.size fun k hk' hlt=>hk7.block k hlt (by omega)
 have hrow:=zv.one 45 (c:=[.int .i64 a2,.string b2,.int .i64 c2,.slice p2 q2 s2,.int .i64 (e.line:Int)]) hxe rfl ⟨by omega,by omega⟩
 have hJ:=yB.store (p:=p) (res:=res) (f:=f) (F:=F) k s 0 e.line hr hg hNw hkw p7 hrow hrd ((hk7.block _ (by omega) (by omega)).trans hz) hf hp hE hlen
 have hrdW:=(hrd.alloc (.cells #[.int .i64 a2,.string b2,.int .i64 c2,.slice p2 q2 s2,.int .i64 (e.line:Int)] 45)).keep (w':=W) (by rw [hW];exact zw _ _ _ _ _ _ _ (by omega)) (by rw [hW];exact zw _ _ _ _ _ _ _ (by omega))
 rw [←hW] at hJ;exact ⟨hJ,hrdW.left⟩
theorem zen (r g o cap F least:Nat) (ts:List Tk) (w:World) (res:PR Ex) (h:zh r g o cap ts w) (hE:zj ts) (hN:ts.length≤1099511627776) (hlev:ZS w) (hrl:r≠1) (hl:least≤6) (hp:zk (F+1) least ts=some res)
  (hbt:∀w1 o1 cap1 ts1 r1,zk F (least+1) ts1=some r1→zj ts1→ts1.length≤1099511627776→zh r g o1 cap1 ts1 w1→zc r w w1→Calls Tryz.prog 86 #[.pointer (some ⟨r,0,none⟩),.int .i64 ((least:Int)+1)] w1 (zQ r g w1 r1)) :
  Calls Tryz.prog 86 #[.pointer (some ⟨r,0,none⟩),.int .i64 least] w (zQ r g w res):=by
 obtain ⟨t0,ts0,rfl⟩:=hE.cons;have hr:=h.lt.1;have hgw:=h.lt.2;rw [zk,if_neg (by omega)] at hp
 cases hb:zk F (least+1) (t0::ts0) with
 | none=>rw [hb] at hp;cases hp
 | some r1 =>
  obtain ⟨w0,hw0⟩:∃w0,w0=w.alloc ZA:=⟨_,rfl⟩;have c1:=hbt w0 o cap (t0::ts0) r1 hb hE hN (by rw [hw0];exact h.alloc _) (by rw [hw0];exact (zc.refl r w).alloc _)
  rw [hb] at hp;simp only [zq] at hp;have hl':¬(6:Int)<(least:Int):=by omega
  have HW0:Hid (w0=w.alloc ZA):=hw0;have HBT:Hid (∀w1 o1 cap1 ts1 r1,zk F (least+1) ts1=some r1→zj ts1→ts1.length≤1099511627776→zh r g o1 cap1 ts1 w1→zc r w w1→Calls Tryz.prog 86 #[.pointer (some ⟨r,0,none⟩),.int .i64 ((least:Int)+1)] w1 (zQ r g w1 r1)):=hbt;clear hw0 hbt
  go_enter Tryz.func86,Tryz.ntmps86
  go_wp2_with fail
  rw [←HW0.out];refine c1.mono ?_;clear c1;rintro e w1 ⟨hk1,hpost⟩;have hkk:zc r w w1:=by have:=HW0.out;subst this;exact ((zc.refl r w).alloc _).trans hk1
  rcases r1 with a | ⟨x,us⟩
  ·obtain rfl:=hpost
   simp only [Option.some.injEq] at hp;subst hp;exact ⟨rfl,hkk,rfl⟩
  ·obtain ⟨v,o1,cap1,rfl,hx,hrd⟩:=hpost
   obtain ⟨a,b,c,d0,d1,d2,l,rfl⟩:=hx.agg;have hE1:=(ZF F).1 _ _ _ _ hb hE;have hl1:=xj hb;have hJ:=yB.start (p:=fun f e ts=>Z5 f least e ts) (res:=res) HW0.out hr hk1 hx hrd hp hE1 (by omega)
   have HJ:Hid (yB r g w1.heap.size F w res (fun f e ts=>Z5 f least e ts) (w1.alloc (.cells #[.int .i64 a,.string b,.int .i64 c,.slice d0 d1 d2,.int .i64 l] 45))):=hJ
   have hNw:w.heap.size<w1.heap.size:=by have:=hk1.size;have h2:=HW0.out;subst h2;simp at this;omega
   obtain ⟨N,hNe⟩:∃N,N=w1.heap.size:=⟨_,rfl⟩;rw [←hNe] at HJ hNw;have HLV:Hid (ZS w):=hlev;clear hJ hx hrd hk1 hE1 hp hb hE hN h hl1 hkk hlev HW0;go_wp2_with fail
   rw [←hNe];generalize hW0:w1.alloc (.cells #[.int .i64 a,.string b,.int .i64 c,.slice d0 d1 d2,.int .i64 l] 45)=W0 at *;clear hW0 hNe
   go_loopw [6] (fun _ wr=>yB r g N F w res (fun f e ts=>Z5 f least e ts) wr) (fun _ wr=>yu r wr)
   case atStart=>exact HJ.out
   case round =>
    obtain ⟨e,ts2,o2,cap2,f2,a2,b2,c2,p2,q2,s2,l2,hf2,hT,hE2,hN2,hblk,hx2,hrd2,hk2,hz2⟩:=hrel;obtain ⟨t2,ts3,rfl⟩:=hE2.cons;obtain rfl:l2=(e.line:Int):=hx2.line_eq;clear HJ;have ch:=yR r g o2 cap2 t2 ts3 wr hrd2;have hleft:=hrd2.left
    have HEX:Hid (∀W,zc r wr W→zh r g o2 cap2 (t2::ts3) W→W.heap[N]?=some (.cells #[.int .i64 a2,.string b2,.int .i64 c2,.slice p2 q2 s2,.int .i64 (e.line:Int)] 45 (0,0))∧W.heap[w.heap.size]?=some ZA ∧
     zQ r g w (.ok (e,t2::ts3)) (.returned (.agg #[.int .i64 a2,.string b2,.int .i64 c2,.slice p2 q2 s2,.int .i64 (e.line:Int)])) (set5 W w.heap.size (.int .i64 a2) (.string b2) (.int .i64 c2) (.slice p2 q2 s2) (.int .i64 (e.line:Int)))) :=
     fun W hK hrd=>yB.leave hr hgw hNw hk2 hblk hz2 hx2 hK hrd
    have HBLK:Hid (∀W,zc r wr W→W.heap[N]?=some (.cells #[.int .i64 a2,.string b2,.int .i64 c2,.slice p2 q2 s2,.int .i64 (e.line:Int)] 45 (0,0))∧W.heap[w.heap.size]?=some ZA) :=
     fun W hK=>⟨(hK.block _ (Array.getElem?_eq_some_iff.1 hblk).1 (by omega)).trans hblk,(hK.block _ (Array.getElem?_eq_some_iff.1 hz2).1 (by omega)).trans hz2⟩
    have HX2:Hid (zY (fun k=>w.heap.size<k∧k≠N) wr e (.agg #[.int .i64 a2,.string b2,.int .i64 c2,.slice p2 q2 s2,.int .i64 (e.line:Int)])):=hx2
    have HK2:Hid (zc r w wr):=hk2;have HR2:Hid (zh r g o2 cap2 (t2::ts3) wr):=hrd2;have HE2:Hid (zj (t2::ts3)):=hE2;have hrw:r<wr.heap.size∧g<wr.heap.size:=⟨by have:=hk2.size;omega,by have:=hk2.size;omega⟩
    cases f2 with
    | zero=>simp [Z5] at hT
    | succ f3 =>
     simp only [Z5,zI,List.tail_cons] at hT;clear hx2 hk2 hrd2 hE2 hblk hz2;go_wp2_with fail
     refine ch.mono ?_;clear ch;rintro e w' ⟨rfl,rfl⟩;simp only [Xc];have kA:zc r wr (wr.alloc (yi t2)):=(zc.refl r wr).alloc _;have rA:=HR2.out.alloc (yi t2);generalize wr.alloc (yi t2)=wA at *;have hf0:=Xi;have hf1:=UY
     by_cases h4:t2.k=4
     ·have h4':(t2.k:Int)=4:=by omega
      have cB:=yR r g o2 cap2 t2 ts3 wA rA;have kB:zc r wr (wA.alloc (yi t2)):=kA.alloc _;have rB:=rA.alloc (yi t2);have HKB:Hid (zc r wr (wA.alloc (yi t2))):=kB;have HRB:Hid (zh r g o2 cap2 (t2::ts3) (wA.alloc (yi t2))):=rB;have lB:=(HLV.out.kept HK2.out hrl).kept kB hrl;have cL:=vA t2.s (wA.alloc (yi t2)) lB;clear kA rA kB rB lB;go_wp2_with fail
      refine cB.mono ?_;clear cB;rintro e w' ⟨rfl,rfl⟩;simp only [Xc];obtain ⟨wB,hwB⟩:∃wB,wB=wA.alloc (yi t2):=⟨_,rfl⟩;rw [←hwB] at HKB HRB cL ⊢;clear hwB;go_wp2_with fail
      refine cL.mono ?_;clear cL;rintro e wC ⟨rfl,hbC⟩;have kC:zc r wr wC:=HKB.out.trans (zc.of hbC);have rC:zh r g o2 cap2 (t2::ts3) wC:=HRB.out.keep (hbC.block _ HRB.out.lt.1) (hbC.block _ HRB.out.lt.2);clear hbC HKB HRB wB;generalize levelOf t2.s=lv at *
      by_cases hlv:lv=least
      ·have hlv':least=lv:=hlv.symm
       subst hlv';rw [if_pos ⟨h4,rfl⟩] at hT;have hE3:=HE2.out.tail (by omega:t2.k≠0)
       have cD:=yR r g o2 cap2 t2 ts3 wC rC;have kD:zc r wr (wC.alloc (yi t2)):=kC.alloc _;have rD:=rC.alloc (yi t2);have cE:=VM r g o2 cap2 t2 ts3 (wC.alloc (yi t2)) rD hE3.ne;have HKD:Hid (zc r wr (wC.alloc (yi t2))):=kD;have HRD:Hid (zh r g o2 cap2 (t2::ts3) (wC.alloc (yi t2))):=rD;clear kC rC kD rD;go_wp2_with fail
       refine cD.mono ?_;clear cD;rintro e w' ⟨rfl,rfl⟩;simp only [Xc];go_wp2_with fail
       refine cE.mono ?_;clear cE;rintro e wE ⟨rfl,hwE⟩;have kE:zc r wr wE:=by rw [hwE];exact HKD.out.setCell 0 _
       have rE:zh r g (o2+5) (cap2-1) ts3 wE:=by rw [hwE];exact HRD.out.next
       obtain ⟨pN,pz⟩:=HBLK.out wE kE;clear hwE HKD HRD HR2 HEX hf0 hf1;have HKE:Hid (zc r wr wE):=kE;have HKW:Hid (zc r w wE):=HK2.out.trans kE;have hNlt:N<wE.heap.size:=(Array.getElem?_eq_some_iff.1 pN).1;have hl3:ts3.length≤1099511627776:=by simp only [List.length_cons] at hN2;omega
       cases hb3:zk f3 (least+1) ts3 with
       | none=>rw [hb3] at hT;cases hT
       | some r3 =>
        rw [hb3] at hT;simp only [zq] at hT
        have hb4:zk F (least+1) ts3=some r3:=by
         have:=xL (k:=F-f3) hb3
         rwa [show f3+(F-f3)=F by omega] at this
        have cb:∀W:World,W.heap=wE.heap→W.os=wE.os→W.tape=wE.tape→W.output=wE.output→Calls Tryz.prog 86 #[.pointer (some ⟨r,0,none⟩),.int .i64 ((least:Int)+1)] W fun e w'=>zc r wE w'∧zQ r g W r3 e w':=fun W e1 e2 e3 e4 =>
         (HBT.out W _ _ ts3 r3 hb4 hE3 hl3 (rE.keep (by rw [e1]) (by rw [e1])) ⟨e2.trans HKW.out.os,e3.trans HKW.out.tape,e4.trans HKW.out.output,by rw [e1];exact HKW.out.size,fun k hk hr=>by rw [e1];exact HKW.out.block k hk hr⟩).mono fun e w' h =>
          ⟨⟨h.1.os.trans e2,h.1.tape.trans e3,h.1.output.trans e4,by rw [←e1];exact h.1.size,fun k hk hr=>by rw [←e1];exact h.1.block k (by rw [e1];exact hk) hr⟩,h⟩
        obtain ⟨n0,n1,n2,n3,n4,nf⟩:=zo pN;have HPN:Hid (wE.heap[N]?=some (.cells #[.int .i64 a2,.string b2,.int .i64 c2,.slice p2 q2 s2,.int .i64 (e.line:Int)] 45 (0,0))):=pN;have HPZ:Hid (wE.heap[w.heap.size]?=some ZA):=pz;clear pN pz rE kE HBT HBLK;have hwr:IntKind.i64.wrap ((least:Int)+1)=(least:Int)+1:=by rw [IntKind.wrap_i64];omega
        rcases r3 with a3 | ⟨x3,us3⟩
        ·simp only [Option.some.injEq] at hT
         subst hT;have cu':∀W:World,W.heap=wE.heap→W.os=wE.os→W.tape=wE.tape→W.output=wE.output→Calls Tryz.prog 86 #[.pointer (some ⟨r,0,none⟩),.int .i64 ((least:Int)+1)] W fun e w'=>e=Z2 a3∧zc r w w':=fun W e1 e2 e3 e4=>(cb W e1 e2 e3 e4).mono fun e w' h=>⟨h.2.2,HKW.out.trans h.1⟩
         clear cb;go_wp2_with fail
         go_region_dies
         all_goals (go_wp2_with fail;refine (cu' _ (by rfl) (by rfl) (by rfl) (by rfl)).mono ?_;rintro e w4 ⟨rfl,hk4⟩;exact ⟨rfl,hk4,rfl⟩)
        ·have hE5:=(ZF F).1 _ _ _ _ hb4 hE3
         have hl5:=xj hb4;have hl6:us3.length≤1099511627776:=by omega
         have hl7:us3.length<yu r wr:=by rw [hleft];simp only [List.length_cons];omega
         have hf3:f3≤F:=by omega
         have HT:Hid (Z5 f3 least (.mk 7 t2.s 0 [e,x3] e.line) us3=some res):=hT
         have cu':∀W:World,W.heap=wE.heap→W.os=wE.os→W.tape=wE.tape→W.output=wE.output→Calls Tryz.prog 86 #[.pointer (some ⟨r,0,none⟩),.int .i64 ((least:Int)+1)] W fun e' w'=>∃(a3:Int) (b3:ByteArray) (c3:Int) (u0:Option Addr) (u1 u2:Nat) (l3:Int),e'=.returned (.agg #[.int .i64 a3,.string b3,.int .i64 c3,.slice u0 u1 u2,.int .i64 l3]) ∧
           w'.heap[N]?=some (.cells #[.int .i64 a2,.string b2,.int .i64 c2,.slice p2 q2 s2,.int .i64 (e.line:Int)] 45 (0,0))∧Hid (zc r wE w'∧ZO wE.heap.size w' x3 (.agg #[.int .i64 a3,.string b3,.int .i64 c3,.slice u0 u1 u2,.int .i64 l3])∧∃o cap,zh r g o cap us3 w'):=fun W e1 e2 e3 e4=>(cb W e1 e2 e3 e4).mono fun e' w' h=>by
          obtain ⟨hk4,-,v,o4,cap4,rfl,hx,hrd⟩:=h;obtain ⟨a3,b3,c3,u0,u1,u2,l3,rfl⟩:=hx.agg;exact ⟨a3,b3,c3,u0,u1,u2,l3,rfl,(hk4.block N hNlt (by omega)).trans HPN.out,hk4,(by rw [←e1];exact hx:ZO wE.heap.size w' x3 _),o4,cap4,hrd⟩
         clear cb hT;go_wp2_with fail
         go_region_with (go_at_call 86;refine (cu' _ (by rfl) (by rfl) (by rfl) (by rfl)).mono ?_;rintro e' w7 ⟨a3,b3,c3,u0,u1,u2,l3,rfl,p7,H7⟩;have hN7:N<w7.heap.size:=(Array.getElem?_eq_some_iff.1 p7).1;have p7':=(fun ob=>(Below.heap_alloc w7 ob N hN7).trans p7);obtain ⟨m0,m1,m2,m3,m4,mf⟩:=zo p7;have m0':=ze m0;have m1':=ze m1;have m2':=ze m2;have m3':=ze m3;have m4':=ze m4;have mf':=(fun ob j=>(zo (p7' ob)).2.2.2.2.2 j))
         all_goals
          obtain ⟨hk7,hx7,o7,cap7,hrd7⟩:=H7.out;obtain ⟨W,hW⟩:∃W,W=(set5 w7 N (.int .i64 7) (.string (za t2.s)) (.int .i64 0) (.slice (some ⟨w7.heap.size,0,none⟩) 2 2) (.int .i64 (e.line:Int))).alloc (.cells #[.int .i64 a2,.string b2,.int .i64 c2,.slice p2 q2 s2,.int .i64 (e.line:Int),.int .i64 a3,.string b3,.int .i64 c3,.slice u0 u1 u2,.int .i64 l3] 45):=⟨_,rfl⟩;obtain ⟨hJ,hlt7⟩:=yB.two (p:=fun f e ts=>Z5 f least e ts) 7 t2.s hr hgw hNw hNlt HX2.out HK2.out HKE.out hk7 p7 HPZ.out hx7 hrd7 hf3 HT.out hE5 hl6 (.int .i64 7) rfl W hW
          have HJW:Hid (yB r g N F w res (fun f e ts=>Z5 f least e ts) W∧yu r W<yu r wr):=show _∧_<_ from ⟨hJ,by rw [hlt7];exact hl7⟩
          change Exit.inBlock _ _ _ _ ((set5 w7 N (.int .i64 7) (.string (za t2.s)) (.int .i64 0) (.slice (some ⟨w7.heap.size,0,none⟩) 2 2) (.int .i64 (e.line:Int))).alloc (.cells #[.int .i64 a2,.string b2,.int .i64 c2,.slice p2 q2 s2,.int .i64 (e.line:Int),.int .i64 a3,.string b3,.int .i64 c3,.slice u0 u1 u2,.int .i64 l3] 45))
          rw [←hW];clear hW hJ hlt7 hrd7 hx7 hk7 p7 p7' m0 m1 m2 m3 m4 mf m0' m1' m2' m3' m4' mf' n0 n1 n2 n3 n4 nf cu' H7 HPN HPZ HT HKE HKW HX2 HK2 HE2 hl5 hl6 hl7 hE5 hE3 hwr;go_wp2
          exact HJW.out
      ·have hlv':¬((lv:Int)=(least:Int)):=by omega
       have hlv2:((lv:Int)==(least:Int))=false:=by rw [beq_eq_false_iff_ne];exact hlv'
       have hlv3:decide ((lv:Int)=(least:Int))=false:=by rw [decide_eq_false_iff_not];exact hlv'
       have hlv4:decide (lv=least)=false:=by rw [decide_eq_false_iff_not];exact hlv
       have hlv5:(lv==least)=false:=by rw [beq_eq_false_iff_ne];exact hlv
       rw [if_neg (fun h=>hlv h.2)] at hT
       simp only [Option.some.injEq] at hT;subst hT;obtain ⟨pN,pz,hpo⟩:=HEX.out wC kC rC;obtain ⟨n0,n1,n2,n3,n4,nf⟩:=zo pN;obtain ⟨q0,q1,q2',q3,q4,qf⟩:=zo pz;obtain ⟨z0,z1,z2,z3,z4⟩:=zA pz (.int .i64 a2) (.string b2) (.int .i64 c2) (.slice p2 q2 s2) (.int .i64 (e.line:Int));have HPO:Hid (zQ r g w (.ok (e,t2::ts3)) (.returned (.agg #[.int .i64 a2,.string b2,.int .i64 c2,.slice p2 q2 s2,.int .i64 (e.line:Int)])) (set5 wC w.heap.size (.int .i64 a2) (.string b2) (.int .i64 c2) (.slice p2 q2 s2) (.int .i64 (e.line:Int)))):=hpo;clear HEX HX2 HK2 HR2 HE2 hpo pN pz kC rC;go_wp2
       exact bodyPost_ret (v:=.agg #[.int .i64 a2,.string b2,.int .i64 c2,.slice p2 q2 s2,.int .i64 (e.line:Int)]) (by simp [results,Tryz.results86,go_sem,z0,z1,z2,z3,z4]) rfl HPO.out
     ·have h4':¬(t2.k:Int)=4:=by omega
      rw [if_neg (fun h=>h4 h.1)] at hT
      simp only [Option.some.injEq] at hT;subst hT;obtain ⟨pN,pz,hpo⟩:=HEX.out wA kA rA;obtain ⟨n0,n1,n2,n3,n4,nf⟩:=zo pN;obtain ⟨q0,q1,q2',q3,q4,qf⟩:=zo pz;obtain ⟨z0,z1,z2,z3,z4⟩:=zA pz (.int .i64 a2) (.string b2) (.int .i64 c2) (.slice p2 q2 s2) (.int .i64 (e.line:Int));have HPO:Hid (zQ r g w (.ok (e,t2::ts3)) (.returned (.agg #[.int .i64 a2,.string b2,.int .i64 c2,.slice p2 q2 s2,.int .i64 (e.line:Int)])) (set5 wA w.heap.size (.int .i64 a2) (.string b2) (.int .i64 c2) (.slice p2 q2 s2) (.int .i64 (e.line:Int)))):=hpo;clear HEX HX2 HK2 HR2 HE2 hpo pN pz kA rA;go_wp2
      exact bodyPost_ret (v:=.agg #[.int .i64 a2,.string b2,.int .i64 c2,.slice p2 q2 s2,.int .i64 (e.line:Int)]) (by simp [results,Tryz.results86,go_sem,z0,z1,z2,z3,z4]) rfl HPO.out
theorem yB.moved {r g N F f:Nat} {w wr W:World} {res:PR Ex} {p:Nat→Ex→List Tk→Option (PR Ex)} {e:Ex} {us:List Tk} {o cap:Nat} {a2:Int} {b2:ByteArray} {c2:Int} {p2:Option Addr} {q2 s2:Nat} {l2:Int}
  (hr:r<w.heap.size) (hNw:w.heap.size<N) (hblk:wr.heap[N]?=some (.cells #[.int .i64 a2,.string b2,.int .i64 c2,.slice p2 q2 s2,.int .i64 l2] 45 (0,0)))
  (hx:zY (fun k=>w.heap.size<k∧k≠N) wr e (.agg #[.int .i64 a2,.string b2,.int .i64 c2,.slice p2 q2 s2,.int .i64 l2])) (hk:zc r w wr) (hz:wr.heap[w.heap.size]?=some ZA) (hK:zc r wr W) (hrd:zh r g o cap us W)
  (hf:f≤F) (hp:p f e us=some res) (hE:zj us):yB r g N F w res p W :=
 ⟨e,us,o,cap,f,a2,b2,c2,p2,q2,s2,l2,hf,hp,hE,hrd.few,(hK.block _ (Array.getElem?_eq_some_iff.1 hblk).1 (by omega)).trans hblk,zY.kept hx hK.size fun k hk' hlt=>hK.block k hlt (by omega),hrd,hk.trans hK,(hK.block _ (Array.getElem?_eq_some_iff.1 hz).1 (by omega)).trans hz⟩
theorem yB.one' {r g N F f:Nat} {w wr wE w7:World} {res:PR Ex} {p:Nat→Ex→List Tk→Option (PR Ex)} {e:Ex} {us:List Tk} {o cap:Nat} {a2:Int} {b2:ByteArray} {c2:Int} {p2:Option Addr} {q2 s2:Nat} {l2:Int}
  (k:Nat) (s:List UInt8) (hr:r<w.heap.size) (hg:g<w.heap.size) (hNw:w.heap.size<N) (hN:N<wE.heap.size)
  (hx:zY (fun k=>w.heap.size<k∧k≠N) wr e (.agg #[.int .i64 a2,.string b2,.int .i64 c2,.slice p2 q2 s2,.int .i64 l2])) (hkr:zc r w wr) (hkE:zc r wr wE)
  (hk7:zc r (wE.alloc (.cells #[.int .i64 a2,.string b2,.int .i64 c2,.slice p2 q2 s2,.int .i64 l2] 45)) w7)
  (p7:w7.heap[N]?=some (.cells #[.int .i64 a2,.string b2,.int .i64 c2,.slice p2 q2 s2,.int .i64 l2] 45 (0,0))) (hz:wE.heap[w.heap.size]?=some ZA) (hrd:zh r g o cap us w7)
  (hf:f≤F) (hp:p f (.mk k s 0 [e] e.line) us=some res) (hE:zj us) (kv:Value) (hkv:kv=.int .i64 k) (W:World)
  (hW:W=set5 w7 N kv (.string (za s)) (.int .i64 0) (.slice (some ⟨wE.heap.size,0,none⟩) 1 1) (.int .i64 l2)) :
  yB r g N F w res p W∧yu r W=us.length:=by
 obtain rfl:l2=(e.line:Int):=hx.line_eq;subst hkv;have hs7:=hk7.size;have hsE:=hkE.size;have hsr:=hkr.size;simp only [World.size_alloc] at hs7;have hkw:=((hkr.trans hkE).alloc (.cells #[.int .i64 a2,.string b2,.int .i64 c2,.slice p2 q2 s2,.int .i64 (e.line:Int)] 45)).trans hk7;have hxe:=zY.kept hx hkE.size fun k hk' hlt=>hkE.block k hlt (by omega)
 have hrow:=zv.one 45 (c:=[.int .i64 a2,.string b2,.int .i64 c2,.slice p2 q2 s2,.int .i64 (e.line:Int)]) hxe rfl ⟨by omega,by omega⟩
 have hrow7:=hrow.kept hk7.size fun k hk' hlt=>hk7.block k hlt (by omega)
 have hrdW:zh r g o cap us W:=hrd.keep (by rw [hW];exact zw _ _ _ _ _ _ _ (by omega)) (by rw [hW];exact zw _ _ _ _ _ _ _ (by omega))
 refine ⟨⟨.mk k s 0 [e] e.line,us,o,cap,f,k,za s,0,some ⟨wE.heap.size,0,none⟩,1,1,e.line,hf,hp,hE,hrd.few,?_,?_,hrdW,?_,?_⟩,hrdW.left⟩
 ·rw [hW];exact YZ p7 _ _ _ _ _
 ·rw [hW];exact zY.of_row (hrow7.kept (w':=set5 w7 N (.int .i64 k) (.string (za s)) (.int .i64 0) (.slice (some ⟨wE.heap.size,0,none⟩) 1 1) (.int .i64 (e.line:Int))) (by simp) fun k hk _=>zw _ _ _ _ _ _ _ hk.2) k s 0 e.line
 ·rw [hW];exact yq hkw (by omega) _ _ _ _ _
 ·rw [hW,zw _ _ _ _ _ _ _ (by omega),hk7.block _ (by simp;omega) (by omega),Below.heap_alloc _ _ _ (by omega)];exact hz
end Go.Proofs.YtpejpbbdgblbeaaGreatDoor
