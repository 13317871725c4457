import Derived.Test.YtmbofhpmockmbaaGreatDoorMC15
import Derived.Deep.RegionWith
import Derived.Deep.CutRange
namespace Go.Proofs.YtmbofhpmockmbaaGreatDoor
open Go.RowKit Go.Shelf
set_option maxHeartbeats 16000000
set_option maxRecDepth 100000
theorem Yy {w:World} {N:Nat} (ob:Obj) (a b c d e:Value) (h:N<w.heap.size):set5 (w.alloc ob) N a b c d e=(set5 w N a b c d e).alloc ob:=by
 have o:∀(W:World) (i:Nat) (v:Value),N<W.heap.size→(W.alloc ob).setCell ⟨N,i,none⟩ v=(W.setCell ⟨N,i,none⟩ v).alloc ob:=fun W i v hp=>World.setCell_alloc_past ob N i v hp
 simp only [set5];rw [o _ _ _ h,o _ _ _ (by simpa using h),o _ _ _ (by simpa using h),o _ _ _ (by simpa using h),o _ _ _ (by simpa using h)]
theorem Zh.two {r g N F f:Nat} {w wr wE w7:World} {res:PR Ex} {p:Nat→Ex→List Tk→Option (PR Ex)} {e x:Ex} {us:List Tk} {o cap:Nat} {a2:Int} {b2:ByteArray} {c2:Int} {p2:Option Addr} {q2 s2:Nat} {l2:Int} {a3:Int} {b3:ByteArray} {c3:Int} {u0:Option Addr} {u1 u2:Nat} {l3:Int}
  (k:Nat) (s:List UInt8) (hr:r<w.heap.size) (hg:g<w.heap.size) (hNw:w.heap.size<N) (hN:N<wE.heap.size)
  (hx:zH (fun k=>w.heap.size<k∧k≠N) wr e (.agg #[.int .i64 a2,.string b2,.int .i64 c2,.slice p2 q2 s2,.int .i64 l2])) (hkr:zb r w wr) (hkE:zb r wr wE) (hk7:zb r wE w7)
  (p7:w7.heap[N]?=some (.cells #[.int .i64 a2,.string b2,.int .i64 c2,.slice p2 q2 s2,.int .i64 l2] 90 (0,0))) (hz:wE.heap[w.heap.size]?=some zJ)
  (hx7:zM wE.heap.size w7 x (.agg #[.int .i64 a3,.string b3,.int .i64 c3,.slice u0 u1 u2,.int .i64 l3])) (hrd:zj r g o cap us w7)
  (hf:f≤F) (hp:p f (.mk k s 0 [e,x] e.line) us=some res) (hE:zq us) (hlen:us.length≤1099511627776) (kv:Value) (hkv:kv=.int .i64 k) (W:World)
  (hW:W=(set5 w7 N kv (.string (za s)) (.int .i64 0) (.slice (some ⟨w7.heap.size,0,none⟩) 2 2) (.int .i64 l2)).alloc (.cells #[.int .i64 a2,.string b2,.int .i64 c2,.slice p2 q2 s2,.int .i64 l2,.int .i64 a3,.string b3,.int .i64 c3,.slice u0 u1 u2,.int .i64 l3] 90)) :
  Zh r g N F w res p W∧ZI r W=us.length:=by
 obtain rfl:l2=(e.line:Int):=hx.line_eq;rw [←Yy _ _ _ _ _ _ (Array.getElem?_eq_some_iff.1 p7).1] at hW;subst hkv;have G:=hk7.size;have I:=hkE.size;have H:=hkr.size;have A:=(hkr.trans hkE).trans hk7;obtain ⟨J,E,rfl⟩:=hE.cons;have z:=zH.kept (zH.kept hx hkE.size fun k hk' hlt=>hkE.block k hlt (by omega)) hk7.size fun k hk' hlt=>hk7.block k hlt (by omega)
 have h:=zI.two 90 (c:=[.int .i64 a2,.string b2,.int .i64 c2,.slice p2 q2 s2,.int .i64 (e.line:Int)]) (d:=[.int .i64 a3,.string b3,.int .i64 c3,.slice u0 u1 u2,.int .i64 l3]) z (zH.wide hx7 fun k hk'=>⟨by omega,by omega⟩) rfl rfl ⟨by omega,by omega⟩
 simp only [List.cons_append,List.nil_append] at h;have D:=Zh.store (p:=p) (res:=res) (f:=f) (F:=F) k s 0 e.line hr hg hNw A p7 h hrd ((hk7.block _ (by omega) (by omega)).trans hz) hf hp hE hlen
 have y:=(hrd.alloc (.cells #[.int .i64 a2,.string b2,.int .i64 c2,.slice p2 q2 s2,.int .i64 (e.line:Int),.int .i64 a3,.string b3,.int .i64 c3,.slice u0 u1 u2,.int .i64 l3] 90)).keep (w':=W) (by rw [hW];exact zh _ _ _ _ _ _ _ (by omega)) (by rw [hW];exact zh _ _ _ _ _ _ _ (by omega))
 rw [←hW] at D;exact ⟨D,y.left⟩
theorem Zh.one {r g N F f:Nat} {w wr wE w7:World} {res:PR Ex} {p:Nat→Ex→List Tk→Option (PR Ex)} {e:Ex} {us:List Tk} {o cap:Nat} {a2:Int} {b2:ByteArray} {c2:Int} {p2:Option Addr} {q2 s2:Nat} {l2:Int}
  (k:Nat) (s:List UInt8) (hr:r<w.heap.size) (hg:g<w.heap.size) (hNw:w.heap.size<N) (hN:N<wE.heap.size)
  (hx:zH (fun k=>w.heap.size<k∧k≠N) wr e (.agg #[.int .i64 a2,.string b2,.int .i64 c2,.slice p2 q2 s2,.int .i64 l2])) (hkr:zb r w wr) (hkE:zb r wr wE) (hk7:zb r wE w7)
  (p7:w7.heap[N]?=some (.cells #[.int .i64 a2,.string b2,.int .i64 c2,.slice p2 q2 s2,.int .i64 l2] 90 (0,0))) (hz:wE.heap[w.heap.size]?=some zJ) (hrd:zj r g o cap us w7)
  (hf:f≤F) (hp:p f (.mk k s 0 [e] e.line) us=some res) (hE:zq us) (hlen:us.length≤1099511627776) (kv:Value) (hkv:kv=.int .i64 k) (W:World)
  (hW:W=(set5 w7 N kv (.string (za s)) (.int .i64 0) (.slice (some ⟨w7.heap.size,0,none⟩) 1 1) (.int .i64 l2)).alloc (.cells #[.int .i64 a2,.string b2,.int .i64 c2,.slice p2 q2 s2,.int .i64 l2] 90)) :
  Zh r g N F w res p W∧ZI r W=us.length:=by
 obtain rfl:l2=(e.line:Int):=hx.line_eq;rw [←Yy _ _ _ _ _ _ (Array.getElem?_eq_some_iff.1 p7).1] at hW;subst hkv;have G:=hk7.size;have I:=hkE.size;have H:=hkr.size;have A:=(hkr.trans hkE).trans hk7;obtain ⟨J,E,rfl⟩:=hE.cons;have z:=zH.kept (zH.kept hx hkE.size fun k hk' hlt=>hkE.block k hlt (by omega)) hk7.size fun k hk' hlt=>hk7.block k hlt (by omega)
 have h:=zI.one 90 (c:=[.int .i64 a2,.string b2,.int .i64 c2,.slice p2 q2 s2,.int .i64 (e.line:Int)]) z rfl ⟨by omega,by omega⟩
 have D:=Zh.store (p:=p) (res:=res) (f:=f) (F:=F) k s 0 e.line hr hg hNw A p7 h hrd ((hk7.block _ (by omega) (by omega)).trans hz) hf hp hE hlen
 have y:=(hrd.alloc (.cells #[.int .i64 a2,.string b2,.int .i64 c2,.slice p2 q2 s2,.int .i64 (e.line:Int)] 90)).keep (w':=W) (by rw [hW];exact zh _ _ _ _ _ _ _ (by omega)) (by rw [hW];exact zh _ _ _ _ _ _ _ (by omega))
 rw [←hW] at D;exact ⟨D,y.left⟩
theorem qp (r g o cap F least:Nat) (ts:List Tk) (w:World) (res:PR Ex) (h:zj r g o cap ts w) (hE:zq ts) (hN:ts.length≤1099511627776) (hlev:yF w) (hrl:r≠5) (hl:least≤6) (hp:zg (F+1) least ts=some res)
  (hbt:∀w1 o1 O ts1 r1,zg F (least+1) ts1=some r1→zq ts1→ts1.length≤1099511627776→zj r g o1 O ts1 w1→zb r w w1→Calls Tryz.prog 98 #[.pointer (some ⟨r,0,none⟩),.int .i64 ((least:Int)+1)] w1 (zr r g w1 r1)) :
  Calls Tryz.prog 98 #[.pointer (some ⟨r,0,none⟩),.int .i64 least] w (zr r g w res):=by
 obtain ⟨t0,aK,rfl⟩:=hE.cons;have hr:=h.lt.1;have aL:=h.lt.2;rw [zg,if_neg (by omega)] at hp
 cases hb:zg F (least+1) (t0::aK) with
 | none=>rw [hb] at hp;cases hp
 | some r1 =>
  obtain ⟨w0,ao⟩:∃w0,w0=w.alloc zJ:=⟨_,rfl⟩;have c1:=hbt w0 o cap (t0::aK) r1 hb hE hN (by rw [ao];exact h.alloc _) (by rw [ao];exact (zb.refl r w).alloc _)
  rw [hb] at hp;simp only [zo] at hp;have bl:¬(6:Int)<(least:Int):=by omega
  have X:Hid (w0=w.alloc zJ):=ao;have aO:Hid (∀w1 o1 O ts1 r1,zg F (least+1) ts1=some r1→zq ts1→ts1.length≤1099511627776→zj r g o1 O ts1 w1→zb r w w1→Calls Tryz.prog 98 #[.pointer (some ⟨r,0,none⟩),.int .i64 ((least:Int)+1)] w1 (zr r g w1 r1)):=hbt;clear ao hbt
  go_enter Tryz.func98,Tryz.ntmps98
  go_wp2_with fail
  rw [←X.out];refine c1.mono ?_;clear c1;rintro e w1 ⟨ah,V⟩;have aM:zb r w w1:=by have:=X.out;subst this;exact ((zb.refl r w).alloc _).trans ah
  rcases r1 with a | ⟨x,us⟩
  ·obtain rfl:=V
   simp only [Option.some.injEq] at hp;subst hp;exact ⟨rfl,aM,rfl⟩
  ·obtain ⟨v,o1,O,rfl,hx,U⟩:=V
   obtain ⟨a,b,c,d0,d1,d2,l,rfl⟩:=hx.agg;have aG:=(Zw F).1 _ _ _ _ hb hE;have bb:=yc hb;have hJ:=Zh.start (p:=fun f e ts=>zZ f least e ts) (res:=res) X.out hr ah hx U hp aG (by omega)
   have HJ:Hid (Zh r g w1.heap.size F w res (fun f e ts=>zZ f least e ts) (w1.alloc (.cells #[.int .i64 a,.string b,.int .i64 c,.slice d0 d1 d2,.int .i64 l] 90))):=hJ
   have av:w.heap.size<w1.heap.size:=by have:=ah.size;have h2:=X.out;subst h2;simp at this;omega
   obtain ⟨N,aC⟩:∃N,N=w1.heap.size:=⟨_,rfl⟩;rw [←aC] at HJ av;have aY:Hid (yF w):=hlev;clear hJ hx U ah aG hp hb hE hN h bb aM hlev X;go_wp2_with fail
   rw [←aC];generalize hW0:w1.alloc (.cells #[.int .i64 a,.string b,.int .i64 c,.slice d0 d1 d2,.int .i64 l] 90)=W0 at *;clear hW0 aC
   go_loopw [6] (fun _ wr=>Zh r g N F w res (fun f e ts=>zZ f least e ts) wr) (fun _ wr=>ZI r wr)
   case atStart=>exact HJ.out
   case round =>
    obtain ⟨e,bn,o2,A,f2,E,J,K,I,D,H,l2,bm,G,aB,bc,R,ad,Q,Y,ai⟩:=hrel;obtain ⟨y,z,rfl⟩:=aB.cons;obtain rfl:l2=(e.line:Int):=ad.line_eq;clear HJ;have ch:=ZD r g o2 A y z wr Q;have aA:=Q.left
    have aa:Hid (∀W,zb r wr W→zj r g o2 A (y::z) W→W.heap[N]?=some (.cells #[.int .i64 E,.string J,.int .i64 K,.slice I D H,.int .i64 (e.line:Int)] 90 (0,0))∧W.heap[w.heap.size]?=some zJ ∧
     zr r g w (.ok (e,y::z)) (.returned (.agg #[.int .i64 E,.string J,.int .i64 K,.slice I D H,.int .i64 (e.line:Int)])) (set5 W w.heap.size (.int .i64 E) (.string J) (.int .i64 K) (.slice I D H) (.int .i64 (e.line:Int)))) :=
     fun W hK U=>Zh.leave hr aL av Y R ai ad hK U
    have ap:Hid (∀W,zb r wr W→W.heap[N]?=some (.cells #[.int .i64 E,.string J,.int .i64 K,.slice I D H,.int .i64 (e.line:Int)] 90 (0,0))∧W.heap[w.heap.size]?=some zJ) :=
     fun W hK=>⟨(hK.block _ (Array.getElem?_eq_some_iff.1 R).1 (by omega)).trans R,(hK.block _ (Array.getElem?_eq_some_iff.1 ai).1 (by omega)).trans ai⟩
    have aj:Hid (zH (fun k=>w.heap.size<k∧k≠N) wr e (.agg #[.int .i64 E,.string J,.int .i64 K,.slice I D H,.int .i64 (e.line:Int)])):=ad
    have T:Hid (zb r w wr):=Y;have ak:Hid (zj r g o2 A (y::z) wr):=Q;have al:Hid (zq (y::z)):=aB;have bo:r<wr.heap.size∧g<wr.heap.size:=⟨by have:=Y.size;omega,by have:=Y.size;omega⟩
    cases f2 with
    | zero=>simp [zZ] at G
    | succ f3 =>
     simp only [zZ,zX,List.tail_cons] at G;clear ad Y Q aB R ai;go_wp2_with fail
     refine ch.mono ?_;clear ch;rintro e w' ⟨rfl,rfl⟩;simp only [YH];have kA:zb r wr (wr.alloc (Zc y)):=(zb.refl r wr).alloc _;have rA:=ak.out.alloc (Zc y);generalize wr.alloc (Zc y)=wA at *;have a6:=Yv;have aW:=XB
     by_cases h4:y.k=4
     ·have a9:(y.k:Int)=4:=by omega
      have cB:=ZD r g o2 A y z wA rA;have kB:zb r wr (wA.alloc (Zc y)):=kA.alloc _;have rB:=rA.alloc (Zc y);have aw:Hid (zb r wr (wA.alloc (Zc y))):=kB;have ab:Hid (zj r g o2 A (y::z) (wA.alloc (Zc y))):=rB;have lB:=(aY.out.kept T.out hrl).kept kB hrl;have cL:=uX y.s (wA.alloc (Zc y)) lB;clear kA rA kB rB lB;go_wp2_with fail
      refine cB.mono ?_;clear cB;rintro e w' ⟨rfl,rfl⟩;simp only [YH];obtain ⟨wB,aP⟩:∃wB,wB=wA.alloc (Zc y):=⟨_,rfl⟩;rw [←aP] at aw ab cL ⊢;clear aP;go_wp2_with fail
      refine cL.mono ?_;clear cL;rintro e wC ⟨rfl,ag⟩;have kC:zb r wr wC:=aw.out.trans (zb.of ag);have rC:zj r g o2 A (y::z) wC:=ab.out.keep (ag.block _ ab.out.lt.1) (ag.block _ ab.out.lt.2);clear ag aw ab wB;generalize levelOf y.s=lv at *
      by_cases hlv:lv=least
      ·have M:least=lv:=hlv.symm
       subst M;rw [if_pos ⟨h4,rfl⟩] at G;have am:=al.out.tail (by omega:y.k≠0)
       have cD:=ZD r g o2 A y z wC rC;have kD:zb r wr (wC.alloc (Zc y)):=kC.alloc _;have rD:=rC.alloc (Zc y);have cE:=xK r g o2 A y z (wC.alloc (Zc y)) rD am.ne;have aU:Hid (zb r wr (wC.alloc (Zc y))):=kD;have aF:Hid (zj r g o2 A (y::z) (wC.alloc (Zc y))):=rD;clear kC rC kD rD;go_wp2_with fail
       refine cD.mono ?_;clear cD;rintro e w' ⟨rfl,rfl⟩;simp only [YH];go_wp2_with fail
       refine cE.mono ?_;clear cE;rintro e wE ⟨rfl,ay⟩;have kE:zb r wr wE:=by rw [ay];exact aU.out.setCell 0 _
       have rE:zj r g (o2+5) (A-1) z wE:=by rw [ay];exact aF.out.next
       obtain ⟨pN,pz⟩:=ap.out wE kE;clear ay aU aF ak aa a6 aW;have aE:Hid (zb r wr wE):=kE;have L:Hid (zb r w wE):=T.out.trans kE;have au:N<wE.heap.size:=(Array.getElem?_eq_some_iff.1 pN).1;have a7:z.length≤1099511627776:=by simp only [List.length_cons] at bc;omega
       cases hb3:zg f3 (least+1) z with
       | none=>rw [hb3] at G;cases G
       | some r3 =>
        rw [hb3] at G;simp only [zo] at G
        have ax:zg F (least+1) z=some r3:=by
         have:=yv (k:=F-f3) hb3
         rwa [show f3+(F-f3)=F by omega] at this
        have cb:∀W:World,W.heap=wE.heap→W.os=wE.os→W.tape=wE.tape→W.output=wE.output→Calls Tryz.prog 98 #[.pointer (some ⟨r,0,none⟩),.int .i64 ((least:Int)+1)] W fun e w'=>zb r wE w'∧zr r g W r3 e w':=fun W e1 e2 e3 e4 =>
         (aO.out W _ _ z r3 ax am a7 (rE.keep (by rw [e1]) (by rw [e1])) ⟨e2.trans L.out.os,e3.trans L.out.tape,e4.trans L.out.output,by rw [e1];exact L.out.size,fun k hk hr=>by rw [e1];exact L.out.block k hk hr⟩).mono fun e w' h =>
          ⟨⟨h.1.os.trans e2,h.1.tape.trans e3,h.1.output.trans e4,by rw [←e1];exact h.1.size,fun k hk hr=>by rw [←e1];exact h.1.block k (by rw [e1];exact hk) hr⟩,h⟩
        obtain ⟨n0,n1,n2,n3,n4,nf⟩:=zd pN;have aH:Hid (wE.heap[N]?=some (.cells #[.int .i64 E,.string J,.int .i64 K,.slice I D H,.int .i64 (e.line:Int)] 90 (0,0))):=pN;have aD:Hid (wE.heap[w.heap.size]?=some zJ):=pz;clear pN pz rE kE aO ap;have a1:IntKind.i64.wrap ((least:Int)+1)=(least:Int)+1:=by rw [IntKind.wrap_i64];omega
        rcases r3 with a3 | ⟨x3,an⟩
        ·simp only [Option.some.injEq] at G
         subst G;have ae:∀W:World,W.heap=wE.heap→W.os=wE.os→W.tape=wE.tape→W.output=wE.output→Calls Tryz.prog 98 #[.pointer (some ⟨r,0,none⟩),.int .i64 ((least:Int)+1)] W fun e w'=>e=ZQ a3∧zb r w w':=fun W e1 e2 e3 e4=>(cb W e1 e2 e3 e4).mono fun e w' h=>⟨h.2.2,L.out.trans h.1⟩
         clear cb;go_wp2_with fail
         go_region_dies
         all_goals (go_wp2_with fail;refine (ae _ (by rfl) (by rfl) (by rfl) (by rfl)).mono ?_;rintro e w4 ⟨rfl,af⟩;exact ⟨rfl,af,rfl⟩)
        ·have aS:=(Zw F).1 _ _ _ _ ax am
         have bd:=yc ax;have aI:an.length≤1099511627776:=by omega
         have aQ:an.length<ZI r wr:=by rw [aA];simp only [List.length_cons];omega
         have be:f3≤F:=by omega
         have HT:Hid (zZ f3 least (.mk 7 y.s 0 [e,x3] e.line) an=some res):=G
         have ae:∀W:World,W.heap=wE.heap→W.os=wE.os→W.tape=wE.tape→W.output=wE.output→Calls Tryz.prog 98 #[.pointer (some ⟨r,0,none⟩),.int .i64 ((least:Int)+1)] W fun e' w'=>∃(a3:Int) (b3:ByteArray) (c3:Int) (u0:Option Addr) (u1 u2:Nat) (l3:Int),e'=.returned (.agg #[.int .i64 a3,.string b3,.int .i64 c3,.slice u0 u1 u2,.int .i64 l3]) ∧
           w'.heap[N]?=some (.cells #[.int .i64 E,.string J,.int .i64 K,.slice I D H,.int .i64 (e.line:Int)] 90 (0,0))∧Hid (zb r wE w'∧zM wE.heap.size w' x3 (.agg #[.int .i64 a3,.string b3,.int .i64 c3,.slice u0 u1 u2,.int .i64 l3])∧∃o cap,zj r g o cap an w'):=fun W e1 e2 e3 e4=>(cb W e1 e2 e3 e4).mono fun e' w' h=>by
          obtain ⟨af,-,v,o4,aN,rfl,hx,U⟩:=h;obtain ⟨a3,b3,c3,u0,u1,u2,l3,rfl⟩:=hx.agg;exact ⟨a3,b3,c3,u0,u1,u2,l3,rfl,(af.block N au (by omega)).trans aH.out,af,(by rw [←e1];exact hx:zM wE.heap.size w' x3 _),o4,aN,U⟩
         clear cb G;go_wp2_with fail
         go_region_with (go_at_call 98;refine (ae _ (by rfl) (by rfl) (by rfl) (by rfl)).mono ?_;rintro e' w7 ⟨a3,b3,c3,u0,u1,u2,l3,rfl,p7,H7⟩;have aX:N<w7.heap.size:=(Array.getElem?_eq_some_iff.1 p7).1;have aR:=(fun ob=>(Below.heap_alloc w7 ob N aX).trans p7);obtain ⟨m0,m1,m2,m3,m4,mf⟩:=zd p7;have a8:=zc m0;have a0:=zc m1;have aZ:=zc m2;have bf:=zc m3;have ba:=zc m4;have a4:=(fun ob j=>(zd (aR ob)).2.2.2.2.2 j))
         all_goals
          obtain ⟨aJ,aT,o7,bh,ar⟩:=H7.out;obtain ⟨W,hW⟩:∃W,W=(set5 w7 N (.int .i64 7) (.string (za y.s)) (.int .i64 0) (.slice (some ⟨w7.heap.size,0,none⟩) 2 2) (.int .i64 (e.line:Int))).alloc (.cells #[.int .i64 E,.string J,.int .i64 K,.slice I D H,.int .i64 (e.line:Int),.int .i64 a3,.string b3,.int .i64 c3,.slice u0 u1 u2,.int .i64 l3] 90):=⟨_,rfl⟩;obtain ⟨hJ,aq⟩:=Zh.two (p:=fun f e ts=>zZ f least e ts) 7 y.s hr aL av au aj.out T.out aE.out aJ p7 aD.out aT ar be HT.out aS aI (.int .i64 7) rfl W hW
          have a5:Hid (Zh r g N F w res (fun f e ts=>zZ f least e ts) W∧ZI r W<ZI r wr):=show _∧_<_ from ⟨hJ,by rw [aq];exact aQ⟩
          change Exit.inBlock _ _ _ _ ((set5 w7 N (.int .i64 7) (.string (za y.s)) (.int .i64 0) (.slice (some ⟨w7.heap.size,0,none⟩) 2 2) (.int .i64 (e.line:Int))).alloc (.cells #[.int .i64 E,.string J,.int .i64 K,.slice I D H,.int .i64 (e.line:Int),.int .i64 a3,.string b3,.int .i64 c3,.slice u0 u1 u2,.int .i64 l3] 90))
          rw [←hW];clear hW hJ aq ar aT aJ p7 aR m0 m1 m2 m3 m4 mf a8 a0 aZ bf ba a4 n0 n1 n2 n3 n4 nf ae H7 aH aD HT aE L aj T al bd aI aQ aS am a1;go_wp2
          exact a5.out
      ·have M:¬((lv:Int)=(least:Int)):=by omega
       have bi:((lv:Int)==(least:Int))=false:=by rw [beq_eq_false_iff_ne];exact M
       have bg:decide ((lv:Int)=(least:Int))=false:=by rw [decide_eq_false_iff_not];exact M
       have bj:decide (lv=least)=false:=by rw [decide_eq_false_iff_not];exact hlv
       have bk:(lv==least)=false:=by rw [beq_eq_false_iff_ne];exact hlv
       rw [if_neg (fun h=>hlv h.2)] at G
       simp only [Option.some.injEq] at G;subst G;obtain ⟨pN,pz,Z⟩:=aa.out wC kC rC;obtain ⟨n0,n1,n2,n3,n4,nf⟩:=zd pN;obtain ⟨q0,q1,aV,q3,q4,qf⟩:=zd pz;obtain ⟨z0,z1,z2,z3,z4⟩:=zi pz (.int .i64 E) (.string J) (.int .i64 K) (.slice I D H) (.int .i64 (e.line:Int));have az:Hid (zr r g w (.ok (e,y::z)) (.returned (.agg #[.int .i64 E,.string J,.int .i64 K,.slice I D H,.int .i64 (e.line:Int)])) (set5 wC w.heap.size (.int .i64 E) (.string J) (.int .i64 K) (.slice I D H) (.int .i64 (e.line:Int)))):=Z;clear aa aj T ak al Z pN pz kC rC;go_wp2
       exact bodyPost_ret (v:=.agg #[.int .i64 E,.string J,.int .i64 K,.slice I D H,.int .i64 (e.line:Int)]) (by simp [results,Tryz.results98,go_sem,z0,z1,z2,z3,z4]) rfl az.out
     ·have a9:¬(y.k:Int)=4:=by omega
      rw [if_neg (fun h=>h4 h.1)] at G
      simp only [Option.some.injEq] at G;subst G;obtain ⟨pN,pz,Z⟩:=aa.out wA kA rA;obtain ⟨n0,n1,n2,n3,n4,nf⟩:=zd pN;obtain ⟨q0,q1,aV,q3,q4,qf⟩:=zd pz;obtain ⟨z0,z1,z2,z3,z4⟩:=zi pz (.int .i64 E) (.string J) (.int .i64 K) (.slice I D H) (.int .i64 (e.line:Int));have az:Hid (zr r g w (.ok (e,y::z)) (.returned (.agg #[.int .i64 E,.string J,.int .i64 K,.slice I D H,.int .i64 (e.line:Int)])) (set5 wA w.heap.size (.int .i64 E) (.string J) (.int .i64 K) (.slice I D H) (.int .i64 (e.line:Int)))):=Z;clear aa aj T ak al Z pN pz kA rA;go_wp2
      exact bodyPost_ret (v:=.agg #[.int .i64 E,.string J,.int .i64 K,.slice I D H,.int .i64 (e.line:Int)]) (by simp [results,Tryz.results98,go_sem,z0,z1,z2,z3,z4]) rfl az.out
theorem Zh.moved {r g N F f:Nat} {w wr W:World} {res:PR Ex} {p:Nat→Ex→List Tk→Option (PR Ex)} {e:Ex} {us:List Tk} {o cap:Nat} {a2:Int} {b2:ByteArray} {c2:Int} {p2:Option Addr} {q2 s2:Nat} {l2:Int}
  (hr:r<w.heap.size) (hNw:w.heap.size<N) (hblk:wr.heap[N]?=some (.cells #[.int .i64 a2,.string b2,.int .i64 c2,.slice p2 q2 s2,.int .i64 l2] 90 (0,0)))
  (hx:zH (fun k=>w.heap.size<k∧k≠N) wr e (.agg #[.int .i64 a2,.string b2,.int .i64 c2,.slice p2 q2 s2,.int .i64 l2])) (hk:zb r w wr) (hz:wr.heap[w.heap.size]?=some zJ) (hK:zb r wr W) (hrd:zj r g o cap us W)
  (hf:f≤F) (hp:p f e us=some res) (hE:zq us):Zh r g N F w res p W :=
 ⟨e,us,o,cap,f,a2,b2,c2,p2,q2,s2,l2,hf,hp,hE,hrd.few,(hK.block _ (Array.getElem?_eq_some_iff.1 hblk).1 (by omega)).trans hblk,zH.kept hx hK.size fun k hk' hlt=>hK.block k hlt (by omega),hrd,hk.trans hK,(hK.block _ (Array.getElem?_eq_some_iff.1 hz).1 (by omega)).trans hz⟩
theorem Zh.one' {r g N F f:Nat} {w wr wE w7:World} {res:PR Ex} {p:Nat→Ex→List Tk→Option (PR Ex)} {e:Ex} {us:List Tk} {o cap:Nat} {a2:Int} {b2:ByteArray} {c2:Int} {p2:Option Addr} {q2 s2:Nat} {l2:Int}
  (k:Nat) (s:List UInt8) (hr:r<w.heap.size) (hg:g<w.heap.size) (hNw:w.heap.size<N) (hN:N<wE.heap.size)
  (hx:zH (fun k=>w.heap.size<k∧k≠N) wr e (.agg #[.int .i64 a2,.string b2,.int .i64 c2,.slice p2 q2 s2,.int .i64 l2])) (hkr:zb r w wr) (hkE:zb r wr wE)
  (hk7:zb r (wE.alloc (.cells #[.int .i64 a2,.string b2,.int .i64 c2,.slice p2 q2 s2,.int .i64 l2] 90)) w7)
  (p7:w7.heap[N]?=some (.cells #[.int .i64 a2,.string b2,.int .i64 c2,.slice p2 q2 s2,.int .i64 l2] 90 (0,0))) (hz:wE.heap[w.heap.size]?=some zJ) (hrd:zj r g o cap us w7)
  (hf:f≤F) (hp:p f (.mk k s 0 [e] e.line) us=some res) (hE:zq us) (kv:Value) (hkv:kv=.int .i64 k) (W:World)
  (hW:W=set5 w7 N kv (.string (za s)) (.int .i64 0) (.slice (some ⟨wE.heap.size,0,none⟩) 1 1) (.int .i64 l2)) :
  Zh r g N F w res p W∧ZI r W=us.length:=by
 obtain rfl:l2=(e.line:Int):=hx.line_eq;subst hkv;have E:=hk7.size;have H:=hkE.size;have G:=hkr.size;simp only [World.size_alloc] at E;have D:=((hkr.trans hkE).alloc (.cells #[.int .i64 a2,.string b2,.int .i64 c2,.slice p2 q2 s2,.int .i64 (e.line:Int)] 90)).trans hk7;have A:=zH.kept hx hkE.size fun k hk' hlt=>hkE.block k hlt (by omega)
 have z:=zI.one 90 (c:=[.int .i64 a2,.string b2,.int .i64 c2,.slice p2 q2 s2,.int .i64 (e.line:Int)]) A rfl ⟨by omega,by omega⟩
 have y:=z.kept hk7.size fun k hk' hlt=>hk7.block k hlt (by omega)
 have h:zj r g o cap us W:=hrd.keep (by rw [hW];exact zh _ _ _ _ _ _ _ (by omega)) (by rw [hW];exact zh _ _ _ _ _ _ _ (by omega))
 refine ⟨⟨.mk k s 0 [e] e.line,us,o,cap,f,k,za s,0,some ⟨wE.heap.size,0,none⟩,1,1,e.line,hf,hp,hE,hrd.few,?_,?_,h,?_,?_⟩,h.left⟩
 ·rw [hW];exact Z5 p7 _ _ _ _ _
 ·rw [hW];exact zH.of_row (y.kept (w':=set5 w7 N (.int .i64 k) (.string (za s)) (.int .i64 0) (.slice (some ⟨wE.heap.size,0,none⟩) 1 1) (.int .i64 (e.line:Int))) (by simp) fun k hk _=>zh _ _ _ _ _ _ _ hk.2) k s 0 e.line
 ·rw [hW];exact Zo D (by omega) _ _ _ _ _
 ·rw [hW,zh _ _ _ _ _ _ _ (by omega),hk7.block _ (by simp;omega) (by omega),Below.heap_alloc _ _ _ (by omega)];exact hz
end Go.Proofs.YtmbofhpmockmbaaGreatDoor
