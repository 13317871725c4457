import Derived.Test.YtpejpbbdgblbeaaGreatDoorMC16
import Derived.Deep.RegionWith
import Derived.Deep.CutRange
namespace Go.Proofs.YtpejpbbdgblbeaaGreatDoor
open Go.RowKit Go.Shelf
set_option maxHeartbeats 16000000
set_option maxRecDepth 100000
theorem XA {w:World} {N:Nat} (ob:Obj) (a b c d e:Value) (h:N<w.heap.size):set5 (w.alloc ob) N a b c d e=(set5 w N a b c d e).alloc ob:=by
 have o:∀(W:World) (i:Nat) (v:Value),N<W.heap.size→(W.alloc ob).setCell ⟨N,i,none⟩ v=(W.setCell ⟨N,i,none⟩ v).alloc ob:=fun W i v hp=>World.setCell_alloc_past ob N i v hp
 simp only [set5];rw [o _ _ _ h,o _ _ _ (by simpa using h),o _ _ _ (by simpa using h),o _ _ _ (by simpa using h),o _ _ _ (by simpa using h)]
theorem ZU.two {r g N F f:Nat} {w wr wE w7:World} {res:PR Ex} {p:Nat→Ex→List Tk→Option (PR Ex)} {e x:Ex} {us:List Tk} {o cap:Nat} {a2:Int} {b2:ByteArray} {c2:Int} {p2:Option Addr} {q2 s2:Nat} {l2:Int} {a3:Int} {b3:ByteArray} {c3:Int} {u0:Option Addr} {u1 u2:Nat} {l3:Int}
  (k:Nat) (s:List UInt8) (hr:r<w.heap.size) (hg:g<w.heap.size) (hNw:w.heap.size<N) (hN:N<wE.heap.size)
  (hx:zZ (fun k=>w.heap.size<k∧k≠N) wr e (.agg #[.int .i64 a2,.string b2,.int .i64 c2,.slice p2 q2 s2,.int .i64 l2])) (hkr:zd r w wr) (hkE:zd r wr wE) (hk7:zd r wE w7)
  (p7:w7.heap[N]?=some (.cells #[.int .i64 a2,.string b2,.int .i64 c2,.slice p2 q2 s2,.int .i64 l2] 45 (0,0))) (hz:wE.heap[w.heap.size]?=some Zz)
  (hx7:ZL wE.heap.size w7 x (.agg #[.int .i64 a3,.string b3,.int .i64 c3,.slice u0 u1 u2,.int .i64 l3])) (hrd:zg r g o cap us w7)
  (hf:f≤F) (hp:p f (.mk k s 0 [e,x] e.line) us=some res) (hE:zi us) (hlen:us.length≤1099511627776) (kv:Value) (hkv:kv=.int .i64 k) (W:World)
  (hW:W=(set5 w7 N kv (.string (zb s)) (.int .i64 0) (.slice (some ⟨w7.heap.size,0,none⟩) 2 2) (.int .i64 l2)).alloc (.cells #[.int .i64 a2,.string b2,.int .i64 c2,.slice p2 q2 s2,.int .i64 l2,.int .i64 a3,.string b3,.int .i64 c3,.slice u0 u1 u2,.int .i64 l3] 45)) :
  ZU r g N F w res p W∧ZP r W=us.length:=by
 obtain rfl:l2=(e.line:Int):=hx.line_eq;rw [←XA _ _ _ _ _ _ (Array.getElem?_eq_some_iff.1 p7).1] at hW;subst hkv;have H:=hk7.size;have J:=hkE.size;have G:=hkr.size;have z:=(hkr.trans hkE).trans hk7;obtain ⟨L,I,rfl⟩:=hE.cons;have A:=zZ.kept (zZ.kept hx hkE.size fun k hk' hlt=>hkE.block k hlt (by omega)) hk7.size fun k hk' hlt=>hk7.block k hlt (by omega)
 have h:=zK.two 45 (c:=[.int .i64 a2,.string b2,.int .i64 c2,.slice p2 q2 s2,.int .i64 (e.line:Int)]) (d:=[.int .i64 a3,.string b3,.int .i64 c3,.slice u0 u1 u2,.int .i64 l3]) A (zZ.wide hx7 fun k hk'=>⟨by omega,by omega⟩) rfl rfl ⟨by omega,by omega⟩
 simp only [List.cons_append,List.nil_append] at h;have D:=ZU.store (p:=p) (res:=res) (f:=f) (F:=F) k s 0 e.line hr hg hNw z p7 h hrd ((hk7.block _ (by omega) (by omega)).trans hz) hf hp hE hlen
 have y:=(hrd.alloc (.cells #[.int .i64 a2,.string b2,.int .i64 c2,.slice p2 q2 s2,.int .i64 (e.line:Int),.int .i64 a3,.string b3,.int .i64 c3,.slice u0 u1 u2,.int .i64 l3] 45)).keep (w':=W) (by rw [hW];exact zu _ _ _ _ _ _ _ (by omega)) (by rw [hW];exact zu _ _ _ _ _ _ _ (by omega))
 rw [←hW] at D;exact ⟨D,y.left⟩
theorem ZU.one {r g N F f:Nat} {w wr wE w7:World} {res:PR Ex} {p:Nat→Ex→List Tk→Option (PR Ex)} {e:Ex} {us:List Tk} {o cap:Nat} {a2:Int} {b2:ByteArray} {c2:Int} {p2:Option Addr} {q2 s2:Nat} {l2:Int}
  (k:Nat) (s:List UInt8) (hr:r<w.heap.size) (hg:g<w.heap.size) (hNw:w.heap.size<N) (hN:N<wE.heap.size)
  (hx:zZ (fun k=>w.heap.size<k∧k≠N) wr e (.agg #[.int .i64 a2,.string b2,.int .i64 c2,.slice p2 q2 s2,.int .i64 l2])) (hkr:zd r w wr) (hkE:zd r wr wE) (hk7:zd r wE w7)
  (p7:w7.heap[N]?=some (.cells #[.int .i64 a2,.string b2,.int .i64 c2,.slice p2 q2 s2,.int .i64 l2] 45 (0,0))) (hz:wE.heap[w.heap.size]?=some Zz) (hrd:zg r g o cap us w7)
  (hf:f≤F) (hp:p f (.mk k s 0 [e] e.line) us=some res) (hE:zi us) (hlen:us.length≤1099511627776) (kv:Value) (hkv:kv=.int .i64 k) (W:World)
  (hW:W=(set5 w7 N kv (.string (zb s)) (.int .i64 0) (.slice (some ⟨w7.heap.size,0,none⟩) 1 1) (.int .i64 l2)).alloc (.cells #[.int .i64 a2,.string b2,.int .i64 c2,.slice p2 q2 s2,.int .i64 l2] 45)) :
  ZU r g N F w res p W∧ZP r W=us.length:=by
 obtain rfl:l2=(e.line:Int):=hx.line_eq;rw [←XA _ _ _ _ _ _ (Array.getElem?_eq_some_iff.1 p7).1] at hW;subst hkv;have H:=hk7.size;have J:=hkE.size;have G:=hkr.size;have z:=(hkr.trans hkE).trans hk7;obtain ⟨L,I,rfl⟩:=hE.cons;have A:=zZ.kept (zZ.kept hx hkE.size fun k hk' hlt=>hkE.block k hlt (by omega)) hk7.size fun k hk' hlt=>hk7.block k hlt (by omega)
 have y:=zK.one 45 (c:=[.int .i64 a2,.string b2,.int .i64 c2,.slice p2 q2 s2,.int .i64 (e.line:Int)]) A rfl ⟨by omega,by omega⟩
 have D:=ZU.store (p:=p) (res:=res) (f:=f) (F:=F) k s 0 e.line hr hg hNw z p7 y hrd ((hk7.block _ (by omega) (by omega)).trans hz) hf hp hE hlen
 have h:=(hrd.alloc (.cells #[.int .i64 a2,.string b2,.int .i64 c2,.slice p2 q2 s2,.int .i64 (e.line:Int)] 45)).keep (w':=W) (by rw [hW];exact zu _ _ _ _ _ _ _ (by omega)) (by rw [hW];exact zu _ _ _ _ _ _ _ (by omega))
 rw [←hW] at D;exact ⟨D,h.left⟩
theorem zdK (r g o cap F least:Nat) (ts:List Tk) (w:World) (res:PR Ex) (h:zg r g o cap ts w) (hE:zi ts) (hN:ts.length≤1099511627776) (hlev:ZC w) (hrl:r≠1) (hl:least≤6) (hp:zf (F+1) least ts=some res)
  (hbt:∀w1 o1 U ts1 r1,zf F (least+1) ts1=some r1→zi ts1→ts1.length≤1099511627776→zg r g o1 U ts1 w1→zd r w w1→Calls Tryz.prog 86 #[.pointer (some ⟨r,0,none⟩),.int .i64 ((least:Int)+1)] w1 (zJ r g w1 r1)) :
  Calls Tryz.prog 86 #[.pointer (some ⟨r,0,none⟩),.int .i64 least] w (zJ r g w res):=by
 obtain ⟨t0,aK,rfl⟩:=hE.cons;have hr:=h.lt.1;have aO:=h.lt.2;rw [zf,if_neg (by omega)] at hp
 cases hb:zf F (least+1) (t0::aK) with
 | none=>rw [hb] at hp;cases hp
 | some r1 =>
  obtain ⟨w0,ao⟩:∃w0,w0=w.alloc Zz:=⟨_,rfl⟩;have c1:=hbt w0 o cap (t0::aK) r1 hb hE hN (by rw [ao];exact h.alloc _) (by rw [ao];exact (zd.refl r w).alloc _)
  rw [hb] at hp;simp only [zh] at hp;have bp:¬(6:Int)<(least:Int):=by omega
  have aa:Hid (w0=w.alloc Zz):=ao;have aG:Hid (∀w1 o1 U ts1 r1,zf F (least+1) ts1=some r1→zi ts1→ts1.length≤1099511627776→zg r g o1 U ts1 w1→zd r w w1→Calls Tryz.prog 86 #[.pointer (some ⟨r,0,none⟩),.int .i64 ((least:Int)+1)] w1 (zJ r g w1 r1)):=hbt;clear ao hbt
  go_enter Tryz.func86,Tryz.ntmps86
  go_wp2_with fail
  rw [←aa.out];refine c1.mono ?_;clear c1;rintro e w1 ⟨al,Z⟩;have aP:zd r w w1:=by have:=aa.out;subst this;exact ((zd.refl r w).alloc _).trans al
  rcases r1 with a | ⟨x,us⟩
  ·obtain rfl:=Z
   simp only [Option.some.injEq] at hp;subst hp;exact ⟨rfl,aP,rfl⟩
  ·obtain ⟨v,o1,U,rfl,hx,Y⟩:=Z
   obtain ⟨a,b,c,d0,d1,d2,l,rfl⟩:=hx.agg;have aW:=(Zi F).1 _ _ _ _ hb hE;have bd:=Yv hb;have hJ:=ZU.start (p:=fun f e ts=>Zp f least e ts) (res:=res) aa.out hr al hx Y hp aW (by omega)
   have HJ:Hid (ZU r g w1.heap.size F w res (fun f e ts=>Zp f least e ts) (w1.alloc (.cells #[.int .i64 a,.string b,.int .i64 c,.slice d0 d1 d2,.int .i64 l] 45))):=hJ
   have az:w.heap.size<w1.heap.size:=by have:=al.size;have h2:=aa.out;subst h2;simp at this;omega
   obtain ⟨N,aB⟩:∃N,N=w1.heap.size:=⟨_,rfl⟩;rw [←aB] at HJ az;have bb:Hid (ZC w):=hlev;clear hJ hx Y al aW hp hb hE hN h bd aP hlev aa;go_wp2_with fail
   rw [←aB];generalize hW0:w1.alloc (.cells #[.int .i64 a,.string b,.int .i64 c,.slice d0 d1 d2,.int .i64 l] 45)=W0 at *;clear hW0 aB
   go_loopw [6] (fun _ wr=>ZU r g N F w res (fun f e ts=>Zp f least e ts) wr) (fun _ wr=>ZP r wr)
   case atStart=>exact HJ.out
   case round =>
    obtain ⟨e,bq,o2,A,f2,I,H,c2,J,G,L,l2,bs,D,aD,ba,Q,ah,T,ad,am⟩:=hrel;obtain ⟨y,z,rfl⟩:=aD.cons;obtain rfl:l2=(e.line:Int):=ah.line_eq;clear HJ;have ch:=yh r g o2 A y z wr T;have aF:=T.left
    have ab:Hid (∀W,zd r wr W→zg r g o2 A (y::z) W→W.heap[N]?=some (.cells #[.int .i64 I,.string H,.int .i64 c2,.slice J G L,.int .i64 (e.line:Int)] 45 (0,0))∧W.heap[w.heap.size]?=some Zz ∧
     zJ r g w (.ok (e,y::z)) (.returned (.agg #[.int .i64 I,.string H,.int .i64 c2,.slice J G L,.int .i64 (e.line:Int)])) (set5 W w.heap.size (.int .i64 I) (.string H) (.int .i64 c2) (.slice J G L) (.int .i64 (e.line:Int)))) :=
     fun W hK Y=>ZU.leave hr aO az ad Q am ah hK Y
    have ax:Hid (∀W,zd r wr W→W.heap[N]?=some (.cells #[.int .i64 I,.string H,.int .i64 c2,.slice J G L,.int .i64 (e.line:Int)] 45 (0,0))∧W.heap[w.heap.size]?=some Zz) :=
     fun W hK=>⟨(hK.block _ (Array.getElem?_eq_some_iff.1 Q).1 (by omega)).trans Q,(hK.block _ (Array.getElem?_eq_some_iff.1 am).1 (by omega)).trans am⟩
    have ap:Hid (zZ (fun k=>w.heap.size<k∧k≠N) wr e (.agg #[.int .i64 I,.string H,.int .i64 c2,.slice J G L,.int .i64 (e.line:Int)])):=ah
    have V:Hid (zd r w wr):=ad;have ag:Hid (zg r g o2 A (y::z) wr):=T;have ar:Hid (zi (y::z)):=aD;have br:r<wr.heap.size∧g<wr.heap.size:=⟨by have:=ad.size;omega,by have:=ad.size;omega⟩
    cases f2 with
    | zero=>simp [Zp] at D
    | succ f3 =>
     simp only [Zp,zE,List.tail_cons] at D;clear ah ad T aD Q am;go_wp2_with fail
     refine ch.mono ?_;clear ch;rintro e w' ⟨rfl,rfl⟩;simp only [uB];have kA:zd r wr (wr.alloc (ZK y)):=(zd.refl r wr).alloc _;have rA:=ag.out.alloc (ZK y);generalize wr.alloc (ZK y)=wA at *;have a7:=Va;have be:=zbL
     by_cases h4:y.k=4
     ·have a0:(y.k:Int)=4:=by omega
      have cB:=yh r g o2 A y z wA rA;have kB:zd r wr (wA.alloc (ZK y)):=kA.alloc _;have rB:=rA.alloc (ZK y);have aE:Hid (zd r wr (wA.alloc (ZK y))):=kB;have ae:Hid (zg r g o2 A (y::z) (wA.alloc (ZK y))):=rB;have lB:=(bb.out.kept V.out hrl).kept kB hrl;have cL:=Xz y.s (wA.alloc (ZK y)) lB;clear kA rA kB rB lB;go_wp2_with fail
      refine cB.mono ?_;clear cB;rintro e w' ⟨rfl,rfl⟩;simp only [uB];obtain ⟨wB,aX⟩:∃wB,wB=wA.alloc (ZK y):=⟨_,rfl⟩;rw [←aX] at aE ae cL ⊢;clear aX;go_wp2_with fail
      refine cL.mono ?_;clear cL;rintro e wC ⟨rfl,an⟩;have kC:zd r wr wC:=aE.out.trans (zd.of an);have rC:zg r g o2 A (y::z) wC:=ae.out.keep (an.block _ ae.out.lt.1) (an.block _ ae.out.lt.2);clear an aE ae wB;generalize levelOf y.s=lv at *
      by_cases hlv:lv=least
      ·have R:least=lv:=hlv.symm
       subst R;rw [if_pos ⟨h4,rfl⟩] at D;have ak:=ar.out.tail (by omega:y.k≠0)
       have cD:=yh r g o2 A y z wC rC;have kD:zd r wr (wC.alloc (ZK y)):=kC.alloc _;have rD:=rC.alloc (ZK y);have cE:=Vb r g o2 A y z (wC.alloc (ZK y)) rD ak.ne;have aT:Hid (zd r wr (wC.alloc (ZK y))):=kD;have aS:Hid (zg r g o2 A (y::z) (wC.alloc (ZK y))):=rD;clear kC rC kD rD;go_wp2_with fail
       refine cD.mono ?_;clear cD;rintro e w' ⟨rfl,rfl⟩;simp only [uB];go_wp2_with fail
       refine cE.mono ?_;clear cE;rintro e wE ⟨rfl,aA⟩;have kE:zd r wr wE:=by rw [aA];exact aT.out.setCell 0 _
       have rE:zg r g (o2+5) (A-1) z wE:=by rw [aA];exact aS.out.next
       obtain ⟨pN,pz⟩:=ax.out wE kE;clear aA aT aS ag ab a7 be;have aI:Hid (zd r wr wE):=kE;have O:Hid (zd r w wE):=V.out.trans kE;have aw:N<wE.heap.size:=(Array.getElem?_eq_some_iff.1 pN).1;have aZ:z.length≤1099511627776:=by simp only [List.length_cons] at ba;omega
       cases hb3:zf f3 (least+1) z with
       | none=>rw [hb3] at D;cases D
       | some r3 =>
        rw [hb3] at D;simp only [zh] at D
        have aC:zf F (least+1) z=some r3:=by
         have:=YU (k:=F-f3) hb3
         rwa [show f3+(F-f3)=F by omega] at this
        have cb:∀W:World,W.heap=wE.heap→W.os=wE.os→W.tape=wE.tape→W.output=wE.output→Calls Tryz.prog 86 #[.pointer (some ⟨r,0,none⟩),.int .i64 ((least:Int)+1)] W fun e w'=>zd r wE w'∧zJ r g W r3 e w':=fun W e1 e2 e3 e4 =>
         (aG.out W _ _ z r3 aC ak aZ (rE.keep (by rw [e1]) (by rw [e1])) ⟨e2.trans O.out.os,e3.trans O.out.tape,e4.trans O.out.output,by rw [e1];exact O.out.size,fun k hk hr=>by rw [e1];exact O.out.block k hk hr⟩).mono fun e w' h =>
          ⟨⟨h.1.os.trans e2,h.1.tape.trans e3,h.1.output.trans e4,by rw [←e1];exact h.1.size,fun k hk hr=>by rw [←e1];exact h.1.block k (by rw [e1];exact hk) hr⟩,h⟩
        obtain ⟨n0,n1,n2,n3,n4,nf⟩:=zU pN;have aL:Hid (wE.heap[N]?=some (.cells #[.int .i64 I,.string H,.int .i64 c2,.slice J G L,.int .i64 (e.line:Int)] 45 (0,0))):=pN;have aN:Hid (wE.heap[w.heap.size]?=some Zz):=pz;clear pN pz rE kE aG ax;have a6:IntKind.i64.wrap ((least:Int)+1)=(least:Int)+1:=by rw [IntKind.wrap_i64];omega
        rcases r3 with a3 | ⟨x3,aq⟩
        ·simp only [Option.some.injEq] at D
         subst D;have aj:∀W:World,W.heap=wE.heap→W.os=wE.os→W.tape=wE.tape→W.output=wE.output→Calls Tryz.prog 86 #[.pointer (some ⟨r,0,none⟩),.int .i64 ((least:Int)+1)] W fun e w'=>e=ZI a3∧zd r w w':=fun W e1 e2 e3 e4=>(cb W e1 e2 e3 e4).mono fun e w' h=>⟨h.2.2,O.out.trans h.1⟩
         clear cb;go_wp2_with fail
         go_region_dies
         all_goals (go_wp2_with fail;refine (aj _ (by rfl) (by rfl) (by rfl) (by rfl)).mono ?_;rintro e w4 ⟨rfl,ai⟩;exact ⟨rfl,ai,rfl⟩)
        ·have aU:=(Zi F).1 _ _ _ _ aC ak
         have aY:=Yv aC;have aV:aq.length≤1099511627776:=by omega
         have aQ:aq.length<ZP r wr:=by rw [aF];simp only [List.length_cons];omega
         have a4:f3≤F:=by omega
         have HT:Hid (Zp f3 least (.mk 7 y.s 0 [e,x3] e.line) aq=some res):=D
         have aj:∀W:World,W.heap=wE.heap→W.os=wE.os→W.tape=wE.tape→W.output=wE.output→Calls Tryz.prog 86 #[.pointer (some ⟨r,0,none⟩),.int .i64 ((least:Int)+1)] W fun e' w'=>∃(a3:Int) (b3:ByteArray) (c3:Int) (u0:Option Addr) (u1 u2:Nat) (l3:Int),e'=.returned (.agg #[.int .i64 a3,.string b3,.int .i64 c3,.slice u0 u1 u2,.int .i64 l3]) ∧
           w'.heap[N]?=some (.cells #[.int .i64 I,.string H,.int .i64 c2,.slice J G L,.int .i64 (e.line:Int)] 45 (0,0))∧Hid (zd r wE w'∧ZL wE.heap.size w' x3 (.agg #[.int .i64 a3,.string b3,.int .i64 c3,.slice u0 u1 u2,.int .i64 l3])∧∃o cap,zg r g o cap aq w'):=fun W e1 e2 e3 e4=>(cb W e1 e2 e3 e4).mono fun e' w' h=>by
          obtain ⟨ai,-,v,o4,aR,rfl,hx,Y⟩:=h;obtain ⟨a3,b3,c3,u0,u1,u2,l3,rfl⟩:=hx.agg;exact ⟨a3,b3,c3,u0,u1,u2,l3,rfl,(ai.block N aw (by omega)).trans aL.out,ai,(by rw [←e1];exact hx:ZL wE.heap.size w' x3 _),o4,aR,Y⟩
         clear cb D;go_wp2_with fail
         go_region_with (go_at_call 86;refine (aj _ (by rfl) (by rfl) (by rfl) (by rfl)).mono ?_;rintro e' w7 ⟨a3,b3,c3,u0,u1,u2,l3,rfl,p7,H7⟩;have bi:N<w7.heap.size:=(Array.getElem?_eq_some_iff.1 p7).1;have aH:=(fun ob=>(Below.heap_alloc w7 ob N bi).trans p7);obtain ⟨m0,m1,m2,m3,m4,mf⟩:=zU p7;have bh:=zl m0;have a9:=zl m1;have a1:=zl m2;have a5:=zl m3;have bg:=zl m4;have bc:=(fun ob j=>(zU (aH ob)).2.2.2.2.2 j))
         all_goals
          obtain ⟨aM,aJ,o7,bn,av⟩:=H7.out;obtain ⟨W,hW⟩:∃W,W=(set5 w7 N (.int .i64 7) (.string (zb y.s)) (.int .i64 0) (.slice (some ⟨w7.heap.size,0,none⟩) 2 2) (.int .i64 (e.line:Int))).alloc (.cells #[.int .i64 I,.string H,.int .i64 c2,.slice J G L,.int .i64 (e.line:Int),.int .i64 a3,.string b3,.int .i64 c3,.slice u0 u1 u2,.int .i64 l3] 45):=⟨_,rfl⟩;obtain ⟨hJ,au⟩:=ZU.two (p:=fun f e ts=>Zp f least e ts) 7 y.s hr aO az aw ap.out V.out aI.out aM p7 aN.out aJ av a4 HT.out aU aV (.int .i64 7) rfl W hW
          have a8:Hid (ZU r g N F w res (fun f e ts=>Zp f least e ts) W∧ZP r W<ZP r wr):=show _∧_<_ from ⟨hJ,by rw [au];exact aQ⟩
          change Exit.inBlock _ _ _ _ ((set5 w7 N (.int .i64 7) (.string (zb y.s)) (.int .i64 0) (.slice (some ⟨w7.heap.size,0,none⟩) 2 2) (.int .i64 (e.line:Int))).alloc (.cells #[.int .i64 I,.string H,.int .i64 c2,.slice J G L,.int .i64 (e.line:Int),.int .i64 a3,.string b3,.int .i64 c3,.slice u0 u1 u2,.int .i64 l3] 45))
          rw [←hW];clear hW hJ au av aJ aM p7 aH m0 m1 m2 m3 m4 mf bh a9 a1 a5 bg bc n0 n1 n2 n3 n4 nf aj H7 aL aN HT aI O ap V ar aY aV aQ aU ak a6;go_wp2
          exact a8.out
      ·have R:¬((lv:Int)=(least:Int)):=by omega
       have bm:((lv:Int)==(least:Int))=false:=by rw [beq_eq_false_iff_ne];exact R
       have bo:decide ((lv:Int)=(least:Int))=false:=by rw [decide_eq_false_iff_not];exact R
       have bj:decide (lv=least)=false:=by rw [decide_eq_false_iff_not];exact hlv
       have bk:(lv==least)=false:=by rw [beq_eq_false_iff_ne];exact hlv
       rw [if_neg (fun h=>hlv h.2)] at D
       simp only [Option.some.injEq] at D;subst D;obtain ⟨pN,pz,af⟩:=ab.out wC kC rC;obtain ⟨n0,n1,n2,n3,n4,nf⟩:=zU pN;obtain ⟨q0,q1,bf,q3,q4,qf⟩:=zU pz;obtain ⟨z0,z1,z2,z3,z4⟩:=zX pz (.int .i64 I) (.string H) (.int .i64 c2) (.slice J G L) (.int .i64 (e.line:Int));have ay:Hid (zJ r g w (.ok (e,y::z)) (.returned (.agg #[.int .i64 I,.string H,.int .i64 c2,.slice J G L,.int .i64 (e.line:Int)])) (set5 wC w.heap.size (.int .i64 I) (.string H) (.int .i64 c2) (.slice J G L) (.int .i64 (e.line:Int)))):=af;clear ab ap V ag ar af pN pz kC rC;go_wp2
       exact bodyPost_ret (v:=.agg #[.int .i64 I,.string H,.int .i64 c2,.slice J G L,.int .i64 (e.line:Int)]) (by simp [results,Tryz.results86,go_sem,z0,z1,z2,z3,z4]) rfl ay.out
     ·have a0:¬(y.k:Int)=4:=by omega
      rw [if_neg (fun h=>h4 h.1)] at D
      simp only [Option.some.injEq] at D;subst D;obtain ⟨pN,pz,af⟩:=ab.out wA kA rA;obtain ⟨n0,n1,n2,n3,n4,nf⟩:=zU pN;obtain ⟨q0,q1,bf,q3,q4,qf⟩:=zU pz;obtain ⟨z0,z1,z2,z3,z4⟩:=zX pz (.int .i64 I) (.string H) (.int .i64 c2) (.slice J G L) (.int .i64 (e.line:Int));have ay:Hid (zJ r g w (.ok (e,y::z)) (.returned (.agg #[.int .i64 I,.string H,.int .i64 c2,.slice J G L,.int .i64 (e.line:Int)])) (set5 wA w.heap.size (.int .i64 I) (.string H) (.int .i64 c2) (.slice J G L) (.int .i64 (e.line:Int)))):=af;clear ab ap V ag ar af pN pz kA rA;go_wp2
      exact bodyPost_ret (v:=.agg #[.int .i64 I,.string H,.int .i64 c2,.slice J G L,.int .i64 (e.line:Int)]) (by simp [results,Tryz.results86,go_sem,z0,z1,z2,z3,z4]) rfl ay.out
theorem ZU.moved {r g N F f:Nat} {w wr W:World} {res:PR Ex} {p:Nat→Ex→List Tk→Option (PR Ex)} {e:Ex} {us:List Tk} {o cap:Nat} {a2:Int} {b2:ByteArray} {c2:Int} {p2:Option Addr} {q2 s2:Nat} {l2:Int}
  (hr:r<w.heap.size) (hNw:w.heap.size<N) (hblk:wr.heap[N]?=some (.cells #[.int .i64 a2,.string b2,.int .i64 c2,.slice p2 q2 s2,.int .i64 l2] 45 (0,0)))
  (hx:zZ (fun k=>w.heap.size<k∧k≠N) wr e (.agg #[.int .i64 a2,.string b2,.int .i64 c2,.slice p2 q2 s2,.int .i64 l2])) (hk:zd r w wr) (hz:wr.heap[w.heap.size]?=some Zz) (hK:zd r wr W) (hrd:zg r g o cap us W)
  (hf:f≤F) (hp:p f e us=some res) (hE:zi us):ZU r g N F w res p W :=
 ⟨e,us,o,cap,f,a2,b2,c2,p2,q2,s2,l2,hf,hp,hE,hrd.few,(hK.block _ (Array.getElem?_eq_some_iff.1 hblk).1 (by omega)).trans hblk,zZ.kept hx hK.size fun k hk' hlt=>hK.block k hlt (by omega),hrd,hk.trans hK,(hK.block _ (Array.getElem?_eq_some_iff.1 hz).1 (by omega)).trans hz⟩
theorem ZU.one' {r g N F f:Nat} {w wr wE w7:World} {res:PR Ex} {p:Nat→Ex→List Tk→Option (PR Ex)} {e:Ex} {us:List Tk} {o cap:Nat} {a2:Int} {b2:ByteArray} {c2:Int} {p2:Option Addr} {q2 s2:Nat} {l2:Int}
  (k:Nat) (s:List UInt8) (hr:r<w.heap.size) (hg:g<w.heap.size) (hNw:w.heap.size<N) (hN:N<wE.heap.size)
  (hx:zZ (fun k=>w.heap.size<k∧k≠N) wr e (.agg #[.int .i64 a2,.string b2,.int .i64 c2,.slice p2 q2 s2,.int .i64 l2])) (hkr:zd r w wr) (hkE:zd r wr wE)
  (hk7:zd r (wE.alloc (.cells #[.int .i64 a2,.string b2,.int .i64 c2,.slice p2 q2 s2,.int .i64 l2] 45)) w7)
  (p7:w7.heap[N]?=some (.cells #[.int .i64 a2,.string b2,.int .i64 c2,.slice p2 q2 s2,.int .i64 l2] 45 (0,0))) (hz:wE.heap[w.heap.size]?=some Zz) (hrd:zg r g o cap us w7)
  (hf:f≤F) (hp:p f (.mk k s 0 [e] e.line) us=some res) (hE:zi us) (kv:Value) (hkv:kv=.int .i64 k) (W:World)
  (hW:W=set5 w7 N kv (.string (zb s)) (.int .i64 0) (.slice (some ⟨wE.heap.size,0,none⟩) 1 1) (.int .i64 l2)) :
  ZU r g N F w res p W∧ZP r W=us.length:=by
 obtain rfl:l2=(e.line:Int):=hx.line_eq;subst hkv;have D:=hk7.size;have I:=hkE.size;have H:=hkr.size;simp only [World.size_alloc] at D;have A:=((hkr.trans hkE).alloc (.cells #[.int .i64 a2,.string b2,.int .i64 c2,.slice p2 q2 s2,.int .i64 (e.line:Int)] 45)).trans hk7;have G:=zZ.kept hx hkE.size fun k hk' hlt=>hkE.block k hlt (by omega)
 have z:=zK.one 45 (c:=[.int .i64 a2,.string b2,.int .i64 c2,.slice p2 q2 s2,.int .i64 (e.line:Int)]) G rfl ⟨by omega,by omega⟩
 have y:=z.kept hk7.size fun k hk' hlt=>hk7.block k hlt (by omega)
 have h:zg r g o cap us W:=hrd.keep (by rw [hW];exact zu _ _ _ _ _ _ _ (by omega)) (by rw [hW];exact zu _ _ _ _ _ _ _ (by omega))
 refine ⟨⟨.mk k s 0 [e] e.line,us,o,cap,f,k,zb s,0,some ⟨wE.heap.size,0,none⟩,1,1,e.line,hf,hp,hE,hrd.few,?_,?_,h,?_,?_⟩,h.left⟩
 ·rw [hW];exact Yj p7 _ _ _ _ _
 ·rw [hW];exact zZ.of_row (y.kept (w':=set5 w7 N (.int .i64 k) (.string (zb s)) (.int .i64 0) (.slice (some ⟨wE.heap.size,0,none⟩) 1 1) (.int .i64 (e.line:Int))) (by simp) fun k hk _=>zu _ _ _ _ _ _ _ hk.2) k s 0 e.line
 ·rw [hW];exact ZN A (by omega) _ _ _ _ _
 ·rw [hW,zu _ _ _ _ _ _ _ (by omega),hk7.block _ (by simp;omega) (by omega),Below.heap_alloc _ _ _ (by omega)];exact hz
end Go.Proofs.YtpejpbbdgblbeaaGreatDoor
