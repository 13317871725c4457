import Derived.Test.YtpejpbbdgblbeaaGreatDoorMC16
import Derived.Deep.RegionWith
import Derived.Deep.CutRange
namespace Go.Proofs.YtpejpbbdgblbeaaGreatDoor
open Go.RowKit Go.Shelf
set_option maxHeartbeats 16000000
set_option maxRecDepth 100000
theorem Xe {w:World} {N:Nat} (ob:Obj) (a b c d e:Value) (h:N<w.heap.size):set5 (w.alloc ob) N a b c d e=(set5 w N a b c d e).alloc ob:=by
 have o:∀(W:World) (i:Nat) (v:Value),N<W.heap.size→(W.alloc ob).setCell ⟨N,i,none⟩ v=(W.setCell ⟨N,i,none⟩ v).alloc ob:=fun W i v hp=>World.setCell_alloc_past ob N i v hp
 simp only [set5];rw [o _ _ _ h,o _ _ _ (by simpa using h),o _ _ _ (by simpa using h),o _ _ _ (by simpa using h),o _ _ _ (by simpa using h)]
theorem ZT.two {r g N F f:Nat} {w wr wE w7:World} {res:PR Ex} {p:Nat→Ex→List Tk→Option (PR Ex)} {e x:Ex} {us:List Tk} {o cap:Nat} {a2:Int} {b2:ByteArray} {c2:Int} {p2:Option Addr} {q2 s2:Nat} {l2:Int} {a3:Int} {b3:ByteArray} {c3:Int} {u0:Option Addr} {u1 u2:Nat} {l3:Int}
  (k:Nat) (s:List UInt8) (hr:r<w.heap.size) (hg:g<w.heap.size) (hNw:w.heap.size<N) (hN:N<wE.heap.size)
  (hx:zV (fun k=>w.heap.size<k∧k≠N) wr e (.agg #[.int .i64 a2,.string b2,.int .i64 c2,.slice p2 q2 s2,.int .i64 l2])) (hkr:zd r w wr) (hkE:zd r wr wE) (hk7:zd r wE w7)
  (p7:w7.heap[N]?=some (.cells #[.int .i64 a2,.string b2,.int .i64 c2,.slice p2 q2 s2,.int .i64 l2] 45 (0,0))) (hz:wE.heap[w.heap.size]?=some Zu)
  (hx7:ZL wE.heap.size w7 x (.agg #[.int .i64 a3,.string b3,.int .i64 c3,.slice u0 u1 u2,.int .i64 l3])) (hrd:zf r g o cap us w7)
  (hf:f≤F) (hp:p f (.mk k s 0 [e,x] e.line) us=some res) (hE:zg us) (hlen:us.length≤1099511627776) (kv:Value) (hkv:kv=.int .i64 k) (W:World)
  (hW:W=(set5 w7 N kv (.string (zb s)) (.int .i64 0) (.slice (some ⟨w7.heap.size,0,none⟩) 2 2) (.int .i64 l2)).alloc (.cells #[.int .i64 a2,.string b2,.int .i64 c2,.slice p2 q2 s2,.int .i64 l2,.int .i64 a3,.string b3,.int .i64 c3,.slice u0 u1 u2,.int .i64 l3] 45)) :
  ZT r g N F w res p W∧ZQ r W=us.length:=by
 obtain rfl:l2=(e.line:Int):=hx.line_eq;rw [←Xe _ _ _ _ _ _ (Array.getElem?_eq_some_iff.1 p7).1] at hW;subst hkv;have H:=hk7.size;have J:=hkE.size;have I:=hkr.size;have z:=(hkr.trans hkE).trans hk7;obtain ⟨K,G,rfl⟩:=hE.cons;have A:=zV.kept (zV.kept hx hkE.size fun k hk' hlt=>hkE.block k hlt (by omega)) hk7.size fun k hk' hlt=>hk7.block k hlt (by omega)
 have h:=zI.two 45 (c:=[.int .i64 a2,.string b2,.int .i64 c2,.slice p2 q2 s2,.int .i64 (e.line:Int)]) (d:=[.int .i64 a3,.string b3,.int .i64 c3,.slice u0 u1 u2,.int .i64 l3]) A (zV.wide hx7 fun k hk'=>⟨by omega,by omega⟩) rfl rfl ⟨by omega,by omega⟩
 simp only [List.cons_append,List.nil_append] at h;have D:=ZT.store (p:=p) (res:=res) (f:=f) (F:=F) k s 0 e.line hr hg hNw z p7 h hrd ((hk7.block _ (by omega) (by omega)).trans hz) hf hp hE hlen
 have y:=(hrd.alloc (.cells #[.int .i64 a2,.string b2,.int .i64 c2,.slice p2 q2 s2,.int .i64 (e.line:Int),.int .i64 a3,.string b3,.int .i64 c3,.slice u0 u1 u2,.int .i64 l3] 45)).keep (w':=W) (by rw [hW];exact zr _ _ _ _ _ _ _ (by omega)) (by rw [hW];exact zr _ _ _ _ _ _ _ (by omega))
 rw [←hW] at D;exact ⟨D,y.left⟩
theorem ZT.one {r g N F f:Nat} {w wr wE w7:World} {res:PR Ex} {p:Nat→Ex→List Tk→Option (PR Ex)} {e:Ex} {us:List Tk} {o cap:Nat} {a2:Int} {b2:ByteArray} {c2:Int} {p2:Option Addr} {q2 s2:Nat} {l2:Int}
  (k:Nat) (s:List UInt8) (hr:r<w.heap.size) (hg:g<w.heap.size) (hNw:w.heap.size<N) (hN:N<wE.heap.size)
  (hx:zV (fun k=>w.heap.size<k∧k≠N) wr e (.agg #[.int .i64 a2,.string b2,.int .i64 c2,.slice p2 q2 s2,.int .i64 l2])) (hkr:zd r w wr) (hkE:zd r wr wE) (hk7:zd r wE w7)
  (p7:w7.heap[N]?=some (.cells #[.int .i64 a2,.string b2,.int .i64 c2,.slice p2 q2 s2,.int .i64 l2] 45 (0,0))) (hz:wE.heap[w.heap.size]?=some Zu) (hrd:zf r g o cap us w7)
  (hf:f≤F) (hp:p f (.mk k s 0 [e] e.line) us=some res) (hE:zg us) (hlen:us.length≤1099511627776) (kv:Value) (hkv:kv=.int .i64 k) (W:World)
  (hW:W=(set5 w7 N kv (.string (zb s)) (.int .i64 0) (.slice (some ⟨w7.heap.size,0,none⟩) 1 1) (.int .i64 l2)).alloc (.cells #[.int .i64 a2,.string b2,.int .i64 c2,.slice p2 q2 s2,.int .i64 l2] 45)) :
  ZT r g N F w res p W∧ZQ r W=us.length:=by
 obtain rfl:l2=(e.line:Int):=hx.line_eq;rw [←Xe _ _ _ _ _ _ (Array.getElem?_eq_some_iff.1 p7).1] at hW;subst hkv;have H:=hk7.size;have J:=hkE.size;have I:=hkr.size;have z:=(hkr.trans hkE).trans hk7;obtain ⟨K,G,rfl⟩:=hE.cons;have A:=zV.kept (zV.kept hx hkE.size fun k hk' hlt=>hkE.block k hlt (by omega)) hk7.size fun k hk' hlt=>hk7.block k hlt (by omega)
 have y:=zI.one 45 (c:=[.int .i64 a2,.string b2,.int .i64 c2,.slice p2 q2 s2,.int .i64 (e.line:Int)]) A rfl ⟨by omega,by omega⟩
 have D:=ZT.store (p:=p) (res:=res) (f:=f) (F:=F) k s 0 e.line hr hg hNw z p7 y hrd ((hk7.block _ (by omega) (by omega)).trans hz) hf hp hE hlen
 have h:=(hrd.alloc (.cells #[.int .i64 a2,.string b2,.int .i64 c2,.slice p2 q2 s2,.int .i64 (e.line:Int)] 45)).keep (w':=W) (by rw [hW];exact zr _ _ _ _ _ _ _ (by omega)) (by rw [hW];exact zr _ _ _ _ _ _ _ (by omega))
 rw [←hW] at D;exact ⟨D,h.left⟩
theorem zco (r g o cap F least:Nat) (ts:List Tk) (w:World) (res:PR Ex) (h:zf r g o cap ts w) (hE:zg ts) (hN:ts.length≤1099511627776) (hlev:Zz w) (hrl:r≠1) (hl:least≤6) (hp:zh (F+1) least ts=some res)
  (hbt:∀w1 o1 R ts1 r1,zh F (least+1) ts1=some r1→zg ts1→ts1.length≤1099511627776→zf r g o1 R ts1 w1→zd r w w1→Calls Tryz.prog 86 #[.pointer (some ⟨r,0,none⟩),.int .i64 ((least:Int)+1)] w1 (zH r g w1 r1)) :
  Calls Tryz.prog 86 #[.pointer (some ⟨r,0,none⟩),.int .i64 least] w (zH r g w res):=by
 obtain ⟨t0,aI,rfl⟩:=hE.cons;have hr:=h.lt.1;have aU:=h.lt.2;rw [zh,if_neg (by omega)] at hp
 cases hb:zh F (least+1) (t0::aI) with
 | none=>rw [hb] at hp;cases hp
 | some r1 =>
  obtain ⟨w0,ak⟩:∃w0,w0=w.alloc Zu:=⟨_,rfl⟩;have c1:=hbt w0 o cap (t0::aI) r1 hb hE hN (by rw [ak];exact h.alloc _) (by rw [ak];exact (zd.refl r w).alloc _)
  rw [hb] at hp;simp only [zm] at hp;have bn:¬(6:Int)<(least:Int):=by omega
  have Z:Hid (w0=w.alloc Zu):=ak;have aS:Hid (∀w1 o1 R ts1 r1,zh F (least+1) ts1=some r1→zg ts1→ts1.length≤1099511627776→zf r g o1 R ts1 w1→zd r w w1→Calls Tryz.prog 86 #[.pointer (some ⟨r,0,none⟩),.int .i64 ((least:Int)+1)] w1 (zH r g w1 r1)):=hbt;clear ak hbt
  go_enter Tryz.func86,Tryz.ntmps86
  go_wp2_with fail
  rw [←Z.out];refine c1.mono ?_;clear c1;rintro e w1 ⟨af,Y⟩;have aK:zd r w w1:=by have:=Z.out;subst this;exact ((zd.refl r w).alloc _).trans af
  rcases r1 with a | ⟨x,us⟩
  ·obtain rfl:=Y
   simp only [Option.some.injEq] at hp;subst hp;exact ⟨rfl,aK,rfl⟩
  ·obtain ⟨v,o1,R,rfl,hx,U⟩:=Y
   obtain ⟨a,b,c,d0,d1,d2,l,rfl⟩:=hx.agg;have aL:=(Ze F).1 _ _ _ _ hb hE;have aX:=Yl hb;have hJ:=ZT.start (p:=fun f e ts=>ZD f least e ts) (res:=res) Z.out hr af hx U hp aL (by omega)
   have HJ:Hid (ZT r g w1.heap.size F w res (fun f e ts=>ZD f least e ts) (w1.alloc (.cells #[.int .i64 a,.string b,.int .i64 c,.slice d0 d1 d2,.int .i64 l] 45))):=hJ
   have az:w.heap.size<w1.heap.size:=by have:=af.size;have h2:=Z.out;subst h2;simp at this;omega
   obtain ⟨N,aE⟩:∃N,N=w1.heap.size:=⟨_,rfl⟩;rw [←aE] at HJ az;have a5:Hid (Zz w):=hlev;clear hJ hx U af aL hp hb hE hN h aX aK hlev Z;go_wp2_with fail
   rw [←aE];generalize hW0:w1.alloc (.cells #[.int .i64 a,.string b,.int .i64 c,.slice d0 d1 d2,.int .i64 l] 45)=W0 at *;clear hW0 aE
   go_loopw [6] (fun _ wr=>ZT r g N F w res (fun f e ts=>ZD f least e ts) wr) (fun _ wr=>ZQ r wr)
   case atStart=>exact HJ.out
   case round =>
    obtain ⟨e,bp,o2,A,f2,D,K,c2,I,J,G,l2,bq,H,aB,be,T,am,Q,ab,ag⟩:=hrel;obtain ⟨z,y,rfl⟩:=aB.cons;obtain rfl:l2=(e.line:Int):=am.line_eq;clear HJ;have ch:=Z3 r g o2 A z y wr Q;have ay:=Q.left
    have ad:Hid (∀W,zd r wr W→zf r g o2 A (z::y) W→W.heap[N]?=some (.cells #[.int .i64 D,.string K,.int .i64 c2,.slice I J G,.int .i64 (e.line:Int)] 45 (0,0))∧W.heap[w.heap.size]?=some Zu ∧
     zH r g w (.ok (e,z::y)) (.returned (.agg #[.int .i64 D,.string K,.int .i64 c2,.slice I J G,.int .i64 (e.line:Int)])) (set5 W w.heap.size (.int .i64 D) (.string K) (.int .i64 c2) (.slice I J G) (.int .i64 (e.line:Int)))) :=
     fun W hK U=>ZT.leave hr aU az ab T ag am hK U
    have aw:Hid (∀W,zd r wr W→W.heap[N]?=some (.cells #[.int .i64 D,.string K,.int .i64 c2,.slice I J G,.int .i64 (e.line:Int)] 45 (0,0))∧W.heap[w.heap.size]?=some Zu) :=
     fun W hK=>⟨(hK.block _ (Array.getElem?_eq_some_iff.1 T).1 (by omega)).trans T,(hK.block _ (Array.getElem?_eq_some_iff.1 ag).1 (by omega)).trans ag⟩
    have ap:Hid (zV (fun k=>w.heap.size<k∧k≠N) wr e (.agg #[.int .i64 D,.string K,.int .i64 c2,.slice I J G,.int .i64 (e.line:Int)])):=am
    have V:Hid (zd r w wr):=ab;have ao:Hid (zf r g o2 A (z::y) wr):=Q;have aj:Hid (zg (z::y)):=aB;have bo:r<wr.heap.size∧g<wr.heap.size:=⟨by have:=ab.size;omega,by have:=ab.size;omega⟩
    cases f2 with
    | zero=>simp [ZD] at H
    | succ f3 =>
     simp only [ZD,zz,List.tail_cons] at H;clear am ab Q aB T ag;go_wp2_with fail
     refine ch.mono ?_;clear ch;rintro e w' ⟨rfl,rfl⟩;simp only [VP];have kA:zd r wr (wr.alloc (ZK z)):=(zd.refl r wr).alloc _;have rA:=ao.out.alloc (ZK z);generalize wr.alloc (ZK z)=wA at *;have aY:=vw;have ba:=zaD
     by_cases h4:z.k=4
     ·have a0:(z.k:Int)=4:=by omega
      have cB:=Z3 r g o2 A z y wA rA;have kB:zd r wr (wA.alloc (ZK z)):=kA.alloc _;have rB:=rA.alloc (ZK z);have aD:Hid (zd r wr (wA.alloc (ZK z))):=kB;have aa:Hid (zf r g o2 A (z::y) (wA.alloc (ZK z))):=rB;have lB:=(a5.out.kept V.out hrl).kept kB hrl;have cL:=Xd z.s (wA.alloc (ZK z)) lB;clear kA rA kB rB lB;go_wp2_with fail
      refine cB.mono ?_;clear cB;rintro e w' ⟨rfl,rfl⟩;simp only [VP];obtain ⟨wB,aV⟩:∃wB,wB=wA.alloc (ZK z):=⟨_,rfl⟩;rw [←aV] at aD aa cL ⊢;clear aV;go_wp2_with fail
      refine cL.mono ?_;clear cL;rintro e wC ⟨rfl,al⟩;have kC:zd r wr wC:=aD.out.trans (zd.of al);have rC:zf r g o2 A (z::y) wC:=aa.out.keep (al.block _ aa.out.lt.1) (al.block _ aa.out.lt.2);clear al aD aa wB;generalize levelOf z.s=lv at *
      by_cases hlv:lv=least
      ·have O:least=lv:=hlv.symm
       subst O;rw [if_pos ⟨h4,rfl⟩] at H;have aq:=aj.out.tail (by omega:z.k≠0)
       have cD:=Z3 r g o2 A z y wC rC;have kD:zd r wr (wC.alloc (ZK z)):=kC.alloc _;have rD:=rC.alloc (ZK z);have cE:=vx r g o2 A z y (wC.alloc (ZK z)) rD aq.ne;have aP:Hid (zd r wr (wC.alloc (ZK z))):=kD;have aJ:Hid (zf r g o2 A (z::y) (wC.alloc (ZK z))):=rD;clear kC rC kD rD;go_wp2_with fail
       refine cD.mono ?_;clear cD;rintro e w' ⟨rfl,rfl⟩;simp only [VP];go_wp2_with fail
       refine cE.mono ?_;clear cE;rintro e wE ⟨rfl,aC⟩;have kE:zd r wr wE:=by rw [aC];exact aP.out.setCell 0 _
       have rE:zf r g (o2+5) (A-1) y wE:=by rw [aC];exact aJ.out.next
       obtain ⟨pN,pz⟩:=aw.out wE kE;clear aC aP aJ ao ad aY ba;have aM:Hid (zd r wr wE):=kE;have L:Hid (zd r w wE):=V.out.trans kE;have au:N<wE.heap.size:=(Array.getElem?_eq_some_iff.1 pN).1;have bh:y.length≤1099511627776:=by simp only [List.length_cons] at be;omega
       cases hb3:zh f3 (least+1) y with
       | none=>rw [hb3] at H;cases H
       | some r3 =>
        rw [hb3] at H;simp only [zm] at H
        have ax:zh F (least+1) y=some r3:=by
         have:=YH (k:=F-f3) hb3
         rwa [show f3+(F-f3)=F by omega] at this
        have cb:∀W:World,W.heap=wE.heap→W.os=wE.os→W.tape=wE.tape→W.output=wE.output→Calls Tryz.prog 86 #[.pointer (some ⟨r,0,none⟩),.int .i64 ((least:Int)+1)] W fun e w'=>zd r wE w'∧zH r g W r3 e w':=fun W e1 e2 e3 e4 =>
         (aS.out W _ _ y r3 ax aq bh (rE.keep (by rw [e1]) (by rw [e1])) ⟨e2.trans L.out.os,e3.trans L.out.tape,e4.trans L.out.output,by rw [e1];exact L.out.size,fun k hk hr=>by rw [e1];exact L.out.block k hk hr⟩).mono fun e w' h =>
          ⟨⟨h.1.os.trans e2,h.1.tape.trans e3,h.1.output.trans e4,by rw [←e1];exact h.1.size,fun k hk hr=>by rw [←e1];exact h.1.block k (by rw [e1];exact hk) hr⟩,h⟩
        obtain ⟨n0,n1,n2,n3,n4,nf⟩:=zR pN;have aG:Hid (wE.heap[N]?=some (.cells #[.int .i64 D,.string K,.int .i64 c2,.slice I J G,.int .i64 (e.line:Int)] 45 (0,0))):=pN;have aO:Hid (wE.heap[w.heap.size]?=some Zu):=pz;clear pN pz rE kE aS aw;have bf:IntKind.i64.wrap ((least:Int)+1)=(least:Int)+1:=by rw [IntKind.wrap_i64];omega
        rcases r3 with a3 | ⟨x3,an⟩
        ·simp only [Option.some.injEq] at H
         subst H;have ah:∀W:World,W.heap=wE.heap→W.os=wE.os→W.tape=wE.tape→W.output=wE.output→Calls Tryz.prog 86 #[.pointer (some ⟨r,0,none⟩),.int .i64 ((least:Int)+1)] W fun e w'=>e=ZH a3∧zd r w w':=fun W e1 e2 e3 e4=>(cb W e1 e2 e3 e4).mono fun e w' h=>⟨h.2.2,L.out.trans h.1⟩
         clear cb;go_wp2_with fail
         go_region_dies
         all_goals (go_wp2_with fail;refine (ah _ (by rfl) (by rfl) (by rfl) (by rfl)).mono ?_;rintro e w4 ⟨rfl,ai⟩;exact ⟨rfl,ai,rfl⟩)
        ·have aW:=(Ze F).1 _ _ _ _ ax aq
         have a4:=Yl ax;have aN:an.length≤1099511627776:=by omega
         have aT:an.length<ZQ r wr:=by rw [ay];simp only [List.length_cons];omega
         have a1:f3≤F:=by omega
         have HT:Hid (ZD f3 least (.mk 7 z.s 0 [e,x3] e.line) an=some res):=H
         have ah:∀W:World,W.heap=wE.heap→W.os=wE.os→W.tape=wE.tape→W.output=wE.output→Calls Tryz.prog 86 #[.pointer (some ⟨r,0,none⟩),.int .i64 ((least:Int)+1)] W fun e' w'=>∃(a3:Int) (b3:ByteArray) (c3:Int) (u0:Option Addr) (u1 u2:Nat) (l3:Int),e'=.returned (.agg #[.int .i64 a3,.string b3,.int .i64 c3,.slice u0 u1 u2,.int .i64 l3]) ∧
           w'.heap[N]?=some (.cells #[.int .i64 D,.string K,.int .i64 c2,.slice I J G,.int .i64 (e.line:Int)] 45 (0,0))∧Hid (zd r wE w'∧ZL wE.heap.size w' x3 (.agg #[.int .i64 a3,.string b3,.int .i64 c3,.slice u0 u1 u2,.int .i64 l3])∧∃o cap,zf r g o cap an w'):=fun W e1 e2 e3 e4=>(cb W e1 e2 e3 e4).mono fun e' w' h=>by
          obtain ⟨ai,-,v,o4,aR,rfl,hx,U⟩:=h;obtain ⟨a3,b3,c3,u0,u1,u2,l3,rfl⟩:=hx.agg;exact ⟨a3,b3,c3,u0,u1,u2,l3,rfl,(ai.block N au (by omega)).trans aG.out,ai,(by rw [←e1];exact hx:ZL wE.heap.size w' x3 _),o4,aR,U⟩
         clear cb H;go_wp2_with fail
         go_region_with (go_at_call 86;refine (ah _ (by rfl) (by rfl) (by rfl) (by rfl)).mono ?_;rintro e' w7 ⟨a3,b3,c3,u0,u1,u2,l3,rfl,p7,H7⟩;have a8:N<w7.heap.size:=(Array.getElem?_eq_some_iff.1 p7).1;have aH:=(fun ob=>(Below.heap_alloc w7 ob N a8).trans p7);obtain ⟨m0,m1,m2,m3,m4,mf⟩:=zR p7;have a9:=zj m0;have aZ:=zj m1;have bd:=zj m2;have a7:=zj m3;have bg:=zj m4;have bb:=(fun ob j=>(zR (aH ob)).2.2.2.2.2 j))
         all_goals
          obtain ⟨aF,aQ,o7,bm,av⟩:=H7.out;obtain ⟨W,hW⟩:∃W,W=(set5 w7 N (.int .i64 7) (.string (zb z.s)) (.int .i64 0) (.slice (some ⟨w7.heap.size,0,none⟩) 2 2) (.int .i64 (e.line:Int))).alloc (.cells #[.int .i64 D,.string K,.int .i64 c2,.slice I J G,.int .i64 (e.line:Int),.int .i64 a3,.string b3,.int .i64 c3,.slice u0 u1 u2,.int .i64 l3] 45):=⟨_,rfl⟩;obtain ⟨hJ,ar⟩:=ZT.two (p:=fun f e ts=>ZD f least e ts) 7 z.s hr aU az au ap.out V.out aM.out aF p7 aO.out aQ av a1 HT.out aW aN (.int .i64 7) rfl W hW
          have a6:Hid (ZT r g N F w res (fun f e ts=>ZD f least e ts) W∧ZQ r W<ZQ r wr):=show _∧_<_ from ⟨hJ,by rw [ar];exact aT⟩
          change Exit.inBlock _ _ _ _ ((set5 w7 N (.int .i64 7) (.string (zb z.s)) (.int .i64 0) (.slice (some ⟨w7.heap.size,0,none⟩) 2 2) (.int .i64 (e.line:Int))).alloc (.cells #[.int .i64 D,.string K,.int .i64 c2,.slice I J G,.int .i64 (e.line:Int),.int .i64 a3,.string b3,.int .i64 c3,.slice u0 u1 u2,.int .i64 l3] 45))
          rw [←hW];clear hW hJ ar av aQ aF p7 aH m0 m1 m2 m3 m4 mf a9 aZ bd a7 bg bb n0 n1 n2 n3 n4 nf ah H7 aG aO HT aM L ap V aj a4 aN aT aW aq bf;go_wp2
          exact a6.out
      ·have O:¬((lv:Int)=(least:Int)):=by omega
       have bl:((lv:Int)==(least:Int))=false:=by rw [beq_eq_false_iff_ne];exact O
       have bi:decide ((lv:Int)=(least:Int))=false:=by rw [decide_eq_false_iff_not];exact O
       have bj:decide (lv=least)=false:=by rw [decide_eq_false_iff_not];exact hlv
       have bk:(lv==least)=false:=by rw [beq_eq_false_iff_ne];exact hlv
       rw [if_neg (fun h=>hlv h.2)] at H
       simp only [Option.some.injEq] at H;subst H;obtain ⟨pN,pz,ae⟩:=ad.out wC kC rC;obtain ⟨n0,n1,n2,n3,n4,nf⟩:=zR pN;obtain ⟨q0,q1,bc,q3,q4,qf⟩:=zR pz;obtain ⟨z0,z1,z2,z3,z4⟩:=zT pz (.int .i64 D) (.string K) (.int .i64 c2) (.slice I J G) (.int .i64 (e.line:Int));have aA:Hid (zH r g w (.ok (e,z::y)) (.returned (.agg #[.int .i64 D,.string K,.int .i64 c2,.slice I J G,.int .i64 (e.line:Int)])) (set5 wC w.heap.size (.int .i64 D) (.string K) (.int .i64 c2) (.slice I J G) (.int .i64 (e.line:Int)))):=ae;clear ad ap V ao aj ae pN pz kC rC;go_wp2
       exact bodyPost_ret (v:=.agg #[.int .i64 D,.string K,.int .i64 c2,.slice I J G,.int .i64 (e.line:Int)]) (by simp [results,Tryz.results86,go_sem,z0,z1,z2,z3,z4]) rfl aA.out
     ·have a0:¬(z.k:Int)=4:=by omega
      rw [if_neg (fun h=>h4 h.1)] at H
      simp only [Option.some.injEq] at H;subst H;obtain ⟨pN,pz,ae⟩:=ad.out wA kA rA;obtain ⟨n0,n1,n2,n3,n4,nf⟩:=zR pN;obtain ⟨q0,q1,bc,q3,q4,qf⟩:=zR pz;obtain ⟨z0,z1,z2,z3,z4⟩:=zT pz (.int .i64 D) (.string K) (.int .i64 c2) (.slice I J G) (.int .i64 (e.line:Int));have aA:Hid (zH r g w (.ok (e,z::y)) (.returned (.agg #[.int .i64 D,.string K,.int .i64 c2,.slice I J G,.int .i64 (e.line:Int)])) (set5 wA w.heap.size (.int .i64 D) (.string K) (.int .i64 c2) (.slice I J G) (.int .i64 (e.line:Int)))):=ae;clear ad ap V ao aj ae pN pz kA rA;go_wp2
      exact bodyPost_ret (v:=.agg #[.int .i64 D,.string K,.int .i64 c2,.slice I J G,.int .i64 (e.line:Int)]) (by simp [results,Tryz.results86,go_sem,z0,z1,z2,z3,z4]) rfl aA.out
theorem ZT.moved {r g N F f:Nat} {w wr W:World} {res:PR Ex} {p:Nat→Ex→List Tk→Option (PR Ex)} {e:Ex} {us:List Tk} {o cap:Nat} {a2:Int} {b2:ByteArray} {c2:Int} {p2:Option Addr} {q2 s2:Nat} {l2:Int}
  (hr:r<w.heap.size) (hNw:w.heap.size<N) (hblk:wr.heap[N]?=some (.cells #[.int .i64 a2,.string b2,.int .i64 c2,.slice p2 q2 s2,.int .i64 l2] 45 (0,0)))
  (hx:zV (fun k=>w.heap.size<k∧k≠N) wr e (.agg #[.int .i64 a2,.string b2,.int .i64 c2,.slice p2 q2 s2,.int .i64 l2])) (hk:zd r w wr) (hz:wr.heap[w.heap.size]?=some Zu) (hK:zd r wr W) (hrd:zf r g o cap us W)
  (hf:f≤F) (hp:p f e us=some res) (hE:zg us):ZT r g N F w res p W :=
 ⟨e,us,o,cap,f,a2,b2,c2,p2,q2,s2,l2,hf,hp,hE,hrd.few,(hK.block _ (Array.getElem?_eq_some_iff.1 hblk).1 (by omega)).trans hblk,zV.kept hx hK.size fun k hk' hlt=>hK.block k hlt (by omega),hrd,hk.trans hK,(hK.block _ (Array.getElem?_eq_some_iff.1 hz).1 (by omega)).trans hz⟩
theorem ZT.one' {r g N F f:Nat} {w wr wE w7:World} {res:PR Ex} {p:Nat→Ex→List Tk→Option (PR Ex)} {e:Ex} {us:List Tk} {o cap:Nat} {a2:Int} {b2:ByteArray} {c2:Int} {p2:Option Addr} {q2 s2:Nat} {l2:Int}
  (k:Nat) (s:List UInt8) (hr:r<w.heap.size) (hg:g<w.heap.size) (hNw:w.heap.size<N) (hN:N<wE.heap.size)
  (hx:zV (fun k=>w.heap.size<k∧k≠N) wr e (.agg #[.int .i64 a2,.string b2,.int .i64 c2,.slice p2 q2 s2,.int .i64 l2])) (hkr:zd r w wr) (hkE:zd r wr wE)
  (hk7:zd r (wE.alloc (.cells #[.int .i64 a2,.string b2,.int .i64 c2,.slice p2 q2 s2,.int .i64 l2] 45)) w7)
  (p7:w7.heap[N]?=some (.cells #[.int .i64 a2,.string b2,.int .i64 c2,.slice p2 q2 s2,.int .i64 l2] 45 (0,0))) (hz:wE.heap[w.heap.size]?=some Zu) (hrd:zf r g o cap us w7)
  (hf:f≤F) (hp:p f (.mk k s 0 [e] e.line) us=some res) (hE:zg us) (kv:Value) (hkv:kv=.int .i64 k) (W:World)
  (hW:W=set5 w7 N kv (.string (zb s)) (.int .i64 0) (.slice (some ⟨wE.heap.size,0,none⟩) 1 1) (.int .i64 l2)) :
  ZT r g N F w res p W∧ZQ r W=us.length:=by
 obtain rfl:l2=(e.line:Int):=hx.line_eq;subst hkv;have A:=hk7.size;have I:=hkE.size;have H:=hkr.size;simp only [World.size_alloc] at A;have D:=((hkr.trans hkE).alloc (.cells #[.int .i64 a2,.string b2,.int .i64 c2,.slice p2 q2 s2,.int .i64 (e.line:Int)] 45)).trans hk7;have G:=zV.kept hx hkE.size fun k hk' hlt=>hkE.block k hlt (by omega)
 have z:=zI.one 45 (c:=[.int .i64 a2,.string b2,.int .i64 c2,.slice p2 q2 s2,.int .i64 (e.line:Int)]) G rfl ⟨by omega,by omega⟩
 have y:=z.kept hk7.size fun k hk' hlt=>hk7.block k hlt (by omega)
 have h:zf r g o cap us W:=hrd.keep (by rw [hW];exact zr _ _ _ _ _ _ _ (by omega)) (by rw [hW];exact zr _ _ _ _ _ _ _ (by omega))
 refine ⟨⟨.mk k s 0 [e] e.line,us,o,cap,f,k,zb s,0,some ⟨wE.heap.size,0,none⟩,1,1,e.line,hf,hp,hE,hrd.few,?_,?_,h,?_,?_⟩,h.left⟩
 ·rw [hW];exact y7 p7 _ _ _ _ _
 ·rw [hW];exact zV.of_row (y.kept (w':=set5 w7 N (.int .i64 k) (.string (zb s)) (.int .i64 0) (.slice (some ⟨wE.heap.size,0,none⟩) 1 1) (.int .i64 (e.line:Int))) (by simp) fun k hk _=>zr _ _ _ _ _ _ _ hk.2) k s 0 e.line
 ·rw [hW];exact ZO D (by omega) _ _ _ _ _
 ·rw [hW,zr _ _ _ _ _ _ _ (by omega),hk7.block _ (by simp;omega) (by omega),Below.heap_alloc _ _ _ (by omega)];exact hz
end Go.Proofs.YtpejpbbdgblbeaaGreatDoor
