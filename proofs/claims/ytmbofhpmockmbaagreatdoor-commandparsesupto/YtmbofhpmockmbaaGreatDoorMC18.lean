import Derived.Test.YtmbofhpmockmbaaGreatDoorMC14
import Derived.Deep.RegionWith
import Derived.Deep.CutRange
namespace Go.Proofs.YtmbofhpmockmbaaGreatDoor
open Go.RowKit Go.Shelf
set_option maxHeartbeats 16000000
set_option maxRecDepth 100000
theorem YF {w:World} {N:Nat} (ob:Obj) (a b c d e:Value) (h:N<w.heap.size):set5 (w.alloc ob) N a b c d e=(set5 w N a b c d e).alloc ob:=by
 have o:∀(W:World) (i:Nat) (v:Value),N<W.heap.size→(W.alloc ob).setCell ⟨N,i,none⟩ v=(W.setCell ⟨N,i,none⟩ v).alloc ob:=fun W i v hp=>World.setCell_alloc_past ob N i v hp
 simp only [set5];rw [o _ _ _ h,o _ _ _ (by simpa using h),o _ _ _ (by simpa using h),o _ _ _ (by simpa using h),o _ _ _ (by simpa using h)]
theorem Zk.two {r g N F f:Nat} {w wr wE w7:World} {res:PR Ex} {p:Nat→Ex→List Tk→Option (PR Ex)} {e x:Ex} {us:List Tk} {o cap:Nat} {a2:Int} {b2:ByteArray} {c2:Int} {p2:Option Addr} {q2 s2:Nat} {l2:Int} {a3:Int} {b3:ByteArray} {c3:Int} {u0:Option Addr} {u1 u2:Nat} {l3:Int}
  (k:Nat) (s:List UInt8) (hr:r<w.heap.size) (hg:g<w.heap.size) (hNw:w.heap.size<N) (hN:N<wE.heap.size)
  (hx:zJ (fun k=>w.heap.size<k∧k≠N) wr e (.agg #[.int .i64 a2,.string b2,.int .i64 c2,.slice p2 q2 s2,.int .i64 l2])) (hkr:zc r w wr) (hkE:zc r wr wE) (hk7:zc r wE w7)
  (p7:w7.heap[N]?=some (.cells #[.int .i64 a2,.string b2,.int .i64 c2,.slice p2 q2 s2,.int .i64 l2] 90 (0,0))) (hz:wE.heap[w.heap.size]?=some zL)
  (hx7:zO wE.heap.size w7 x (.agg #[.int .i64 a3,.string b3,.int .i64 c3,.slice u0 u1 u2,.int .i64 l3])) (hrd:zk r g o cap us w7)
  (hf:f≤F) (hp:p f (.mk k s 0 [e,x] e.line) us=some res) (hE:zt us) (hlen:us.length≤1099511627776) (kv:Value) (hkv:kv=.int .i64 k) (W:World)
  (hW:W=(set5 w7 N kv (.string (za s)) (.int .i64 0) (.slice (some ⟨w7.heap.size,0,none⟩) 2 2) (.int .i64 l2)).alloc (.cells #[.int .i64 a2,.string b2,.int .i64 c2,.slice p2 q2 s2,.int .i64 l2,.int .i64 a3,.string b3,.int .i64 c3,.slice u0 u1 u2,.int .i64 l3] 90)) :
  Zk r g N F w res p W∧ZM r W=us.length:=by
 obtain rfl:l2=(e.line:Int):=hx.line_eq;rw [←YF _ _ _ _ _ _ (Array.getElem?_eq_some_iff.1 p7).1] at hW;subst hkv;have H:=hk7.size;have G:=hkE.size;have I:=hkr.size;have A:=(hkr.trans hkE).trans hk7;obtain ⟨J,E,rfl⟩:=hE.cons;have z:=zJ.kept (zJ.kept hx hkE.size fun k hk' hlt=>hkE.block k hlt (by omega)) hk7.size fun k hk' hlt=>hk7.block k hlt (by omega)
 have h:=zK.two 90 (c:=[.int .i64 a2,.string b2,.int .i64 c2,.slice p2 q2 s2,.int .i64 (e.line:Int)]) (d:=[.int .i64 a3,.string b3,.int .i64 c3,.slice u0 u1 u2,.int .i64 l3]) z (zJ.wide hx7 fun k hk'=>⟨by omega,by omega⟩) rfl rfl ⟨by omega,by omega⟩
 simp only [List.cons_append,List.nil_append] at h;have D:=Zk.store (p:=p) (res:=res) (f:=f) (F:=F) k s 0 e.line hr hg hNw A p7 h hrd ((hk7.block _ (by omega) (by omega)).trans hz) hf hp hE hlen
 have y:=(hrd.alloc (.cells #[.int .i64 a2,.string b2,.int .i64 c2,.slice p2 q2 s2,.int .i64 (e.line:Int),.int .i64 a3,.string b3,.int .i64 c3,.slice u0 u1 u2,.int .i64 l3] 90)).keep (w':=W) (by rw [hW];exact zi _ _ _ _ _ _ _ (by omega)) (by rw [hW];exact zi _ _ _ _ _ _ _ (by omega))
 rw [←hW] at D;exact ⟨D,y.left⟩
theorem Zk.one {r g N F f:Nat} {w wr wE w7:World} {res:PR Ex} {p:Nat→Ex→List Tk→Option (PR Ex)} {e:Ex} {us:List Tk} {o cap:Nat} {a2:Int} {b2:ByteArray} {c2:Int} {p2:Option Addr} {q2 s2:Nat} {l2:Int}
  (k:Nat) (s:List UInt8) (hr:r<w.heap.size) (hg:g<w.heap.size) (hNw:w.heap.size<N) (hN:N<wE.heap.size)
  (hx:zJ (fun k=>w.heap.size<k∧k≠N) wr e (.agg #[.int .i64 a2,.string b2,.int .i64 c2,.slice p2 q2 s2,.int .i64 l2])) (hkr:zc r w wr) (hkE:zc r wr wE) (hk7:zc r wE w7)
  (p7:w7.heap[N]?=some (.cells #[.int .i64 a2,.string b2,.int .i64 c2,.slice p2 q2 s2,.int .i64 l2] 90 (0,0))) (hz:wE.heap[w.heap.size]?=some zL) (hrd:zk r g o cap us w7)
  (hf:f≤F) (hp:p f (.mk k s 0 [e] e.line) us=some res) (hE:zt us) (hlen:us.length≤1099511627776) (kv:Value) (hkv:kv=.int .i64 k) (W:World)
  (hW:W=(set5 w7 N kv (.string (za s)) (.int .i64 0) (.slice (some ⟨w7.heap.size,0,none⟩) 1 1) (.int .i64 l2)).alloc (.cells #[.int .i64 a2,.string b2,.int .i64 c2,.slice p2 q2 s2,.int .i64 l2] 90)) :
  Zk r g N F w res p W∧ZM r W=us.length:=by
 obtain rfl:l2=(e.line:Int):=hx.line_eq;rw [←YF _ _ _ _ _ _ (Array.getElem?_eq_some_iff.1 p7).1] at hW;subst hkv;have H:=hk7.size;have G:=hkE.size;have I:=hkr.size;have A:=(hkr.trans hkE).trans hk7;obtain ⟨J,E,rfl⟩:=hE.cons;have z:=zJ.kept (zJ.kept hx hkE.size fun k hk' hlt=>hkE.block k hlt (by omega)) hk7.size fun k hk' hlt=>hk7.block k hlt (by omega)
 have h:=zK.one 90 (c:=[.int .i64 a2,.string b2,.int .i64 c2,.slice p2 q2 s2,.int .i64 (e.line:Int)]) z rfl ⟨by omega,by omega⟩
 have D:=Zk.store (p:=p) (res:=res) (f:=f) (F:=F) k s 0 e.line hr hg hNw A p7 h hrd ((hk7.block _ (by omega) (by omega)).trans hz) hf hp hE hlen
 have y:=(hrd.alloc (.cells #[.int .i64 a2,.string b2,.int .i64 c2,.slice p2 q2 s2,.int .i64 (e.line:Int)] 90)).keep (w':=W) (by rw [hW];exact zi _ _ _ _ _ _ _ (by omega)) (by rw [hW];exact zi _ _ _ _ _ _ _ (by omega))
 rw [←hW] at D;exact ⟨D,y.left⟩
theorem qN (r g o cap F least:Nat) (ts:List Tk) (w:World) (res:PR Ex) (h:zk r g o cap ts w) (hE:zt ts) (hN:ts.length≤1099511627776) (hlev:yL w) (hrl:r≠5) (hl:least≤6) (hp:zh (F+1) least ts=some res)
  (hbt:∀w1 o1 O ts1 r1,zh F (least+1) ts1=some r1→zt ts1→ts1.length≤1099511627776→zk r g o1 O ts1 w1→zc r w w1→Calls Tryz.prog 98 #[.pointer (some ⟨r,0,none⟩),.int .i64 ((least:Int)+1)] w1 (zu r g w1 r1)) :
  Calls Tryz.prog 98 #[.pointer (some ⟨r,0,none⟩),.int .i64 least] w (zu r g w res):=by
 obtain ⟨t0,aR,rfl⟩:=hE.cons;have hr:=h.lt.1;have aQ:=h.lt.2;rw [zh,if_neg (by omega)] at hp
 cases hb:zh F (least+1) (t0::aR) with
 | none=>rw [hb] at hp;cases hp
 | some r1 =>
  obtain ⟨w0,ag⟩:∃w0,w0=w.alloc zL:=⟨_,rfl⟩;have c1:=hbt w0 o cap (t0::aR) r1 hb hE hN (by rw [ag];exact h.alloc _) (by rw [ag];exact (zc.refl r w).alloc _)
  rw [hb] at hp;simp only [zq] at hp;have bn:¬(6:Int)<(least:Int):=by omega
  have X:Hid (w0=w.alloc zL):=ag;have aG:Hid (∀w1 o1 O ts1 r1,zh F (least+1) ts1=some r1→zt ts1→ts1.length≤1099511627776→zk r g o1 O ts1 w1→zc r w w1→Calls Tryz.prog 98 #[.pointer (some ⟨r,0,none⟩),.int .i64 ((least:Int)+1)] w1 (zu r g w1 r1)):=hbt;clear ag hbt
  go_enter Tryz.func98,Tryz.ntmps98
  go_wp2_with fail
  rw [←X.out];refine c1.mono ?_;clear c1;rintro e w1 ⟨am,ab⟩;have aP:zc r w w1:=by have:=X.out;subst this;exact ((zc.refl r w).alloc _).trans am
  rcases r1 with a | ⟨x,us⟩
  ·obtain rfl:=ab
   simp only [Option.some.injEq] at hp;subst hp;exact ⟨rfl,aP,rfl⟩
  ·obtain ⟨v,o1,O,rfl,hx,T⟩:=ab
   obtain ⟨a,b,c,d0,d1,d2,l,rfl⟩:=hx.agg;have aD:=(ZC F).1 _ _ _ _ hb hE;have aY:=yg hb;have hJ:=Zk.start (p:=fun f e ts=>Za f least e ts) (res:=res) X.out hr am hx T hp aD (by omega)
   have HJ:Hid (Zk r g w1.heap.size F w res (fun f e ts=>Za f least e ts) (w1.alloc (.cells #[.int .i64 a,.string b,.int .i64 c,.slice d0 d1 d2,.int .i64 l] 90))):=hJ
   have aA:w.heap.size<w1.heap.size:=by have:=am.size;have h2:=X.out;subst h2;simp at this;omega
   obtain ⟨N,av⟩:∃N,N=w1.heap.size:=⟨_,rfl⟩;rw [←av] at HJ aA;have a1:Hid (yL w):=hlev;clear hJ hx T am aD hp hb hE hN h aY aP hlev X;go_wp2_with fail
   rw [←av];generalize hW0:w1.alloc (.cells #[.int .i64 a,.string b,.int .i64 c,.slice d0 d1 d2,.int .i64 l] 90)=W0 at *;clear hW0 av
   go_loopw [6] (fun _ wr=>Zk r g N F w res (fun f e ts=>Za f least e ts) wr) (fun _ wr=>ZM r wr)
   case atStart=>exact HJ.out
   case round =>
    obtain ⟨e,bo,o2,A,f2,E,J,K,G,H,D,l2,bm,I,ax,a7,R,af,M,Y,al⟩:=hrel;obtain ⟨y,z,rfl⟩:=ax.cons;obtain rfl:l2=(e.line:Int):=af.line_eq;clear HJ;have ch:=ZI r g o2 A y z wr M;have aC:=M.left
    have V:Hid (∀W,zc r wr W→zk r g o2 A (y::z) W→W.heap[N]?=some (.cells #[.int .i64 E,.string J,.int .i64 K,.slice G H D,.int .i64 (e.line:Int)] 90 (0,0))∧W.heap[w.heap.size]?=some zL ∧
     zu r g w (.ok (e,y::z)) (.returned (.agg #[.int .i64 E,.string J,.int .i64 K,.slice G H D,.int .i64 (e.line:Int)])) (set5 W w.heap.size (.int .i64 E) (.string J) (.int .i64 K) (.slice G H D) (.int .i64 (e.line:Int)))) :=
     fun W hK T=>Zk.leave hr aQ aA Y R al af hK T
    have aq:Hid (∀W,zc r wr W→W.heap[N]?=some (.cells #[.int .i64 E,.string J,.int .i64 K,.slice G H D,.int .i64 (e.line:Int)] 90 (0,0))∧W.heap[w.heap.size]?=some zL) :=
     fun W hK=>⟨(hK.block _ (Array.getElem?_eq_some_iff.1 R).1 (by omega)).trans R,(hK.block _ (Array.getElem?_eq_some_iff.1 al).1 (by omega)).trans al⟩
    have ak:Hid (zJ (fun k=>w.heap.size<k∧k≠N) wr e (.agg #[.int .i64 E,.string J,.int .i64 K,.slice G H D,.int .i64 (e.line:Int)])):=af
    have U:Hid (zc r w wr):=Y;have ai:Hid (zk r g o2 A (y::z) wr):=M;have aj:Hid (zt (y::z)):=ax;have bl:r<wr.heap.size∧g<wr.heap.size:=⟨by have:=Y.size;omega,by have:=Y.size;omega⟩
    cases f2 with
    | zero=>simp [Za] at I
    | succ f3 =>
     simp only [Za,z7,List.tail_cons] at I;clear af Y M ax R al;go_wp2_with fail
     refine ch.mono ?_;clear ch;rintro e w' ⟨rfl,rfl⟩;simp only [YQ];have kA:zc r wr (wr.alloc (Zf y)):=(zc.refl r wr).alloc _;have rA:=ai.out.alloc (Zf y);generalize wr.alloc (Zf y)=wA at *;have bc:=YC;have a9:=XP
     by_cases h4:y.k=4
     ·have aX:(y.k:Int)=4:=by omega
      have cB:=ZI r g o2 A y z wA rA;have kB:zc r wr (wA.alloc (Zf y)):=kA.alloc _;have rB:=rA.alloc (Zf y);have aB:Hid (zc r wr (wA.alloc (Zf y))):=kB;have Z:Hid (zk r g o2 A (y::z) (wA.alloc (Zf y))):=rB;have lB:=(a1.out.kept U.out hrl).kept kB hrl;have cL:=Uu y.s (wA.alloc (Zf y)) lB;clear kA rA kB rB lB;go_wp2_with fail
      refine cB.mono ?_;clear cB;rintro e w' ⟨rfl,rfl⟩;simp only [YQ];obtain ⟨wB,aE⟩:∃wB,wB=wA.alloc (Zf y):=⟨_,rfl⟩;rw [←aE] at aB Z cL ⊢;clear aE;go_wp2_with fail
      refine cL.mono ?_;clear cL;rintro e wC ⟨rfl,ad⟩;have kC:zc r wr wC:=aB.out.trans (zc.of ad);have rC:zk r g o2 A (y::z) wC:=Z.out.keep (ad.block _ Z.out.lt.1) (ad.block _ Z.out.lt.2);clear ad aB Z wB;generalize levelOf y.s=lv at *
      by_cases hlv:lv=least
      ·have Q:least=lv:=hlv.symm
       subst Q;rw [if_pos ⟨h4,rfl⟩] at I;have ah:=aj.out.tail (by omega:y.k≠0)
       have cD:=ZI r g o2 A y z wC rC;have kD:zc r wr (wC.alloc (Zf y)):=kC.alloc _;have rD:=rC.alloc (Zf y);have cE:=xU r g o2 A y z (wC.alloc (Zf y)) rD ah.ne;have aH:Hid (zc r wr (wC.alloc (Zf y))):=kD;have aI:Hid (zk r g o2 A (y::z) (wC.alloc (Zf y))):=rD;clear kC rC kD rD;go_wp2_with fail
       refine cD.mono ?_;clear cD;rintro e w' ⟨rfl,rfl⟩;simp only [YQ];go_wp2_with fail
       refine cE.mono ?_;clear cE;rintro e wE ⟨rfl,az⟩;have kE:zc r wr wE:=by rw [az];exact aH.out.setCell 0 _
       have rE:zk r g (o2+5) (A-1) z wE:=by rw [az];exact aI.out.next
       obtain ⟨pN,pz⟩:=aq.out wE kE;clear az aH aI ai V bc a9;have aF:Hid (zc r wr wE):=kE;have L:Hid (zc r w wE):=U.out.trans kE;have ar:N<wE.heap.size:=(Array.getElem?_eq_some_iff.1 pN).1;have bd:z.length≤1099511627776:=by simp only [List.length_cons] at a7;omega
       cases hb3:zh f3 (least+1) z with
       | none=>rw [hb3] at I;cases I
       | some r3 =>
        rw [hb3] at I;simp only [zq] at I
        have aw:zh F (least+1) z=some r3:=by
         have:=yA (k:=F-f3) hb3
         rwa [show f3+(F-f3)=F by omega] at this
        have cb:∀W:World,W.heap=wE.heap→W.os=wE.os→W.tape=wE.tape→W.output=wE.output→Calls Tryz.prog 98 #[.pointer (some ⟨r,0,none⟩),.int .i64 ((least:Int)+1)] W fun e w'=>zc r wE w'∧zu r g W r3 e w':=fun W e1 e2 e3 e4 =>
         (aG.out W _ _ z r3 aw ah bd (rE.keep (by rw [e1]) (by rw [e1])) ⟨e2.trans L.out.os,e3.trans L.out.tape,e4.trans L.out.output,by rw [e1];exact L.out.size,fun k hk hr=>by rw [e1];exact L.out.block k hk hr⟩).mono fun e w' h =>
          ⟨⟨h.1.os.trans e2,h.1.tape.trans e3,h.1.output.trans e4,by rw [←e1];exact h.1.size,fun k hk hr=>by rw [←e1];exact h.1.block k (by rw [e1];exact hk) hr⟩,h⟩
        obtain ⟨n0,n1,n2,n3,n4,nf⟩:=ze pN;have aK:Hid (wE.heap[N]?=some (.cells #[.int .i64 E,.string J,.int .i64 K,.slice G H D,.int .i64 (e.line:Int)] 90 (0,0))):=pN;have aN:Hid (wE.heap[w.heap.size]?=some zL):=pz;clear pN pz rE kE aG aq;have aW:IntKind.i64.wrap ((least:Int)+1)=(least:Int)+1:=by rw [IntKind.wrap_i64];omega
        rcases r3 with a3 | ⟨x3,an⟩
        ·simp only [Option.some.injEq] at I
         subst I;have ao:∀W:World,W.heap=wE.heap→W.os=wE.os→W.tape=wE.tape→W.output=wE.output→Calls Tryz.prog 98 #[.pointer (some ⟨r,0,none⟩),.int .i64 ((least:Int)+1)] W fun e w'=>e=ZU a3∧zc r w w':=fun W e1 e2 e3 e4=>(cb W e1 e2 e3 e4).mono fun e w' h=>⟨h.2.2,L.out.trans h.1⟩
         clear cb;go_wp2_with fail
         go_region_dies
         all_goals (go_wp2_with fail;refine (ao _ (by rfl) (by rfl) (by rfl) (by rfl)).mono ?_;rintro e w4 ⟨rfl,ae⟩;exact ⟨rfl,ae,rfl⟩)
        ·have aO:=(ZC F).1 _ _ _ _ aw ah
         have aV:=yg aw;have aL:an.length≤1099511627776:=by omega
         have aM:an.length<ZM r wr:=by rw [aC];simp only [List.length_cons];omega
         have a5:f3≤F:=by omega
         have HT:Hid (Za f3 least (.mk 7 y.s 0 [e,x3] e.line) an=some res):=I
         have ao:∀W:World,W.heap=wE.heap→W.os=wE.os→W.tape=wE.tape→W.output=wE.output→Calls Tryz.prog 98 #[.pointer (some ⟨r,0,none⟩),.int .i64 ((least:Int)+1)] W fun e' w'=>∃(a3:Int) (b3:ByteArray) (c3:Int) (u0:Option Addr) (u1 u2:Nat) (l3:Int),e'=.returned (.agg #[.int .i64 a3,.string b3,.int .i64 c3,.slice u0 u1 u2,.int .i64 l3]) ∧
           w'.heap[N]?=some (.cells #[.int .i64 E,.string J,.int .i64 K,.slice G H D,.int .i64 (e.line:Int)] 90 (0,0))∧Hid (zc r wE w'∧zO wE.heap.size w' x3 (.agg #[.int .i64 a3,.string b3,.int .i64 c3,.slice u0 u1 u2,.int .i64 l3])∧∃o cap,zk r g o cap an w'):=fun W e1 e2 e3 e4=>(cb W e1 e2 e3 e4).mono fun e' w' h=>by
          obtain ⟨ae,-,v,o4,aJ,rfl,hx,T⟩:=h;obtain ⟨a3,b3,c3,u0,u1,u2,l3,rfl⟩:=hx.agg;exact ⟨a3,b3,c3,u0,u1,u2,l3,rfl,(ae.block N ar (by omega)).trans aK.out,ae,(by rw [←e1];exact hx:zO wE.heap.size w' x3 _),o4,aJ,T⟩
         clear cb I;go_wp2_with fail
         go_region_with (go_at_call 98;refine (ao _ (by rfl) (by rfl) (by rfl) (by rfl)).mono ?_;rintro e' w7 ⟨a3,b3,c3,u0,u1,u2,l3,rfl,p7,H7⟩;have a6:N<w7.heap.size:=(Array.getElem?_eq_some_iff.1 p7).1;have aS:=(fun ob=>(Below.heap_alloc w7 ob N a6).trans p7);obtain ⟨m0,m1,m2,m3,m4,mf⟩:=ze p7;have be:=zd m0;have a4:=zd m1;have aZ:=zd m2;have bf:=zd m3;have ba:=zd m4;have a8:=(fun ob j=>(ze (aS ob)).2.2.2.2.2 j))
         all_goals
          obtain ⟨aU,aT,o7,bj,au⟩:=H7.out;obtain ⟨W,hW⟩:∃W,W=(set5 w7 N (.int .i64 7) (.string (za y.s)) (.int .i64 0) (.slice (some ⟨w7.heap.size,0,none⟩) 2 2) (.int .i64 (e.line:Int))).alloc (.cells #[.int .i64 E,.string J,.int .i64 K,.slice G H D,.int .i64 (e.line:Int),.int .i64 a3,.string b3,.int .i64 c3,.slice u0 u1 u2,.int .i64 l3] 90):=⟨_,rfl⟩;obtain ⟨hJ,ap⟩:=Zk.two (p:=fun f e ts=>Za f least e ts) 7 y.s hr aQ aA ar ak.out U.out aF.out aU p7 aN.out aT au a5 HT.out aO aL (.int .i64 7) rfl W hW
          have a0:Hid (Zk r g N F w res (fun f e ts=>Za f least e ts) W∧ZM r W<ZM r wr):=show _∧_<_ from ⟨hJ,by rw [ap];exact aM⟩
          change Exit.inBlock _ _ _ _ ((set5 w7 N (.int .i64 7) (.string (za y.s)) (.int .i64 0) (.slice (some ⟨w7.heap.size,0,none⟩) 2 2) (.int .i64 (e.line:Int))).alloc (.cells #[.int .i64 E,.string J,.int .i64 K,.slice G H D,.int .i64 (e.line:Int),.int .i64 a3,.string b3,.int .i64 c3,.slice u0 u1 u2,.int .i64 l3] 90))
          rw [←hW];clear hW hJ ap au aT aU p7 aS m0 m1 m2 m3 m4 mf be a4 aZ bf ba a8 n0 n1 n2 n3 n4 nf ao H7 aK aN HT aF L ak U aj aV aL aM aO ah aW;go_wp2
          exact a0.out
      ·have Q:¬((lv:Int)=(least:Int)):=by omega
       have bh:((lv:Int)==(least:Int))=false:=by rw [beq_eq_false_iff_ne];exact Q
       have bk:decide ((lv:Int)=(least:Int))=false:=by rw [decide_eq_false_iff_not];exact Q
       have bi:decide (lv=least)=false:=by rw [decide_eq_false_iff_not];exact hlv
       have bg:(lv==least)=false:=by rw [beq_eq_false_iff_ne];exact hlv
       rw [if_neg (fun h=>hlv h.2)] at I
       simp only [Option.some.injEq] at I;subst I;obtain ⟨pN,pz,aa⟩:=V.out wC kC rC;obtain ⟨n0,n1,n2,n3,n4,nf⟩:=ze pN;obtain ⟨q0,q1,bb,q3,q4,qf⟩:=ze pz;obtain ⟨z0,z1,z2,z3,z4⟩:=zj pz (.int .i64 E) (.string J) (.int .i64 K) (.slice G H D) (.int .i64 (e.line:Int));have ay:Hid (zu r g w (.ok (e,y::z)) (.returned (.agg #[.int .i64 E,.string J,.int .i64 K,.slice G H D,.int .i64 (e.line:Int)])) (set5 wC w.heap.size (.int .i64 E) (.string J) (.int .i64 K) (.slice G H D) (.int .i64 (e.line:Int)))):=aa;clear V ak U ai aj aa pN pz kC rC;go_wp2
       exact bodyPost_ret (v:=.agg #[.int .i64 E,.string J,.int .i64 K,.slice G H D,.int .i64 (e.line:Int)]) (by simp [results,Tryz.results98,go_sem,z0,z1,z2,z3,z4]) rfl ay.out
     ·have aX:¬(y.k:Int)=4:=by omega
      rw [if_neg (fun h=>h4 h.1)] at I
      simp only [Option.some.injEq] at I;subst I;obtain ⟨pN,pz,aa⟩:=V.out wA kA rA;obtain ⟨n0,n1,n2,n3,n4,nf⟩:=ze pN;obtain ⟨q0,q1,bb,q3,q4,qf⟩:=ze pz;obtain ⟨z0,z1,z2,z3,z4⟩:=zj pz (.int .i64 E) (.string J) (.int .i64 K) (.slice G H D) (.int .i64 (e.line:Int));have ay:Hid (zu r g w (.ok (e,y::z)) (.returned (.agg #[.int .i64 E,.string J,.int .i64 K,.slice G H D,.int .i64 (e.line:Int)])) (set5 wA w.heap.size (.int .i64 E) (.string J) (.int .i64 K) (.slice G H D) (.int .i64 (e.line:Int)))):=aa;clear V ak U ai aj aa pN pz kA rA;go_wp2
      exact bodyPost_ret (v:=.agg #[.int .i64 E,.string J,.int .i64 K,.slice G H D,.int .i64 (e.line:Int)]) (by simp [results,Tryz.results98,go_sem,z0,z1,z2,z3,z4]) rfl ay.out
theorem Zk.moved {r g N F f:Nat} {w wr W:World} {res:PR Ex} {p:Nat→Ex→List Tk→Option (PR Ex)} {e:Ex} {us:List Tk} {o cap:Nat} {a2:Int} {b2:ByteArray} {c2:Int} {p2:Option Addr} {q2 s2:Nat} {l2:Int}
  (hr:r<w.heap.size) (hNw:w.heap.size<N) (hblk:wr.heap[N]?=some (.cells #[.int .i64 a2,.string b2,.int .i64 c2,.slice p2 q2 s2,.int .i64 l2] 90 (0,0)))
  (hx:zJ (fun k=>w.heap.size<k∧k≠N) wr e (.agg #[.int .i64 a2,.string b2,.int .i64 c2,.slice p2 q2 s2,.int .i64 l2])) (hk:zc r w wr) (hz:wr.heap[w.heap.size]?=some zL) (hK:zc r wr W) (hrd:zk r g o cap us W)
  (hf:f≤F) (hp:p f e us=some res) (hE:zt us):Zk r g N F w res p W :=
 ⟨e,us,o,cap,f,a2,b2,c2,p2,q2,s2,l2,hf,hp,hE,hrd.few,(hK.block _ (Array.getElem?_eq_some_iff.1 hblk).1 (by omega)).trans hblk,zJ.kept hx hK.size fun k hk' hlt=>hK.block k hlt (by omega),hrd,hk.trans hK,(hK.block _ (Array.getElem?_eq_some_iff.1 hz).1 (by omega)).trans hz⟩
theorem Zk.one' {r g N F f:Nat} {w wr wE w7:World} {res:PR Ex} {p:Nat→Ex→List Tk→Option (PR Ex)} {e:Ex} {us:List Tk} {o cap:Nat} {a2:Int} {b2:ByteArray} {c2:Int} {p2:Option Addr} {q2 s2:Nat} {l2:Int}
  (k:Nat) (s:List UInt8) (hr:r<w.heap.size) (hg:g<w.heap.size) (hNw:w.heap.size<N) (hN:N<wE.heap.size)
  (hx:zJ (fun k=>w.heap.size<k∧k≠N) wr e (.agg #[.int .i64 a2,.string b2,.int .i64 c2,.slice p2 q2 s2,.int .i64 l2])) (hkr:zc r w wr) (hkE:zc r wr wE)
  (hk7:zc r (wE.alloc (.cells #[.int .i64 a2,.string b2,.int .i64 c2,.slice p2 q2 s2,.int .i64 l2] 90)) w7)
  (p7:w7.heap[N]?=some (.cells #[.int .i64 a2,.string b2,.int .i64 c2,.slice p2 q2 s2,.int .i64 l2] 90 (0,0))) (hz:wE.heap[w.heap.size]?=some zL) (hrd:zk r g o cap us w7)
  (hf:f≤F) (hp:p f (.mk k s 0 [e] e.line) us=some res) (hE:zt us) (kv:Value) (hkv:kv=.int .i64 k) (W:World)
  (hW:W=set5 w7 N kv (.string (za s)) (.int .i64 0) (.slice (some ⟨wE.heap.size,0,none⟩) 1 1) (.int .i64 l2)) :
  Zk r g N F w res p W∧ZM r W=us.length:=by
 obtain rfl:l2=(e.line:Int):=hx.line_eq;subst hkv;have E:=hk7.size;have G:=hkE.size;have H:=hkr.size;simp only [World.size_alloc] at E;have D:=((hkr.trans hkE).alloc (.cells #[.int .i64 a2,.string b2,.int .i64 c2,.slice p2 q2 s2,.int .i64 (e.line:Int)] 90)).trans hk7;have A:=zJ.kept hx hkE.size fun k hk' hlt=>hkE.block k hlt (by omega)
 have z:=zK.one 90 (c:=[.int .i64 a2,.string b2,.int .i64 c2,.slice p2 q2 s2,.int .i64 (e.line:Int)]) A rfl ⟨by omega,by omega⟩
 have y:=z.kept hk7.size fun k hk' hlt=>hk7.block k hlt (by omega)
 have h:zk r g o cap us W:=hrd.keep (by rw [hW];exact zi _ _ _ _ _ _ _ (by omega)) (by rw [hW];exact zi _ _ _ _ _ _ _ (by omega))
 refine ⟨⟨.mk k s 0 [e] e.line,us,o,cap,f,k,za s,0,some ⟨wE.heap.size,0,none⟩,1,1,e.line,hf,hp,hE,hrd.few,?_,?_,h,?_,?_⟩,h.left⟩
 ·rw [hW];exact Z8 p7 _ _ _ _ _
 ·rw [hW];exact zJ.of_row (y.kept (w':=set5 w7 N (.int .i64 k) (.string (za s)) (.int .i64 0) (.slice (some ⟨wE.heap.size,0,none⟩) 1 1) (.int .i64 (e.line:Int))) (by simp) fun k hk _=>zi _ _ _ _ _ _ _ hk.2) k s 0 e.line
 ·rw [hW];exact Zs D (by omega) _ _ _ _ _
 ·rw [hW,zi _ _ _ _ _ _ _ (by omega),hk7.block _ (by simp;omega) (by omega),Below.heap_alloc _ _ _ (by omega)];exact hz
end Go.Proofs.YtmbofhpmockmbaaGreatDoor
