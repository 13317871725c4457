import Derived.Test.YtpejpbbdgblbeaaGreatDoorMC16
import Derived.Deep.RegionWith
import Derived.Deep.CutRange
namespace Go.Proofs.YtpejpbbdgblbeaaGreatDoor
open Go.RowKit Go.Shelf
set_option maxHeartbeats 16000000
set_option maxRecDepth 100000
theorem XA {w:World} {N:Nat} (ob:Obj) (a b c d e:Value) (h:N<w.heap.size):set5 (w.alloc ob) N a b c d e=(set5 w N a b c d e).alloc ob:=by
 have o:∀(W:World) (i:Nat) (v:Value),N<W.heap.size→(W.alloc ob).setCell ⟨N,i,none⟩ v=(W.setCell ⟨N,i,none⟩ v).alloc ob:=fun W i v hp=>World.setCell_alloc_past ob N i v hp
 simp only [set5];rw [o _ _ _ h,o _ _ _ (by simpa using h),o _ _ _ (by simpa using h),o _ _ _ (by simpa using h),o _ _ _ (by simpa using h)]
theorem ZU.two {r g N F f:Nat} {w wr wE w7:World} {res:PR Ex} {p:Nat→Ex→List Tk→Option (PR Ex)} {e x:Ex} {us:List Tk} {o cap:Nat} {a2:Int} {b2:ByteArray} {c2:Int} {p2:Option Addr} {q2 s2:Nat} {l2:Int} {a3:Int} {b3:ByteArray} {c3:Int} {u0:Option Addr} {u1 u2:Nat} {l3:Int}
  (k:Nat) (s:List UInt8) (hr:r<w.heap.size) (hg:g<w.heap.size) (hNw:w.heap.size<N) (hN:N<wE.heap.size)
  (hx:zZ (fun k=>w.heap.size<k∧k≠N) wr e (.agg #[.int .i64 a2,.string b2,.int .i64 c2,.slice p2 q2 s2,.int .i64 l2])) (hkr:zd r w wr) (hkE:zd r wr wE) (hk7:zd r wE w7)
  (p7:w7.heap[N]?=some (.cells #[.int .i64 a2,.string b2,.int .i64 c2,.slice p2 q2 s2,.int .i64 l2] 45 (0,0))) (hz:wE.heap[w.heap.size]?=some Zz)
  (hx7:ZL wE.heap.size w7 x (.agg #[.int .i64 a3,.string b3,.int .i64 c3,.slice u0 u1 u2,.int .i64 l3])) (hrd:zg r g o cap us w7)
  (hf:f≤F) (hp:p f (.mk k s 0 [e,x] e.line) us=some res) (hE:zi us) (hlen:us.length≤1099511627776) (kv:Value) (hkv:kv=.int .i64 k) (W:World)
  (hW:W=(set5 w7 N kv (.string (zb s)) (.int .i64 0) (.slice (some ⟨w7.heap.size,0,none⟩) 2 2) (.int .i64 l2)).alloc (.cells #[.int .i64 a2,.string b2,.int .i64 c2,.slice p2 q2 s2,.int .i64 l2,.int .i64 a3,.string b3,.int .i64 c3,.slice u0 u1 u2,.int .i64 l3] 45)) :
  ZU r g N F w res p W∧ZP r W=us.length:=by
 obtain rfl:l2=(e.line:Int):=hx.line_eq;rw [←XA _ _ _ _ _ _ (Array.getElem?_eq_some_iff.1 p7).1] at hW;subst hkv;have H:=hk7.size;have J:=hkE.size;have G:=hkr.size;have z:=(hkr.trans hkE).trans hk7;obtain ⟨L,I,rfl⟩:=hE.cons;have A:=zZ.kept (zZ.kept hx hkE.size fun k hk' hlt=>hkE.block k hlt (by omega)) hk7.size fun k hk' hlt=>hk7.block k hlt (by omega)
 have h:=zK.two 45 (c:=[.int .i64 a2,.string b2,.int .i64 c2,.slice p2 q2 s2,.int .i64 (e.line:Int)]) (d:=[.int .i64 a3,.string b3,.int .i64 c3,.slice u0 u1 u2,.int .i64 l3]) A (zZ.wide hx7 fun k hk'=>⟨by omega,by omega⟩) rfl rfl ⟨by omega,by omega⟩
 simp only [List.cons_append,List.nil_append] at h;have D:=ZU.store (p:=p) (res:=res) (f:=f) (F:=F) k s 0 e.line hr hg hNw z p7 h hrd ((hk7.block _ (by omega) (by omega)).trans hz) hf hp hE hlen
 have y:=(hrd.alloc (.cells #[.int .i64 a2,.string b2,.int .i64 c2,.slice p2 q2 s2,.int .i64 (e.line:Int),.int .i64 a3,.string b3,.int .i64 c3,.slice u0 u1 u2,.int .i64 l3] 45)).keep (w':=W) (by rw [hW];exact zu _ _ _ _ _ _ _ (by omega)) (by rw [hW];exact zu _ _ _ _ _ _ _ (by omega))
 rw [←hW] at D;exact ⟨D,y.left⟩
theorem ZU.one {r g N F f:Nat} {w wr wE w7:World} {res:PR Ex} {p:Nat→Ex→List Tk→Option (PR Ex)} {e:Ex} {us:List Tk} {o cap:Nat} {a2:Int} {b2:ByteArray} {c2:Int} {p2:Option Addr} {q2 s2:Nat} {l2:Int}
  (k:Nat) (s:List UInt8) (hr:r<w.heap.size) (hg:g<w.heap.size) (hNw:w.heap.size<N) (hN:N<wE.heap.size)
  (hx:zZ (fun k=>w.heap.size<k∧k≠N) wr e (.agg #[.int .i64 a2,.string b2,.int .i64 c2,.slice p2 q2 s2,.int .i64 l2])) (hkr:zd r w wr) (hkE:zd r wr wE) (hk7:zd r wE w7)
  (p7:w7.heap[N]?=some (.cells #[.int .i64 a2,.string b2,.int .i64 c2,.slice p2 q2 s2,.int .i64 l2] 45 (0,0))) (hz:wE.heap[w.heap.size]?=some Zz) (hrd:zg r g o cap us w7)
  (hf:f≤F) (hp:p f (.mk k s 0 [e] e.line) us=some res) (hE:zi us) (hlen:us.length≤1099511627776) (kv:Value) (hkv:kv=.int .i64 k) (W:World)
  (hW:W=(set5 w7 N kv (.string (zb s)) (.int .i64 0) (.slice (some ⟨w7.heap.size,0,none⟩) 1 1) (.int .i64 l2)).alloc (.cells #[.int .i64 a2,.string b2,.int .i64 c2,.slice p2 q2 s2,.int .i64 l2] 45)) :
  ZU r g N F w res p W∧ZP r W=us.length:=by
 obtain rfl:l2=(e.line:Int):=hx.line_eq;rw [←XA _ _ _ _ _ _ (Array.getElem?_eq_some_iff.1 p7).1] at hW;subst hkv;have H:=hk7.size;have J:=hkE.size;have G:=hkr.size;have z:=(hkr.trans hkE).trans hk7;obtain ⟨L,I,rfl⟩:=hE.cons;have A:=zZ.kept (zZ.kept hx hkE.size fun k hk' hlt=>hkE.block k hlt (by omega)) hk7.size fun k hk' hlt=>hk7.block k hlt (by omega)
 have h:=zK.one 45 (c:=[.int .i64 a2,.string b2,.int .i64 c2,.slice p2 q2 s2,.int .i64 (e.line:Int)]) A rfl ⟨by omega,by omega⟩
 have D:=ZU.store (p:=p) (res:=res) (f:=f) (F:=F) k s 0 e.line hr hg hNw z p7 h hrd ((hk7.block _ (by omega) (by omega)).trans hz) hf hp hE hlen
 have y:=(hrd.alloc (.cells #[.int .i64 a2,.string b2,.int .i64 c2,.slice p2 q2 s2,.int .i64 (e.line:Int)] 45)).keep (w':=W) (by rw [hW];exact zu _ _ _ _ _ _ _ (by omega)) (by rw [hW];exact zu _ _ _ _ _ _ _ (by omega))
 rw [←hW] at D;exact ⟨D,y.left⟩
theorem zdK (r g o cap F least:Nat) (ts:List Tk) (w:World) (res:PR Ex) (h:zg r g o cap ts w) (hE:zi ts) (hN:ts.length≤1099511627776) (hlev:ZC w) (hrl:r≠1) (hl:least≤6) (hp:zf (F+1) least ts=some res)
  (hbt:∀w1 o1 Q ts1 r1,zf F (least+1) ts1=some r1→zi ts1→ts1.length≤1099511627776→zg r g o1 Q ts1 w1→zd r w w1→Calls Tryz.prog 86 #[.pointer (some ⟨r,0,none⟩),.int .i64 ((least:Int)+1)] w1 (zJ r g w1 r1)) :
  Calls Tryz.prog 86 #[.pointer (some ⟨r,0,none⟩),.int .i64 least] w (zJ r g w res):=by
 obtain ⟨t0,aI,rfl⟩:=hE.cons;have hr:=h.lt.1;have aL:=h.lt.2;rw [zf,if_neg (by omega)] at hp
 cases hb:zf F (least+1) (t0::aI) with
 | none=>rw [hb] at hp;cases hp
 | some r1 =>
  obtain ⟨w0,ai⟩:∃w0,w0=w.alloc Zz:=⟨_,rfl⟩;have c1:=hbt w0 o cap (t0::aI) r1 hb hE hN (by rw [ai];exact h.alloc _) (by rw [ai];exact (zd.refl r w).alloc _)
  rw [hb] at hp;simp only [zh] at hp;have bs:¬(6:Int)<(least:Int):=by omega
  have ad:Hid (w0=w.alloc Zz):=ai;have aU:Hid (∀w1 o1 Q ts1 r1,zf F (least+1) ts1=some r1→zi ts1→ts1.length≤1099511627776→zg r g o1 Q ts1 w1→zd r w w1→Calls Tryz.prog 86 #[.pointer (some ⟨r,0,none⟩),.int .i64 ((least:Int)+1)] w1 (zJ r g w1 r1)):=hbt;clear ai hbt
  go_enter Tryz.func86,Tryz.ntmps86
  go_wp2_with fail
  rw [←ad.out];refine c1.mono ?_;clear c1;rintro e w1 ⟨ak,af⟩;have aS:zd r w w1:=by have:=ad.out;subst this;exact ((zd.refl r w).alloc _).trans ak
  rcases r1 with a | ⟨x,us⟩
  ·obtain rfl:=af
   simp only [Option.some.injEq] at hp;subst hp;exact ⟨rfl,aS,rfl⟩
  ·obtain ⟨v,o1,Q,rfl,hx,Y⟩:=af
   obtain ⟨a,b,c,d0,d1,d2,l,rfl⟩:=hx.agg;have aT:=(Zi F).1 _ _ _ _ hb hE;have aY:=Yv hb;have hJ:=ZU.start (p:=fun f e ts=>Zp f least e ts) (res:=res) ad.out hr ak hx Y hp aT (by omega)
   have HJ:Hid (ZU r g w1.heap.size F w res (fun f e ts=>Zp f least e ts) (w1.alloc (.cells #[.int .i64 a,.string b,.int .i64 c,.slice d0 d1 d2,.int .i64 l] 45))):=hJ
   have aD:w.heap.size<w1.heap.size:=by have:=ak.size;have h2:=ad.out;subst h2;simp at this;omega
   obtain ⟨N,aF⟩:∃N,N=w1.heap.size:=⟨_,rfl⟩;rw [←aF] at HJ aD;have ba:Hid (ZC w):=hlev;clear hJ hx Y ak aT hp hb hE hN h aY aS hlev ad;go_wp2_with fail
   rw [←aF];generalize hW0:w1.alloc (.cells #[.int .i64 a,.string b,.int .i64 c,.slice d0 d1 d2,.int .i64 l] 45)=W0 at *;clear hW0 aF
   go_loopw [6] (fun _ wr=>ZU r g N F w res (fun f e ts=>Zp f least e ts) wr) (fun _ wr=>ZP r wr)
   case atStart=>exact HJ.out
   case round =>
    obtain ⟨e,bq,o2,A,f2,L,I,c2,H,G,D,l2,bp,J,aE,a5,R,al,T,aa,ah⟩:=hrel;obtain ⟨z,y,rfl⟩:=aE.cons;obtain rfl:l2=(e.line:Int):=al.line_eq;clear HJ;have ch:=yh r g o2 A z y wr T;have ay:=T.left
    have Z:Hid (∀W,zd r wr W→zg r g o2 A (z::y) W→W.heap[N]?=some (.cells #[.int .i64 L,.string I,.int .i64 c2,.slice H G D,.int .i64 (e.line:Int)] 45 (0,0))∧W.heap[w.heap.size]?=some Zz ∧
     zJ r g w (.ok (e,z::y)) (.returned (.agg #[.int .i64 L,.string I,.int .i64 c2,.slice H G D,.int .i64 (e.line:Int)])) (set5 W w.heap.size (.int .i64 L) (.string I) (.int .i64 c2) (.slice H G D) (.int .i64 (e.line:Int)))) :=
     fun W hK Y=>ZU.leave hr aL aD aa R ah al hK Y
    have au:Hid (∀W,zd r wr W→W.heap[N]?=some (.cells #[.int .i64 L,.string I,.int .i64 c2,.slice H G D,.int .i64 (e.line:Int)] 45 (0,0))∧W.heap[w.heap.size]?=some Zz) :=
     fun W hK=>⟨(hK.block _ (Array.getElem?_eq_some_iff.1 R).1 (by omega)).trans R,(hK.block _ (Array.getElem?_eq_some_iff.1 ah).1 (by omega)).trans ah⟩
    have ap:Hid (zZ (fun k=>w.heap.size<k∧k≠N) wr e (.agg #[.int .i64 L,.string I,.int .i64 c2,.slice H G D,.int .i64 (e.line:Int)])):=al
    have V:Hid (zd r w wr):=aa;have ar:Hid (zg r g o2 A (z::y) wr):=T;have am:Hid (zi (z::y)):=aE;have br:r<wr.heap.size∧g<wr.heap.size:=⟨by have:=aa.size;omega,by have:=aa.size;omega⟩
    cases f2 with
    | zero=>simp [Zp] at J
    | succ f3 =>
     simp only [Zp,zE,List.tail_cons] at J;clear al aa T aE R ah;go_wp2_with fail
     refine ch.mono ?_;clear ch;rintro e w' ⟨rfl,rfl⟩;simp only [uA];have kA:zd r wr (wr.alloc (ZK z)):=(zd.refl r wr).alloc _;have rA:=ar.out.alloc (ZK z);generalize wr.alloc (ZK z)=wA at *;have be:=Va;have a0:=zbL
     by_cases h4:z.k=4
     ·have a8:(z.k:Int)=4:=by omega
      have cB:=yh r g o2 A z y wA rA;have kB:zd r wr (wA.alloc (ZK z)):=kA.alloc _;have rB:=rA.alloc (ZK z);have az:Hid (zd r wr (wA.alloc (ZK z))):=kB;have ae:Hid (zg r g o2 A (z::y) (wA.alloc (ZK z))):=rB;have lB:=(ba.out.kept V.out hrl).kept kB hrl;have cL:=Xz z.s (wA.alloc (ZK z)) lB;clear kA rA kB rB lB;go_wp2_with fail
      refine cB.mono ?_;clear cB;rintro e w' ⟨rfl,rfl⟩;simp only [uA];obtain ⟨wB,aP⟩:∃wB,wB=wA.alloc (ZK z):=⟨_,rfl⟩;rw [←aP] at az ae cL ⊢;clear aP;go_wp2_with fail
      refine cL.mono ?_;clear cL;rintro e wC ⟨rfl,an⟩;have kC:zd r wr wC:=az.out.trans (zd.of an);have rC:zg r g o2 A (z::y) wC:=ae.out.keep (an.block _ ae.out.lt.1) (an.block _ ae.out.lt.2);clear an az ae wB;generalize levelOf z.s=lv at *
      by_cases hlv:lv=least
      ·have U:least=lv:=hlv.symm
       subst U;rw [if_pos ⟨h4,rfl⟩] at J;have ag:=am.out.tail (by omega:z.k≠0)
       have cD:=yh r g o2 A z y wC rC;have kD:zd r wr (wC.alloc (ZK z)):=kC.alloc _;have rD:=rC.alloc (ZK z);have cE:=Vb r g o2 A z y (wC.alloc (ZK z)) rD ag.ne;have aM:Hid (zd r wr (wC.alloc (ZK z))):=kD;have aN:Hid (zg r g o2 A (z::y) (wC.alloc (ZK z))):=rD;clear kC rC kD rD;go_wp2_with fail
       refine cD.mono ?_;clear cD;rintro e w' ⟨rfl,rfl⟩;simp only [uA];go_wp2_with fail
       refine cE.mono ?_;clear cE;rintro e wE ⟨rfl,aA⟩;have kE:zd r wr wE:=by rw [aA];exact aM.out.setCell 0 _
       have rE:zg r g (o2+5) (A-1) y wE:=by rw [aA];exact aN.out.next
       obtain ⟨pN,pz⟩:=au.out wE kE;clear aA aM aN ar Z be a0;have aR:Hid (zd r wr wE):=kE;have O:Hid (zd r w wE):=V.out.trans kE;have aw:N<wE.heap.size:=(Array.getElem?_eq_some_iff.1 pN).1;have a7:y.length≤1099511627776:=by simp only [List.length_cons] at a5;omega
       cases hb3:zf f3 (least+1) y with
       | none=>rw [hb3] at J;cases J
       | some r3 =>
        rw [hb3] at J;simp only [zh] at J
        have aB:zf F (least+1) y=some r3:=by
         have:=YU (k:=F-f3) hb3
         rwa [show f3+(F-f3)=F by omega] at this
        have cb:∀W:World,W.heap=wE.heap→W.os=wE.os→W.tape=wE.tape→W.output=wE.output→Calls Tryz.prog 86 #[.pointer (some ⟨r,0,none⟩),.int .i64 ((least:Int)+1)] W fun e w'=>zd r wE w'∧zJ r g W r3 e w':=fun W e1 e2 e3 e4 =>
         (aU.out W _ _ y r3 aB ag a7 (rE.keep (by rw [e1]) (by rw [e1])) ⟨e2.trans O.out.os,e3.trans O.out.tape,e4.trans O.out.output,by rw [e1];exact O.out.size,fun k hk hr=>by rw [e1];exact O.out.block k hk hr⟩).mono fun e w' h =>
          ⟨⟨h.1.os.trans e2,h.1.tape.trans e3,h.1.output.trans e4,by rw [←e1];exact h.1.size,fun k hk hr=>by rw [←e1];exact h.1.block k (by rw [e1];exact hk) hr⟩,h⟩
        obtain ⟨n0,n1,n2,n3,n4,nf⟩:=zU pN;have aO:Hid (wE.heap[N]?=some (.cells #[.int .i64 L,.string I,.int .i64 c2,.slice H G D,.int .i64 (e.line:Int)] 45 (0,0))):=pN;have aW:Hid (wE.heap[w.heap.size]?=some Zz):=pz;clear pN pz rE kE aU au;have bi:IntKind.i64.wrap ((least:Int)+1)=(least:Int)+1:=by rw [IntKind.wrap_i64];omega
        rcases r3 with a3 | ⟨x3,aj⟩
        ·simp only [Option.some.injEq] at J
         subst J;have aq:∀W:World,W.heap=wE.heap→W.os=wE.os→W.tape=wE.tape→W.output=wE.output→Calls Tryz.prog 86 #[.pointer (some ⟨r,0,none⟩),.int .i64 ((least:Int)+1)] W fun e w'=>e=ZI a3∧zd r w w':=fun W e1 e2 e3 e4=>(cb W e1 e2 e3 e4).mono fun e w' h=>⟨h.2.2,O.out.trans h.1⟩
         clear cb;go_wp2_with fail
         go_region_dies
         all_goals (go_wp2_with fail;refine (aq _ (by rfl) (by rfl) (by rfl) (by rfl)).mono ?_;rintro e w4 ⟨rfl,ao⟩;exact ⟨rfl,ao,rfl⟩)
        ·have aV:=(Zi F).1 _ _ _ _ aB ag
         have aZ:=Yv aB;have aJ:aj.length≤1099511627776:=by omega
         have aG:aj.length<ZP r wr:=by rw [ay];simp only [List.length_cons];omega
         have a1:f3≤F:=by omega
         have HT:Hid (Zp f3 least (.mk 7 z.s 0 [e,x3] e.line) aj=some res):=J
         have aq:∀W:World,W.heap=wE.heap→W.os=wE.os→W.tape=wE.tape→W.output=wE.output→Calls Tryz.prog 86 #[.pointer (some ⟨r,0,none⟩),.int .i64 ((least:Int)+1)] W fun e' w'=>∃(a3:Int) (b3:ByteArray) (c3:Int) (u0:Option Addr) (u1 u2:Nat) (l3:Int),e'=.returned (.agg #[.int .i64 a3,.string b3,.int .i64 c3,.slice u0 u1 u2,.int .i64 l3]) ∧
           w'.heap[N]?=some (.cells #[.int .i64 L,.string I,.int .i64 c2,.slice H G D,.int .i64 (e.line:Int)] 45 (0,0))∧Hid (zd r wE w'∧ZL wE.heap.size w' x3 (.agg #[.int .i64 a3,.string b3,.int .i64 c3,.slice u0 u1 u2,.int .i64 l3])∧∃o cap,zg r g o cap aj w'):=fun W e1 e2 e3 e4=>(cb W e1 e2 e3 e4).mono fun e' w' h=>by
          obtain ⟨ao,-,v,o4,aH,rfl,hx,Y⟩:=h;obtain ⟨a3,b3,c3,u0,u1,u2,l3,rfl⟩:=hx.agg;exact ⟨a3,b3,c3,u0,u1,u2,l3,rfl,(ao.block N aw (by omega)).trans aO.out,ao,(by rw [←e1];exact hx:ZL wE.heap.size w' x3 _),o4,aH,Y⟩
         clear cb J;go_wp2_with fail
         go_region_with (go_at_call 86;refine (aq _ (by rfl) (by rfl) (by rfl) (by rfl)).mono ?_;rintro e' w7 ⟨a3,b3,c3,u0,u1,u2,l3,rfl,p7,H7⟩;have bh:N<w7.heap.size:=(Array.getElem?_eq_some_iff.1 p7).1;have aX:=(fun ob=>(Below.heap_alloc w7 ob N bh).trans p7);obtain ⟨m0,m1,m2,m3,m4,mf⟩:=zU p7;have bg:=zl m0;have bd:=zl m1;have bb:=zl m2;have a4:=zl m3;have a6:=zl m4;have bf:=(fun ob j=>(zU (aX ob)).2.2.2.2.2 j))
         all_goals
          obtain ⟨aK,aQ,o7,bm,ax⟩:=H7.out;obtain ⟨W,hW⟩:∃W,W=(set5 w7 N (.int .i64 7) (.string (zb z.s)) (.int .i64 0) (.slice (some ⟨w7.heap.size,0,none⟩) 2 2) (.int .i64 (e.line:Int))).alloc (.cells #[.int .i64 L,.string I,.int .i64 c2,.slice H G D,.int .i64 (e.line:Int),.int .i64 a3,.string b3,.int .i64 c3,.slice u0 u1 u2,.int .i64 l3] 45):=⟨_,rfl⟩;obtain ⟨hJ,av⟩:=ZU.two (p:=fun f e ts=>Zp f least e ts) 7 z.s hr aL aD aw ap.out V.out aR.out aK p7 aW.out aQ ax a1 HT.out aV aJ (.int .i64 7) rfl W hW
          have bc:Hid (ZU r g N F w res (fun f e ts=>Zp f least e ts) W∧ZP r W<ZP r wr):=show _∧_<_ from ⟨hJ,by rw [av];exact aG⟩
          change Exit.inBlock _ _ _ _ ((set5 w7 N (.int .i64 7) (.string (zb z.s)) (.int .i64 0) (.slice (some ⟨w7.heap.size,0,none⟩) 2 2) (.int .i64 (e.line:Int))).alloc (.cells #[.int .i64 L,.string I,.int .i64 c2,.slice H G D,.int .i64 (e.line:Int),.int .i64 a3,.string b3,.int .i64 c3,.slice u0 u1 u2,.int .i64 l3] 45))
          rw [←hW];clear hW hJ av ax aQ aK p7 aX m0 m1 m2 m3 m4 mf bg bd bb a4 a6 bf n0 n1 n2 n3 n4 nf aq H7 aO aW HT aR O ap V am aZ aJ aG aV ag bi;go_wp2
          exact bc.out
      ·have U:¬((lv:Int)=(least:Int)):=by omega
       have bk:((lv:Int)==(least:Int))=false:=by rw [beq_eq_false_iff_ne];exact U
       have bn:decide ((lv:Int)=(least:Int))=false:=by rw [decide_eq_false_iff_not];exact U
       have bo:decide (lv=least)=false:=by rw [decide_eq_false_iff_not];exact hlv
       have bj:(lv==least)=false:=by rw [beq_eq_false_iff_ne];exact hlv
       rw [if_neg (fun h=>hlv h.2)] at J
       simp only [Option.some.injEq] at J;subst J;obtain ⟨pN,pz,ab⟩:=Z.out wC kC rC;obtain ⟨n0,n1,n2,n3,n4,nf⟩:=zU pN;obtain ⟨q0,q1,a9,q3,q4,qf⟩:=zU pz;obtain ⟨z0,z1,z2,z3,z4⟩:=zX pz (.int .i64 L) (.string I) (.int .i64 c2) (.slice H G D) (.int .i64 (e.line:Int));have aC:Hid (zJ r g w (.ok (e,z::y)) (.returned (.agg #[.int .i64 L,.string I,.int .i64 c2,.slice H G D,.int .i64 (e.line:Int)])) (set5 wC w.heap.size (.int .i64 L) (.string I) (.int .i64 c2) (.slice H G D) (.int .i64 (e.line:Int)))):=ab;clear Z ap V ar am ab pN pz kC rC;go_wp2
       exact bodyPost_ret (v:=.agg #[.int .i64 L,.string I,.int .i64 c2,.slice H G D,.int .i64 (e.line:Int)]) (by simp [results,Tryz.results86,go_sem,z0,z1,z2,z3,z4]) rfl aC.out
     ·have a8:¬(z.k:Int)=4:=by omega
      rw [if_neg (fun h=>h4 h.1)] at J
      simp only [Option.some.injEq] at J;subst J;obtain ⟨pN,pz,ab⟩:=Z.out wA kA rA;obtain ⟨n0,n1,n2,n3,n4,nf⟩:=zU pN;obtain ⟨q0,q1,a9,q3,q4,qf⟩:=zU pz;obtain ⟨z0,z1,z2,z3,z4⟩:=zX pz (.int .i64 L) (.string I) (.int .i64 c2) (.slice H G D) (.int .i64 (e.line:Int));have aC:Hid (zJ r g w (.ok (e,z::y)) (.returned (.agg #[.int .i64 L,.string I,.int .i64 c2,.slice H G D,.int .i64 (e.line:Int)])) (set5 wA w.heap.size (.int .i64 L) (.string I) (.int .i64 c2) (.slice H G D) (.int .i64 (e.line:Int)))):=ab;clear Z ap V ar am ab pN pz kA rA;go_wp2
      exact bodyPost_ret (v:=.agg #[.int .i64 L,.string I,.int .i64 c2,.slice H G D,.int .i64 (e.line:Int)]) (by simp [results,Tryz.results86,go_sem,z0,z1,z2,z3,z4]) rfl aC.out
theorem ZU.moved {r g N F f:Nat} {w wr W:World} {res:PR Ex} {p:Nat→Ex→List Tk→Option (PR Ex)} {e:Ex} {us:List Tk} {o cap:Nat} {a2:Int} {b2:ByteArray} {c2:Int} {p2:Option Addr} {q2 s2:Nat} {l2:Int}
  (hr:r<w.heap.size) (hNw:w.heap.size<N) (hblk:wr.heap[N]?=some (.cells #[.int .i64 a2,.string b2,.int .i64 c2,.slice p2 q2 s2,.int .i64 l2] 45 (0,0)))
  (hx:zZ (fun k=>w.heap.size<k∧k≠N) wr e (.agg #[.int .i64 a2,.string b2,.int .i64 c2,.slice p2 q2 s2,.int .i64 l2])) (hk:zd r w wr) (hz:wr.heap[w.heap.size]?=some Zz) (hK:zd r wr W) (hrd:zg r g o cap us W)
  (hf:f≤F) (hp:p f e us=some res) (hE:zi us):ZU r g N F w res p W :=
 ⟨e,us,o,cap,f,a2,b2,c2,p2,q2,s2,l2,hf,hp,hE,hrd.few,(hK.block _ (Array.getElem?_eq_some_iff.1 hblk).1 (by omega)).trans hblk,zZ.kept hx hK.size fun k hk' hlt=>hK.block k hlt (by omega),hrd,hk.trans hK,(hK.block _ (Array.getElem?_eq_some_iff.1 hz).1 (by omega)).trans hz⟩
theorem ZU.one' {r g N F f:Nat} {w wr wE w7:World} {res:PR Ex} {p:Nat→Ex→List Tk→Option (PR Ex)} {e:Ex} {us:List Tk} {o cap:Nat} {a2:Int} {b2:ByteArray} {c2:Int} {p2:Option Addr} {q2 s2:Nat} {l2:Int}
  (k:Nat) (s:List UInt8) (hr:r<w.heap.size) (hg:g<w.heap.size) (hNw:w.heap.size<N) (hN:N<wE.heap.size)
  (hx:zZ (fun k=>w.heap.size<k∧k≠N) wr e (.agg #[.int .i64 a2,.string b2,.int .i64 c2,.slice p2 q2 s2,.int .i64 l2])) (hkr:zd r w wr) (hkE:zd r wr wE)
  (hk7:zd r (wE.alloc (.cells #[.int .i64 a2,.string b2,.int .i64 c2,.slice p2 q2 s2,.int .i64 l2] 45)) w7)
  (p7:w7.heap[N]?=some (.cells #[.int .i64 a2,.string b2,.int .i64 c2,.slice p2 q2 s2,.int .i64 l2] 45 (0,0))) (hz:wE.heap[w.heap.size]?=some Zz) (hrd:zg r g o cap us w7)
  (hf:f≤F) (hp:p f (.mk k s 0 [e] e.line) us=some res) (hE:zi us) (kv:Value) (hkv:kv=.int .i64 k) (W:World)
  (hW:W=set5 w7 N kv (.string (zb s)) (.int .i64 0) (.slice (some ⟨wE.heap.size,0,none⟩) 1 1) (.int .i64 l2)) :
  ZU r g N F w res p W∧ZP r W=us.length:=by
 obtain rfl:l2=(e.line:Int):=hx.line_eq;subst hkv;have A:=hk7.size;have I:=hkE.size;have H:=hkr.size;simp only [World.size_alloc] at A;have D:=((hkr.trans hkE).alloc (.cells #[.int .i64 a2,.string b2,.int .i64 c2,.slice p2 q2 s2,.int .i64 (e.line:Int)] 45)).trans hk7;have G:=zZ.kept hx hkE.size fun k hk' hlt=>hkE.block k hlt (by omega)
 have z:=zK.one 45 (c:=[.int .i64 a2,.string b2,.int .i64 c2,.slice p2 q2 s2,.int .i64 (e.line:Int)]) G rfl ⟨by omega,by omega⟩
 have y:=z.kept hk7.size fun k hk' hlt=>hk7.block k hlt (by omega)
 have h:zg r g o cap us W:=hrd.keep (by rw [hW];exact zu _ _ _ _ _ _ _ (by omega)) (by rw [hW];exact zu _ _ _ _ _ _ _ (by omega))
 refine ⟨⟨.mk k s 0 [e] e.line,us,o,cap,f,k,zb s,0,some ⟨wE.heap.size,0,none⟩,1,1,e.line,hf,hp,hE,hrd.few,?_,?_,h,?_,?_⟩,h.left⟩
 ·rw [hW];exact Yj p7 _ _ _ _ _
 ·rw [hW];exact zZ.of_row (y.kept (w':=set5 w7 N (.int .i64 k) (.string (zb s)) (.int .i64 0) (.slice (some ⟨wE.heap.size,0,none⟩) 1 1) (.int .i64 (e.line:Int))) (by simp) fun k hk _=>zu _ _ _ _ _ _ _ hk.2) k s 0 e.line
 ·rw [hW];exact ZN D (by omega) _ _ _ _ _
 ·rw [hW,zu _ _ _ _ _ _ _ (by omega),hk7.block _ (by simp;omega) (by omega),Below.heap_alloc _ _ _ (by omega)];exact hz
end Go.Proofs.YtpejpbbdgblbeaaGreatDoor
