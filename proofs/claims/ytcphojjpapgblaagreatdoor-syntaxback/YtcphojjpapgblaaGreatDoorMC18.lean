import Derived.Test.YtcphojjpapgblaaGreatDoorMC15
import Derived.Deep.RegionWith
import Derived.Deep.CutRange
namespace Go.Proofs.YtcphojjpapgblaaGreatDoor
open Go.RowKit Go.Shelf
set_option maxHeartbeats 16000000
set_option maxRecDepth 100000
theorem Xz {w:World} {N:Nat} (ob:Obj) (a b c d e:Value) (h:N<w.heap.size):set5 (w.alloc ob) N a b c d e=(set5 w N a b c d e).alloc ob:=by
 have o:∀(W:World) (i:Nat) (v:Value),N<W.heap.size→(W.alloc ob).setCell ⟨N,i,none⟩ v=(W.setCell ⟨N,i,none⟩ v).alloc ob:=fun W i v hp=>World.setCell_alloc_past ob N i v hp
 simp only [set5];rw [o _ _ _ h,o _ _ _ (by simpa using h),o _ _ _ (by simpa using h),o _ _ _ (by simpa using h),o _ _ _ (by simpa using h)]
theorem ZS.two {r g N F f:Nat} {w wr wE w7:World} {res:PR Ex} {p:Nat→Ex→List Tk→Option (PR Ex)} {e x:Ex} {us:List Tk} {o cap:Nat} {a2:Int} {b2:ByteArray} {c2:Int} {p2:Option Addr} {q2 s2:Nat} {l2:Int} {a3:Int} {b3:ByteArray} {c3:Int} {u0:Option Addr} {u1 u2:Nat} {l3:Int}
  (k:Nat) (s:List UInt8) (hr:r<w.heap.size) (hg:g<w.heap.size) (hNw:w.heap.size<N) (hN:N<wE.heap.size)
  (hx:zX (fun k=>w.heap.size<k∧k≠N) wr e (.agg #[.int .i64 a2,.string b2,.int .i64 c2,.slice p2 q2 s2,.int .i64 l2])) (hkr:zc r w wr) (hkE:zc r wr wE) (hk7:zc r wE w7)
  (p7:w7.heap[N]?=some (.cells #[.int .i64 a2,.string b2,.int .i64 c2,.slice p2 q2 s2,.int .i64 l2] 45 (0,0))) (hz:wE.heap[w.heap.size]?=some Zz)
  (hx7:ZI wE.heap.size w7 x (.agg #[.int .i64 a3,.string b3,.int .i64 c3,.slice u0 u1 u2,.int .i64 l3])) (hrd:zf r g o cap us w7)
  (hf:f≤F) (hp:p f (.mk k s 0 [e,x] e.line) us=some res) (hE:zi us) (hlen:us.length≤1099511627776) (kv:Value) (hkv:kv=.int .i64 k) (W:World)
  (hW:W=(set5 w7 N kv (.string (zb s)) (.int .i64 0) (.slice (some ⟨w7.heap.size,0,none⟩) 2 2) (.int .i64 l2)).alloc (.cells #[.int .i64 a2,.string b2,.int .i64 c2,.slice p2 q2 s2,.int .i64 l2,.int .i64 a3,.string b3,.int .i64 c3,.slice u0 u1 u2,.int .i64 l3] 45)) :
  ZS r g N F w res p W∧ZO r W=us.length:=by
 obtain rfl:l2=(e.line:Int):=hx.line_eq;rw [←Xz _ _ _ _ _ _ (Array.getElem?_eq_some_iff.1 p7).1] at hW;subst hkv;have I:=hk7.size;have J:=hkE.size;have H:=hkr.size;have A:=(hkr.trans hkE).trans hk7;obtain ⟨L,G,rfl⟩:=hE.cons;have z:=zX.kept (zX.kept hx hkE.size fun k hk' hlt=>hkE.block k hlt (by omega)) hk7.size fun k hk' hlt=>hk7.block k hlt (by omega)
 have h:=zK.two 45 (c:=[.int .i64 a2,.string b2,.int .i64 c2,.slice p2 q2 s2,.int .i64 (e.line:Int)]) (d:=[.int .i64 a3,.string b3,.int .i64 c3,.slice u0 u1 u2,.int .i64 l3]) z (zX.wide hx7 fun k hk'=>⟨by omega,by omega⟩) rfl rfl ⟨by omega,by omega⟩
 simp only [List.cons_append,List.nil_append] at h;have D:=ZS.store (p:=p) (res:=res) (f:=f) (F:=F) k s 0 e.line hr hg hNw A p7 h hrd ((hk7.block _ (by omega) (by omega)).trans hz) hf hp hE hlen
 have y:=(hrd.alloc (.cells #[.int .i64 a2,.string b2,.int .i64 c2,.slice p2 q2 s2,.int .i64 (e.line:Int),.int .i64 a3,.string b3,.int .i64 c3,.slice u0 u1 u2,.int .i64 l3] 45)).keep (w':=W) (by rw [hW];exact zr _ _ _ _ _ _ _ (by omega)) (by rw [hW];exact zr _ _ _ _ _ _ _ (by omega))
 rw [←hW] at D;exact ⟨D,y.left⟩
theorem ZS.one {r g N F f:Nat} {w wr wE w7:World} {res:PR Ex} {p:Nat→Ex→List Tk→Option (PR Ex)} {e:Ex} {us:List Tk} {o cap:Nat} {a2:Int} {b2:ByteArray} {c2:Int} {p2:Option Addr} {q2 s2:Nat} {l2:Int}
  (k:Nat) (s:List UInt8) (hr:r<w.heap.size) (hg:g<w.heap.size) (hNw:w.heap.size<N) (hN:N<wE.heap.size)
  (hx:zX (fun k=>w.heap.size<k∧k≠N) wr e (.agg #[.int .i64 a2,.string b2,.int .i64 c2,.slice p2 q2 s2,.int .i64 l2])) (hkr:zc r w wr) (hkE:zc r wr wE) (hk7:zc r wE w7)
  (p7:w7.heap[N]?=some (.cells #[.int .i64 a2,.string b2,.int .i64 c2,.slice p2 q2 s2,.int .i64 l2] 45 (0,0))) (hz:wE.heap[w.heap.size]?=some Zz) (hrd:zf r g o cap us w7)
  (hf:f≤F) (hp:p f (.mk k s 0 [e] e.line) us=some res) (hE:zi us) (hlen:us.length≤1099511627776) (kv:Value) (hkv:kv=.int .i64 k) (W:World)
  (hW:W=(set5 w7 N kv (.string (zb s)) (.int .i64 0) (.slice (some ⟨w7.heap.size,0,none⟩) 1 1) (.int .i64 l2)).alloc (.cells #[.int .i64 a2,.string b2,.int .i64 c2,.slice p2 q2 s2,.int .i64 l2] 45)) :
  ZS r g N F w res p W∧ZO r W=us.length:=by
 obtain rfl:l2=(e.line:Int):=hx.line_eq;rw [←Xz _ _ _ _ _ _ (Array.getElem?_eq_some_iff.1 p7).1] at hW;subst hkv;have I:=hk7.size;have J:=hkE.size;have H:=hkr.size;have A:=(hkr.trans hkE).trans hk7;obtain ⟨L,G,rfl⟩:=hE.cons;have z:=zX.kept (zX.kept hx hkE.size fun k hk' hlt=>hkE.block k hlt (by omega)) hk7.size fun k hk' hlt=>hk7.block k hlt (by omega)
 have y:=zK.one 45 (c:=[.int .i64 a2,.string b2,.int .i64 c2,.slice p2 q2 s2,.int .i64 (e.line:Int)]) z rfl ⟨by omega,by omega⟩
 have D:=ZS.store (p:=p) (res:=res) (f:=f) (F:=F) k s 0 e.line hr hg hNw A p7 y hrd ((hk7.block _ (by omega) (by omega)).trans hz) hf hp hE hlen
 have h:=(hrd.alloc (.cells #[.int .i64 a2,.string b2,.int .i64 c2,.slice p2 q2 s2,.int .i64 (e.line:Int)] 45)).keep (w':=W) (by rw [hW];exact zr _ _ _ _ _ _ _ (by omega)) (by rw [hW];exact zr _ _ _ _ _ _ _ (by omega))
 rw [←hW] at D;exact ⟨D,h.left⟩
theorem zd6 (r g o cap F least:Nat) (ts:List Tk) (w:World) (res:PR Ex) (h:zf r g o cap ts w) (hE:zi ts) (hN:ts.length≤1099511627776) (hlev:ZA w) (hrl:r≠1) (hl:least≤6) (hp:zg (F+1) least ts=some res)
  (hbt:∀w1 o1 R ts1 r1,zg F (least+1) ts1=some r1→zi ts1→ts1.length≤1099511627776→zf r g o1 R ts1 w1→zc r w w1→Calls Tryz.prog 84 #[.pointer (some ⟨r,0,none⟩),.int .i64 ((least:Int)+1)] w1 (zJ r g w1 r1)) :
  Calls Tryz.prog 84 #[.pointer (some ⟨r,0,none⟩),.int .i64 least] w (zJ r g w res):=by
 obtain ⟨t0,aM,rfl⟩:=hE.cons;have hr:=h.lt.1;have aG:=h.lt.2;rw [zg,if_neg (by omega)] at hp
 cases hb:zg F (least+1) (t0::aM) with
 | none=>rw [hb] at hp;cases hp
 | some r1 =>
  obtain ⟨w0,ai⟩:∃w0,w0=w.alloc Zz:=⟨_,rfl⟩;have c1:=hbt w0 o cap (t0::aM) r1 hb hE hN (by rw [ai];exact h.alloc _) (by rw [ai];exact (zc.refl r w).alloc _)
  rw [hb] at hp;simp only [zh] at hp;have bq:¬(6:Int)<(least:Int):=by omega
  have aa:Hid (w0=w.alloc Zz):=ai;have aQ:Hid (∀w1 o1 R ts1 r1,zg F (least+1) ts1=some r1→zi ts1→ts1.length≤1099511627776→zf r g o1 R ts1 w1→zc r w w1→Calls Tryz.prog 84 #[.pointer (some ⟨r,0,none⟩),.int .i64 ((least:Int)+1)] w1 (zJ r g w1 r1)):=hbt;clear ai hbt
  go_enter Tryz.func84,Tryz.ntmps84
  go_wp2_with fail
  rw [←aa.out];refine c1.mono ?_;clear c1;rintro e w1 ⟨aq,Y⟩;have aO:zc r w w1:=by have:=aa.out;subst this;exact ((zc.refl r w).alloc _).trans aq
  rcases r1 with a | ⟨x,us⟩
  ·obtain rfl:=Y
   simp only [Option.some.injEq] at hp;subst hp;exact ⟨rfl,aO,rfl⟩
  ·obtain ⟨v,o1,R,rfl,hx,X⟩:=Y
   obtain ⟨a,b,c,d0,d1,d2,l,rfl⟩:=hx.agg;have aR:=(Ze F).1 _ _ _ _ hb hE;have a6:=Yv hb;have hJ:=ZS.start (p:=fun f e ts=>Zs f least e ts) (res:=res) aa.out hr aq hx X hp aR (by omega)
   have HJ:Hid (ZS r g w1.heap.size F w res (fun f e ts=>Zs f least e ts) (w1.alloc (.cells #[.int .i64 a,.string b,.int .i64 c,.slice d0 d1 d2,.int .i64 l] 45))):=hJ
   have ay:w.heap.size<w1.heap.size:=by have:=aq.size;have h2:=aa.out;subst h2;simp at this;omega
   obtain ⟨N,ax⟩:∃N,N=w1.heap.size:=⟨_,rfl⟩;rw [←ax] at HJ ay;have ba:Hid (ZA w):=hlev;clear hJ hx X aq aR hp hb hE hN h a6 aO hlev aa;go_wp2_with fail
   rw [←ax];generalize hW0:w1.alloc (.cells #[.int .i64 a,.string b,.int .i64 c,.slice d0 d1 d2,.int .i64 l] 45)=W0 at *;clear hW0 ax
   go_loopw [6] (fun _ wr=>ZS r g N F w res (fun f e ts=>Zs f least e ts) wr) (fun _ wr=>ZO r wr)
   case atStart=>exact HJ.out
   case round =>
    obtain ⟨e,bo,o2,A,f2,D,J,c2,H,G,L,l2,bp,I,aD,bd,Q,al,U,ad,af⟩:=hrel;obtain ⟨z,y,rfl⟩:=aD.cons;obtain rfl:l2=(e.line:Int):=al.line_eq;clear HJ;have ch:=Z8 r g o2 A z y wr U;have az:=U.left
    have ae:Hid (∀W,zc r wr W→zf r g o2 A (z::y) W→W.heap[N]?=some (.cells #[.int .i64 D,.string J,.int .i64 c2,.slice H G L,.int .i64 (e.line:Int)] 45 (0,0))∧W.heap[w.heap.size]?=some Zz ∧
     zJ r g w (.ok (e,z::y)) (.returned (.agg #[.int .i64 D,.string J,.int .i64 c2,.slice H G L,.int .i64 (e.line:Int)])) (set5 W w.heap.size (.int .i64 D) (.string J) (.int .i64 c2) (.slice H G L) (.int .i64 (e.line:Int)))) :=
     fun W hK X=>ZS.leave hr aG ay ad Q af al hK X
    have av:Hid (∀W,zc r wr W→W.heap[N]?=some (.cells #[.int .i64 D,.string J,.int .i64 c2,.slice H G L,.int .i64 (e.line:Int)] 45 (0,0))∧W.heap[w.heap.size]?=some Zz) :=
     fun W hK=>⟨(hK.block _ (Array.getElem?_eq_some_iff.1 Q).1 (by omega)).trans Q,(hK.block _ (Array.getElem?_eq_some_iff.1 af).1 (by omega)).trans af⟩
    have ap:Hid (zX (fun k=>w.heap.size<k∧k≠N) wr e (.agg #[.int .i64 D,.string J,.int .i64 c2,.slice H G L,.int .i64 (e.line:Int)])):=al
    have V:Hid (zc r w wr):=ad;have ak:Hid (zf r g o2 A (z::y) wr):=U;have ao:Hid (zi (z::y)):=aD;have br:r<wr.heap.size∧g<wr.heap.size:=⟨by have:=ad.size;omega,by have:=ad.size;omega⟩
    cases f2 with
    | zero=>simp [Zs] at I
    | succ f3 =>
     simp only [Zs,zC,List.tail_cons] at I;clear al ad U aD Q af;go_wp2_with fail
     refine ch.mono ?_;clear ch;rintro e w' ⟨rfl,rfl⟩;simp only [uJ];have kA:zc r wr (wr.alloc (ZL z)):=(zc.refl r wr).alloc _;have rA:=ak.out.alloc (ZL z);generalize wr.alloc (ZL z)=wA at *;have bc:=v8;have aZ:=zb7
     by_cases h4:z.k=4
     ·have be:(z.k:Int)=4:=by omega
      have cB:=Z8 r g o2 A z y wA rA;have kB:zc r wr (wA.alloc (ZL z)):=kA.alloc _;have rB:=rA.alloc (ZL z);have aB:Hid (zc r wr (wA.alloc (ZL z))):=kB;have ab:Hid (zf r g o2 A (z::y) (wA.alloc (ZL z))):=rB;have lB:=(ba.out.kept V.out hrl).kept kB hrl;have cL:=Xy z.s (wA.alloc (ZL z)) lB;clear kA rA kB rB lB;go_wp2_with fail
      refine cB.mono ?_;clear cB;rintro e w' ⟨rfl,rfl⟩;simp only [uJ];obtain ⟨wB,aW⟩:∃wB,wB=wA.alloc (ZL z):=⟨_,rfl⟩;rw [←aW] at aB ab cL ⊢;clear aW;go_wp2_with fail
      refine cL.mono ?_;clear cL;rintro e wC ⟨rfl,ag⟩;have kC:zc r wr wC:=aB.out.trans (zc.of ag);have rC:zf r g o2 A (z::y) wC:=ab.out.keep (ag.block _ ab.out.lt.1) (ag.block _ ab.out.lt.2);clear ag aB ab wB;generalize levelOf z.s=lv at *
      by_cases hlv:lv=least
      ·have T:least=lv:=hlv.symm
       subst T;rw [if_pos ⟨h4,rfl⟩] at I;have aj:=ao.out.tail (by omega:z.k≠0)
       have cD:=Z8 r g o2 A z y wC rC;have kD:zc r wr (wC.alloc (ZL z)):=kC.alloc _;have rD:=rC.alloc (ZL z);have cE:=Va r g o2 A z y (wC.alloc (ZL z)) rD aj.ne;have aS:Hid (zc r wr (wC.alloc (ZL z))):=kD;have aT:Hid (zf r g o2 A (z::y) (wC.alloc (ZL z))):=rD;clear kC rC kD rD;go_wp2_with fail
       refine cD.mono ?_;clear cD;rintro e w' ⟨rfl,rfl⟩;simp only [uJ];go_wp2_with fail
       refine cE.mono ?_;clear cE;rintro e wE ⟨rfl,aA⟩;have kE:zc r wr wE:=by rw [aA];exact aS.out.setCell 0 _
       have rE:zf r g (o2+5) (A-1) y wE:=by rw [aA];exact aT.out.next
       obtain ⟨pN,pz⟩:=av.out wE kE;clear aA aS aT ak ae bc aZ;have aP:Hid (zc r wr wE):=kE;have O:Hid (zc r w wE):=V.out.trans kE;have au:N<wE.heap.size:=(Array.getElem?_eq_some_iff.1 pN).1;have a8:y.length≤1099511627776:=by simp only [List.length_cons] at bd;omega
       cases hb3:zg f3 (least+1) y with
       | none=>rw [hb3] at I;cases I
       | some r3 =>
        rw [hb3] at I;simp only [zh] at I
        have aC:zg F (least+1) y=some r3:=by
         have:=YW (k:=F-f3) hb3
         rwa [show f3+(F-f3)=F by omega] at this
        have cb:∀W:World,W.heap=wE.heap→W.os=wE.os→W.tape=wE.tape→W.output=wE.output→Calls Tryz.prog 84 #[.pointer (some ⟨r,0,none⟩),.int .i64 ((least:Int)+1)] W fun e w'=>zc r wE w'∧zJ r g W r3 e w':=fun W e1 e2 e3 e4 =>
         (aQ.out W _ _ y r3 aC aj a8 (rE.keep (by rw [e1]) (by rw [e1])) ⟨e2.trans O.out.os,e3.trans O.out.tape,e4.trans O.out.output,by rw [e1];exact O.out.size,fun k hk hr=>by rw [e1];exact O.out.block k hk hr⟩).mono fun e w' h =>
          ⟨⟨h.1.os.trans e2,h.1.tape.trans e3,h.1.output.trans e4,by rw [←e1];exact h.1.size,fun k hk hr=>by rw [←e1];exact h.1.block k (by rw [e1];exact hk) hr⟩,h⟩
        obtain ⟨n0,n1,n2,n3,n4,nf⟩:=zU pN;have aJ:Hid (wE.heap[N]?=some (.cells #[.int .i64 D,.string J,.int .i64 c2,.slice H G L,.int .i64 (e.line:Int)] 45 (0,0))):=pN;have aF:Hid (wE.heap[w.heap.size]?=some Zz):=pz;clear pN pz rE kE aQ av;have bf:IntKind.i64.wrap ((least:Int)+1)=(least:Int)+1:=by rw [IntKind.wrap_i64];omega
        rcases r3 with a3 | ⟨x3,am⟩
        ·simp only [Option.some.injEq] at I
         subst I;have an:∀W:World,W.heap=wE.heap→W.os=wE.os→W.tape=wE.tape→W.output=wE.output→Calls Tryz.prog 84 #[.pointer (some ⟨r,0,none⟩),.int .i64 ((least:Int)+1)] W fun e w'=>e=ZG a3∧zc r w w':=fun W e1 e2 e3 e4=>(cb W e1 e2 e3 e4).mono fun e w' h=>⟨h.2.2,O.out.trans h.1⟩
         clear cb;go_wp2_with fail
         go_region_dies
         all_goals (go_wp2_with fail;refine (an _ (by rfl) (by rfl) (by rfl) (by rfl)).mono ?_;rintro e w4 ⟨rfl,ah⟩;exact ⟨rfl,ah,rfl⟩)
        ·have aV:=(Ze F).1 _ _ _ _ aC aj
         have a0:=Yv aC;have aL:am.length≤1099511627776:=by omega
         have aU:am.length<ZO r wr:=by rw [az];simp only [List.length_cons];omega
         have a1:f3≤F:=by omega
         have HT:Hid (Zs f3 least (.mk 7 z.s 0 [e,x3] e.line) am=some res):=I
         have an:∀W:World,W.heap=wE.heap→W.os=wE.os→W.tape=wE.tape→W.output=wE.output→Calls Tryz.prog 84 #[.pointer (some ⟨r,0,none⟩),.int .i64 ((least:Int)+1)] W fun e' w'=>∃(a3:Int) (b3:ByteArray) (c3:Int) (u0:Option Addr) (u1 u2:Nat) (l3:Int),e'=.returned (.agg #[.int .i64 a3,.string b3,.int .i64 c3,.slice u0 u1 u2,.int .i64 l3]) ∧
           w'.heap[N]?=some (.cells #[.int .i64 D,.string J,.int .i64 c2,.slice H G L,.int .i64 (e.line:Int)] 45 (0,0))∧Hid (zc r wE w'∧ZI wE.heap.size w' x3 (.agg #[.int .i64 a3,.string b3,.int .i64 c3,.slice u0 u1 u2,.int .i64 l3])∧∃o cap,zf r g o cap am w'):=fun W e1 e2 e3 e4=>(cb W e1 e2 e3 e4).mono fun e' w' h=>by
          obtain ⟨ah,-,v,o4,aH,rfl,hx,X⟩:=h;obtain ⟨a3,b3,c3,u0,u1,u2,l3,rfl⟩:=hx.agg;exact ⟨a3,b3,c3,u0,u1,u2,l3,rfl,(ah.block N au (by omega)).trans aJ.out,ah,(by rw [←e1];exact hx:ZI wE.heap.size w' x3 _),o4,aH,X⟩
         clear cb I;go_wp2_with fail
         go_region_with (go_at_call 84;refine (an _ (by rfl) (by rfl) (by rfl) (by rfl)).mono ?_;rintro e' w7 ⟨a3,b3,c3,u0,u1,u2,l3,rfl,p7,H7⟩;have a4:N<w7.heap.size:=(Array.getElem?_eq_some_iff.1 p7).1;have aK:=(fun ob=>(Below.heap_alloc w7 ob N a4).trans p7);obtain ⟨m0,m1,m2,m3,m4,mf⟩:=zU p7;have bh:=zl m0;have bb:=zl m1;have a7:=zl m2;have a9:=zl m3;have aY:=zl m4;have bg:=(fun ob j=>(zU (aK ob)).2.2.2.2.2 j))
         all_goals
          obtain ⟨aI,aN,o7,bn,aw⟩:=H7.out;obtain ⟨W,hW⟩:∃W,W=(set5 w7 N (.int .i64 7) (.string (zb z.s)) (.int .i64 0) (.slice (some ⟨w7.heap.size,0,none⟩) 2 2) (.int .i64 (e.line:Int))).alloc (.cells #[.int .i64 D,.string J,.int .i64 c2,.slice H G L,.int .i64 (e.line:Int),.int .i64 a3,.string b3,.int .i64 c3,.slice u0 u1 u2,.int .i64 l3] 45):=⟨_,rfl⟩;obtain ⟨hJ,ar⟩:=ZS.two (p:=fun f e ts=>Zs f least e ts) 7 z.s hr aG ay au ap.out V.out aP.out aI p7 aF.out aN aw a1 HT.out aV aL (.int .i64 7) rfl W hW
          have a5:Hid (ZS r g N F w res (fun f e ts=>Zs f least e ts) W∧ZO r W<ZO r wr):=show _∧_<_ from ⟨hJ,by rw [ar];exact aU⟩
          change Exit.inBlock _ _ _ _ ((set5 w7 N (.int .i64 7) (.string (zb z.s)) (.int .i64 0) (.slice (some ⟨w7.heap.size,0,none⟩) 2 2) (.int .i64 (e.line:Int))).alloc (.cells #[.int .i64 D,.string J,.int .i64 c2,.slice H G L,.int .i64 (e.line:Int),.int .i64 a3,.string b3,.int .i64 c3,.slice u0 u1 u2,.int .i64 l3] 45))
          rw [←hW];clear hW hJ ar aw aN aI p7 aK m0 m1 m2 m3 m4 mf bh bb a7 a9 aY bg n0 n1 n2 n3 n4 nf an H7 aJ aF HT aP O ap V ao a0 aL aU aV aj bf;go_wp2
          exact a5.out
      ·have T:¬((lv:Int)=(least:Int)):=by omega
       have bi:((lv:Int)==(least:Int))=false:=by rw [beq_eq_false_iff_ne];exact T
       have bj:decide ((lv:Int)=(least:Int))=false:=by rw [decide_eq_false_iff_not];exact T
       have bk:decide (lv=least)=false:=by rw [decide_eq_false_iff_not];exact hlv
       have bm:(lv==least)=false:=by rw [beq_eq_false_iff_ne];exact hlv
       rw [if_neg (fun h=>hlv h.2)] at I
       simp only [Option.some.injEq] at I;subst I;obtain ⟨pN,pz,Z⟩:=ae.out wC kC rC;obtain ⟨n0,n1,n2,n3,n4,nf⟩:=zU pN;obtain ⟨q0,q1,aX,q3,q4,qf⟩:=zU pz;obtain ⟨z0,z1,z2,z3,z4⟩:=zY pz (.int .i64 D) (.string J) (.int .i64 c2) (.slice H G L) (.int .i64 (e.line:Int));have aE:Hid (zJ r g w (.ok (e,z::y)) (.returned (.agg #[.int .i64 D,.string J,.int .i64 c2,.slice H G L,.int .i64 (e.line:Int)])) (set5 wC w.heap.size (.int .i64 D) (.string J) (.int .i64 c2) (.slice H G L) (.int .i64 (e.line:Int)))):=Z;clear ae ap V ak ao Z pN pz kC rC;go_wp2
       exact bodyPost_ret (v:=.agg #[.int .i64 D,.string J,.int .i64 c2,.slice H G L,.int .i64 (e.line:Int)]) (by simp [results,Tryz.results84,go_sem,z0,z1,z2,z3,z4]) rfl aE.out
     ·have be:¬(z.k:Int)=4:=by omega
      rw [if_neg (fun h=>h4 h.1)] at I
      simp only [Option.some.injEq] at I;subst I;obtain ⟨pN,pz,Z⟩:=ae.out wA kA rA;obtain ⟨n0,n1,n2,n3,n4,nf⟩:=zU pN;obtain ⟨q0,q1,aX,q3,q4,qf⟩:=zU pz;obtain ⟨z0,z1,z2,z3,z4⟩:=zY pz (.int .i64 D) (.string J) (.int .i64 c2) (.slice H G L) (.int .i64 (e.line:Int));have aE:Hid (zJ r g w (.ok (e,z::y)) (.returned (.agg #[.int .i64 D,.string J,.int .i64 c2,.slice H G L,.int .i64 (e.line:Int)])) (set5 wA w.heap.size (.int .i64 D) (.string J) (.int .i64 c2) (.slice H G L) (.int .i64 (e.line:Int)))):=Z;clear ae ap V ak ao Z pN pz kA rA;go_wp2
      exact bodyPost_ret (v:=.agg #[.int .i64 D,.string J,.int .i64 c2,.slice H G L,.int .i64 (e.line:Int)]) (by simp [results,Tryz.results84,go_sem,z0,z1,z2,z3,z4]) rfl aE.out
theorem ZS.moved {r g N F f:Nat} {w wr W:World} {res:PR Ex} {p:Nat→Ex→List Tk→Option (PR Ex)} {e:Ex} {us:List Tk} {o cap:Nat} {a2:Int} {b2:ByteArray} {c2:Int} {p2:Option Addr} {q2 s2:Nat} {l2:Int}
  (hr:r<w.heap.size) (hNw:w.heap.size<N) (hblk:wr.heap[N]?=some (.cells #[.int .i64 a2,.string b2,.int .i64 c2,.slice p2 q2 s2,.int .i64 l2] 45 (0,0)))
  (hx:zX (fun k=>w.heap.size<k∧k≠N) wr e (.agg #[.int .i64 a2,.string b2,.int .i64 c2,.slice p2 q2 s2,.int .i64 l2])) (hk:zc r w wr) (hz:wr.heap[w.heap.size]?=some Zz) (hK:zc r wr W) (hrd:zf r g o cap us W)
  (hf:f≤F) (hp:p f e us=some res) (hE:zi us):ZS r g N F w res p W :=
 ⟨e,us,o,cap,f,a2,b2,c2,p2,q2,s2,l2,hf,hp,hE,hrd.few,(hK.block _ (Array.getElem?_eq_some_iff.1 hblk).1 (by omega)).trans hblk,zX.kept hx hK.size fun k hk' hlt=>hK.block k hlt (by omega),hrd,hk.trans hK,(hK.block _ (Array.getElem?_eq_some_iff.1 hz).1 (by omega)).trans hz⟩
theorem ZS.one' {r g N F f:Nat} {w wr wE w7:World} {res:PR Ex} {p:Nat→Ex→List Tk→Option (PR Ex)} {e:Ex} {us:List Tk} {o cap:Nat} {a2:Int} {b2:ByteArray} {c2:Int} {p2:Option Addr} {q2 s2:Nat} {l2:Int}
  (k:Nat) (s:List UInt8) (hr:r<w.heap.size) (hg:g<w.heap.size) (hNw:w.heap.size<N) (hN:N<wE.heap.size)
  (hx:zX (fun k=>w.heap.size<k∧k≠N) wr e (.agg #[.int .i64 a2,.string b2,.int .i64 c2,.slice p2 q2 s2,.int .i64 l2])) (hkr:zc r w wr) (hkE:zc r wr wE)
  (hk7:zc r (wE.alloc (.cells #[.int .i64 a2,.string b2,.int .i64 c2,.slice p2 q2 s2,.int .i64 l2] 45)) w7)
  (p7:w7.heap[N]?=some (.cells #[.int .i64 a2,.string b2,.int .i64 c2,.slice p2 q2 s2,.int .i64 l2] 45 (0,0))) (hz:wE.heap[w.heap.size]?=some Zz) (hrd:zf r g o cap us w7)
  (hf:f≤F) (hp:p f (.mk k s 0 [e] e.line) us=some res) (hE:zi us) (kv:Value) (hkv:kv=.int .i64 k) (W:World)
  (hW:W=set5 w7 N kv (.string (zb s)) (.int .i64 0) (.slice (some ⟨wE.heap.size,0,none⟩) 1 1) (.int .i64 l2)) :
  ZS r g N F w res p W∧ZO r W=us.length:=by
 obtain rfl:l2=(e.line:Int):=hx.line_eq;subst hkv;have D:=hk7.size;have I:=hkE.size;have H:=hkr.size;simp only [World.size_alloc] at D;have G:=((hkr.trans hkE).alloc (.cells #[.int .i64 a2,.string b2,.int .i64 c2,.slice p2 q2 s2,.int .i64 (e.line:Int)] 45)).trans hk7;have A:=zX.kept hx hkE.size fun k hk' hlt=>hkE.block k hlt (by omega)
 have z:=zK.one 45 (c:=[.int .i64 a2,.string b2,.int .i64 c2,.slice p2 q2 s2,.int .i64 (e.line:Int)]) A rfl ⟨by omega,by omega⟩
 have y:=z.kept hk7.size fun k hk' hlt=>hk7.block k hlt (by omega)
 have h:zf r g o cap us W:=hrd.keep (by rw [hW];exact zr _ _ _ _ _ _ _ (by omega)) (by rw [hW];exact zr _ _ _ _ _ _ _ (by omega))
 refine ⟨⟨.mk k s 0 [e] e.line,us,o,cap,f,k,zb s,0,some ⟨wE.heap.size,0,none⟩,1,1,e.line,hf,hp,hE,hrd.few,?_,?_,h,?_,?_⟩,h.left⟩
 ·rw [hW];exact Yl p7 _ _ _ _ _
 ·rw [hW];exact zX.of_row (y.kept (w':=set5 w7 N (.int .i64 k) (.string (zb s)) (.int .i64 0) (.slice (some ⟨wE.heap.size,0,none⟩) 1 1) (.int .i64 (e.line:Int))) (by simp) fun k hk _=>zr _ _ _ _ _ _ _ hk.2) k s 0 e.line
 ·rw [hW];exact ZN G (by omega) _ _ _ _ _
 ·rw [hW,zr _ _ _ _ _ _ _ (by omega),hk7.block _ (by simp;omega) (by omega),Below.heap_alloc _ _ _ (by omega)];exact hz
end Go.Proofs.YtcphojjpapgblaaGreatDoor
