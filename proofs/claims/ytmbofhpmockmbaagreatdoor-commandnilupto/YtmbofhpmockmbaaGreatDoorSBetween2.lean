import Derived.Test.YtmbofhpmockmbaaGreatDoorMC28
import Derived.Deep.RegionWith
import Derived.Deep.CutRange
namespace Go.Proofs.YtmbofhpmockmbaaGreatDoor
open Go.RowKit Go.Shelf
set_option maxHeartbeats 16000000
set_option maxRecDepth 100000
theorem Vu (r g o cap F least:Nat) (ts:List Tk) (w:World) (res:PR Ex) (h:zc r g o cap ts w) (hE:zi ts) (hN:ts.length≤1099511627776) (hlev:ZW w) (hrl:r≠5) (hl:least≤6) (hp:zd (F+1) least ts=some res)
  (hbt:∀w1 o1 M ts1 r1,zd F (least+1) ts1=some r1→zi ts1→ts1.length≤1099511627776→zc r g o1 M ts1 w1→zb r w w1→Calls Tryz.prog 98 #[.pointer (some ⟨r,0,none⟩),.int .i64 ((least:Int)+1)] w1 (zj r g w1 r1)) :
  Calls Tryz.prog 98 #[.pointer (some ⟨r,0,none⟩),.int .i64 least] w (zj r g w res):=by
 obtain ⟨t0,aQ,rfl⟩:=hE.cons;have hr:=h.lt.1;have aS:=h.lt.2;rw [zd,if_neg (by omega)] at hp
 cases hb:zd F (least+1) (t0::aQ) with
 | none=>rw [hb] at hp;cases hp
 | some r1 =>
  obtain ⟨w0,ah⟩:∃w0,w0=w.alloc zC:=⟨_,rfl⟩;have c1:=hbt w0 o cap (t0::aQ) r1 hb hE hN (by rw [ah];exact h.alloc _) (by rw [ah];exact (zb.refl r w).alloc _)
  rw [hb] at hp;simp only [zo] at hp;have bl:¬(6:Int)<(least:Int):=by omega
  have X:Hid (w0=w.alloc zC):=ah;have aK:Hid (∀w1 o1 M ts1 r1,zd F (least+1) ts1=some r1→zi ts1→ts1.length≤1099511627776→zc r g o1 M ts1 w1→zb r w w1→Calls Tryz.prog 98 #[.pointer (some ⟨r,0,none⟩),.int .i64 ((least:Int)+1)] w1 (zj r g w1 r1)):=hbt;clear ah hbt
  go_enter Tryz.func98,Tryz.ntmps98
  go_wp2_with fail
  rw [←X.out];refine c1.mono ?_;clear c1;rintro e w1 ⟨ab,Z⟩;have aH:zb r w w1:=by have:=X.out;subst this;exact ((zb.refl r w).alloc _).trans ab
  rcases r1 with a | ⟨x,us⟩
  ·obtain rfl:=Z
   simp only [Option.some.injEq] at hp;subst hp;exact ⟨rfl,aH,rfl⟩
  ·obtain ⟨v,o1,M,rfl,hx,T⟩:=Z
   obtain ⟨a,b,c,d0,d1,d2,l,rfl⟩:=hx.agg;have aO:=(zU F).1 _ _ _ _ hb hE;have a9:=Zy hb;have hJ:=zH.start (p:=fun f e ts=>zR f least e ts) (res:=res) X.out hr ab hx T hp aO (by omega)
   have HJ:Hid (zH r g w1.heap.size F w res (fun f e ts=>zR f least e ts) (w1.alloc (.cells #[.int .i64 a,.string b,.int .i64 c,.slice d0 d1 d2,.int .i64 l] 90))):=hJ
   have aA:w.heap.size<w1.heap.size:=by have:=ab.size;have h2:=X.out;subst h2;simp at this;omega
   obtain ⟨N,ay⟩:∃N,N=w1.heap.size:=⟨_,rfl⟩;rw [←ay] at HJ aA;have a0:Hid (ZW w):=hlev;clear hJ hx T ab aO hp hb hE hN h a9 aH hlev X;go_wp2_with fail
   rw [←ay];generalize hW0:w1.alloc (.cells #[.int .i64 a,.string b,.int .i64 c,.slice d0 d1 d2,.int .i64 l] 90)=W0 at *;clear hW0 ay
   go_loopw [6] (fun _ wr=>zH r g N F w res (fun f e ts=>zR f least e ts) wr) (fun _ wr=>Za r wr)
   case atStart=>exact HJ.out
   case round =>
    obtain ⟨e,bk,o2,A,f2,J,D,I,E,K,G,l2,bm,H,au,bb,R,al,O,U,ak⟩:=hrel;obtain ⟨y,z,rfl⟩:=au.cons;obtain rfl:l2=(e.line:Int):=al.line_eq;clear HJ;have ch:=z8 r g o2 A y z wr O;have az:=O.left
    have V:Hid (∀W,zb r wr W→zc r g o2 A (y::z) W→W.heap[N]?=some (.cells #[.int .i64 J,.string D,.int .i64 I,.slice E K G,.int .i64 (e.line:Int)] 90 (0,0))∧W.heap[w.heap.size]?=some zC ∧
     zj r g w (.ok (e,y::z)) (.returned (.agg #[.int .i64 J,.string D,.int .i64 I,.slice E K G,.int .i64 (e.line:Int)])) (set5 W w.heap.size (.int .i64 J) (.string D) (.int .i64 I) (.slice E K G) (.int .i64 (e.line:Int)))) :=
     fun W hK T=>zH.leave hr aS aA U R ak al hK T
    have ao:Hid (∀W,zb r wr W→W.heap[N]?=some (.cells #[.int .i64 J,.string D,.int .i64 I,.slice E K G,.int .i64 (e.line:Int)] 90 (0,0))∧W.heap[w.heap.size]?=some zC) :=
     fun W hK=>⟨(hK.block _ (Array.getElem?_eq_some_iff.1 R).1 (by omega)).trans R,(hK.block _ (Array.getElem?_eq_some_iff.1 ak).1 (by omega)).trans ak⟩
    have aj:Hid (zA (fun k=>w.heap.size<k∧k≠N) wr e (.agg #[.int .i64 J,.string D,.int .i64 I,.slice E K G,.int .i64 (e.line:Int)])):=al
    have S:Hid (zb r w wr):=U;have an:Hid (zc r g o2 A (y::z) wr):=O;have ad:Hid (zi (y::z)):=au;have bn:r<wr.heap.size∧g<wr.heap.size:=⟨by have:=U.size;omega,by have:=U.size;omega⟩
    cases f2 with
    | zero=>simp [zR] at H
    | succ f3 =>
     simp only [zR,zE,List.tail_cons] at H;clear al U O au R ak;go_wp2_with fail
     refine ch.mono ?_;clear ch;rintro e w' ⟨rfl,rfl⟩;simp only [Y2];have kA:zb r wr (wr.alloc (zF y)):=(zb.refl r wr).alloc _;have rA:=an.out.alloc (zF y);generalize wr.alloc (zF y)=wA at *;have aZ:=YM;have a5:=X5
     by_cases h4:y.k=4
     ·have ba:(y.k:Int)=4:=by omega
      have cB:=z8 r g o2 A y z wA rA;have kB:zb r wr (wA.alloc (zF y)):=kA.alloc _;have rB:=rA.alloc (zF y);have av:Hid (zb r wr (wA.alloc (zF y))):=kB;have Y:Hid (zc r g o2 A (y::z) (wA.alloc (zF y))):=rB;have lB:=(a0.out.kept S.out hrl).kept kB hrl;have cL:=X8 y.s (wA.alloc (zF y)) lB;clear kA rA kB rB lB;go_wp2_with fail
      refine cB.mono ?_;clear cB;rintro e w' ⟨rfl,rfl⟩;simp only [Y2];obtain ⟨wB,aC⟩:∃wB,wB=wA.alloc (zF y):=⟨_,rfl⟩;rw [←aC] at av Y cL ⊢;clear aC;go_wp2_with fail
      refine cL.mono ?_;clear cL;rintro e wC ⟨rfl,ae⟩;have kC:zb r wr wC:=av.out.trans (zb.of ae);have rC:zc r g o2 A (y::z) wC:=Y.out.keep (ae.block _ Y.out.lt.1) (ae.block _ Y.out.lt.2);clear ae av Y wB;generalize levelOf y.s=lv at *
      by_cases hlv:lv=least
      ·have Q:least=lv:=hlv.symm
       subst Q;rw [if_pos ⟨h4,rfl⟩] at H;have af:=ad.out.tail (by omega:y.k≠0)
       have cD:=z8 r g o2 A y z wC rC;have kD:zb r wr (wC.alloc (zF y)):=kC.alloc _;have rD:=rC.alloc (zF y);have cE:=y5 r g o2 A y z (wC.alloc (zF y)) rD af.ne;have aT:Hid (zb r wr (wC.alloc (zF y))):=kD;have aI:Hid (zc r g o2 A (y::z) (wC.alloc (zF y))):=rD;clear kC rC kD rD;go_wp2_with fail
       refine cD.mono ?_;clear cD;rintro e w' ⟨rfl,rfl⟩;simp only [Y2];go_wp2_with fail
       refine cE.mono ?_;clear cE;rintro e wE ⟨rfl,ax⟩;have kE:zb r wr wE:=by rw [ax];exact aT.out.setCell 0 _
       have rE:zc r g (o2+5) (A-1) z wE:=by rw [ax];exact aI.out.next
       obtain ⟨pN,pz⟩:=ao.out wE kE;clear ax aT aI an V aZ a5;have aP:Hid (zb r wr wE):=kE;have L:Hid (zb r w wE):=S.out.trans kE;have ar:N<wE.heap.size:=(Array.getElem?_eq_some_iff.1 pN).1;have aY:z.length≤1099511627776:=by simp only [List.length_cons] at bb;omega
       cases hb3:zd f3 (least+1) z with
       | none=>rw [hb3] at H;cases H
       | some r3 =>
        rw [hb3] at H;simp only [zo] at H
        have aw:zd F (least+1) z=some r3:=by
         have:=ZO (k:=F-f3) hb3
         rwa [show f3+(F-f3)=F by omega] at this
        have cb:∀W:World,W.heap=wE.heap→W.os=wE.os→W.tape=wE.tape→W.output=wE.output→Calls Tryz.prog 98 #[.pointer (some ⟨r,0,none⟩),.int .i64 ((least:Int)+1)] W fun e w'=>zb r wE w'∧zj r g W r3 e w':=fun W e1 e2 e3 e4 =>
         (aK.out W _ _ z r3 aw af aY (rE.keep (by rw [e1]) (by rw [e1])) ⟨e2.trans L.out.os,e3.trans L.out.tape,e4.trans L.out.output,by rw [e1];exact L.out.size,fun k hk hr=>by rw [e1];exact L.out.block k hk hr⟩).mono fun e w' h =>
          ⟨⟨h.1.os.trans e2,h.1.tape.trans e3,h.1.output.trans e4,by rw [←e1];exact h.1.size,fun k hk hr=>by rw [←e1];exact h.1.block k (by rw [e1];exact hk) hr⟩,h⟩
        obtain ⟨n0,n1,n2,n3,n4,nf⟩:=zs pN;have aM:Hid (wE.heap[N]?=some (.cells #[.int .i64 J,.string D,.int .i64 I,.slice E K G,.int .i64 (e.line:Int)] 90 (0,0))):=pN;have aJ:Hid (wE.heap[w.heap.size]?=some zC):=pz;clear pN pz rE kE aK ao;have aX:IntKind.i64.wrap ((least:Int)+1)=(least:Int)+1:=by rw [IntKind.wrap_i64];omega
        rcases r3 with a3 | ⟨x3,ag⟩
        ·simp only [Option.some.injEq] at H
         subst H;have ai:∀W:World,W.heap=wE.heap→W.os=wE.os→W.tape=wE.tape→W.output=wE.output→Calls Tryz.prog 98 #[.pointer (some ⟨r,0,none⟩),.int .i64 ((least:Int)+1)] W fun e w'=>e=Zj a3∧zb r w w':=fun W e1 e2 e3 e4=>(cb W e1 e2 e3 e4).mono fun e w' h=>⟨h.2.2,L.out.trans h.1⟩
         clear cb;go_wp2_with fail
         go_region_dies
         all_goals (go_wp2_with fail;refine (ai _ (by rfl) (by rfl) (by rfl) (by rfl)).mono ?_;rintro e w4 ⟨rfl,am⟩;exact ⟨rfl,am,rfl⟩)
        ·have aD:=(zU F).1 _ _ _ _ aw af
         have bc:=Zy aw;have aR:ag.length≤1099511627776:=by omega
         have aF:ag.length<Za r wr:=by rw [az];simp only [List.length_cons];omega
         have a4:f3≤F:=by omega
         have HT:Hid (zR f3 least (.mk 7 y.s 0 [e,x3] e.line) ag=some res):=H
         have ai:∀W:World,W.heap=wE.heap→W.os=wE.os→W.tape=wE.tape→W.output=wE.output→Calls Tryz.prog 98 #[.pointer (some ⟨r,0,none⟩),.int .i64 ((least:Int)+1)] W fun e' w'=>∃(a3:Int) (b3:ByteArray) (c3:Int) (u0:Option Addr) (u1 u2:Nat) (l3:Int),e'=.returned (.agg #[.int .i64 a3,.string b3,.int .i64 c3,.slice u0 u1 u2,.int .i64 l3]) ∧
           w'.heap[N]?=some (.cells #[.int .i64 J,.string D,.int .i64 I,.slice E K G,.int .i64 (e.line:Int)] 90 (0,0))∧Hid (zb r wE w'∧zN wE.heap.size w' x3 (.agg #[.int .i64 a3,.string b3,.int .i64 c3,.slice u0 u1 u2,.int .i64 l3])∧∃o cap,zc r g o cap ag w'):=fun W e1 e2 e3 e4=>(cb W e1 e2 e3 e4).mono fun e' w' h=>by
          obtain ⟨am,-,v,o4,aN,rfl,hx,T⟩:=h;obtain ⟨a3,b3,c3,u0,u1,u2,l3,rfl⟩:=hx.agg;exact ⟨a3,b3,c3,u0,u1,u2,l3,rfl,(am.block N ar (by omega)).trans aM.out,am,(by rw [←e1];exact hx:zN wE.heap.size w' x3 _),o4,aN,T⟩
         clear cb H;go_wp2_with fail
         go_region_with (go_at_call 98;refine (ai _ (by rfl) (by rfl) (by rfl) (by rfl)).mono ?_;rintro e' w7 ⟨a3,b3,c3,u0,u1,u2,l3,rfl,p7,H7⟩;have a6:N<w7.heap.size:=(Array.getElem?_eq_some_iff.1 p7).1;have aE:=(fun ob=>(Below.heap_alloc w7 ob N a6).trans p7);obtain ⟨m0,m1,m2,m3,m4,mf⟩:=zs p7;have aW:=ze m0;have aU:=ze m1;have bd:=ze m2;have a7:=ze m3;have a1:=ze m4;have aV:=(fun ob j=>(zs (aE ob)).2.2.2.2.2 j))
         all_goals
          obtain ⟨aL,aG,o7,bj,ap⟩:=H7.out;obtain ⟨W,hW⟩:∃W,W=(set5 w7 N (.int .i64 7) (.string (za y.s)) (.int .i64 0) (.slice (some ⟨w7.heap.size,0,none⟩) 2 2) (.int .i64 (e.line:Int))).alloc (.cells #[.int .i64 J,.string D,.int .i64 I,.slice E K G,.int .i64 (e.line:Int),.int .i64 a3,.string b3,.int .i64 c3,.slice u0 u1 u2,.int .i64 l3] 90):=⟨_,rfl⟩;obtain ⟨hJ,aq⟩:=zH.two (p:=fun f e ts=>zR f least e ts) 7 y.s hr aS aA ar aj.out S.out aP.out aL p7 aJ.out aG ap a4 HT.out aD aR (.int .i64 7) rfl W hW
          have a8:Hid (zH r g N F w res (fun f e ts=>zR f least e ts) W∧Za r W<Za r wr):=show _∧_<_ from ⟨hJ,by rw [aq];exact aF⟩
          change Exit.inBlock _ _ _ _ ((set5 w7 N (.int .i64 7) (.string (za y.s)) (.int .i64 0) (.slice (some ⟨w7.heap.size,0,none⟩) 2 2) (.int .i64 (e.line:Int))).alloc (.cells #[.int .i64 J,.string D,.int .i64 I,.slice E K G,.int .i64 (e.line:Int),.int .i64 a3,.string b3,.int .i64 c3,.slice u0 u1 u2,.int .i64 l3] 90))
          rw [←hW];clear hW hJ aq ap aG aL p7 aE m0 m1 m2 m3 m4 mf aW aU bd a7 a1 aV n0 n1 n2 n3 n4 nf ai H7 aM aJ HT aP L aj S ad bc aR aF aD af aX;go_wp2
          exact a8.out
      ·have Q:¬((lv:Int)=(least:Int)):=by omega
       have bg:((lv:Int)==(least:Int))=false:=by rw [beq_eq_false_iff_ne];exact Q
       have bh:decide ((lv:Int)=(least:Int))=false:=by rw [decide_eq_false_iff_not];exact Q
       have bi:decide (lv=least)=false:=by rw [decide_eq_false_iff_not];exact hlv
       have bf:(lv==least)=false:=by rw [beq_eq_false_iff_ne];exact hlv
       rw [if_neg (fun h=>hlv h.2)] at H
       simp only [Option.some.injEq] at H;subst H;obtain ⟨pN,pz,aa⟩:=V.out wC kC rC;obtain ⟨n0,n1,n2,n3,n4,nf⟩:=zs pN;obtain ⟨q0,q1,be,q3,q4,qf⟩:=zs pz;obtain ⟨z0,z1,z2,z3,z4⟩:=zq pz (.int .i64 J) (.string D) (.int .i64 I) (.slice E K G) (.int .i64 (e.line:Int));have aB:Hid (zj r g w (.ok (e,y::z)) (.returned (.agg #[.int .i64 J,.string D,.int .i64 I,.slice E K G,.int .i64 (e.line:Int)])) (set5 wC w.heap.size (.int .i64 J) (.string D) (.int .i64 I) (.slice E K G) (.int .i64 (e.line:Int)))):=aa;clear V aj S an ad aa pN pz kC rC;go_wp2
       exact bodyPost_ret (v:=.agg #[.int .i64 J,.string D,.int .i64 I,.slice E K G,.int .i64 (e.line:Int)]) (by simp [results,Tryz.results98,go_sem,z0,z1,z2,z3,z4]) rfl aB.out
     ·have ba:¬(y.k:Int)=4:=by omega
      rw [if_neg (fun h=>h4 h.1)] at H
      simp only [Option.some.injEq] at H;subst H;obtain ⟨pN,pz,aa⟩:=V.out wA kA rA;obtain ⟨n0,n1,n2,n3,n4,nf⟩:=zs pN;obtain ⟨q0,q1,be,q3,q4,qf⟩:=zs pz;obtain ⟨z0,z1,z2,z3,z4⟩:=zq pz (.int .i64 J) (.string D) (.int .i64 I) (.slice E K G) (.int .i64 (e.line:Int));have aB:Hid (zj r g w (.ok (e,y::z)) (.returned (.agg #[.int .i64 J,.string D,.int .i64 I,.slice E K G,.int .i64 (e.line:Int)])) (set5 wA w.heap.size (.int .i64 J) (.string D) (.int .i64 I) (.slice E K G) (.int .i64 (e.line:Int)))):=aa;clear V aj S an ad aa pN pz kA rA;go_wp2
      exact bodyPost_ret (v:=.agg #[.int .i64 J,.string D,.int .i64 I,.slice E K G,.int .i64 (e.line:Int)]) (by simp [results,Tryz.results98,go_sem,z0,z1,z2,z3,z4]) rfl aB.out
end Go.Proofs.YtmbofhpmockmbaaGreatDoor
