import Derived.Test.YtmbofhpmockmbaaGreatDoorMC28
import Derived.Deep.RegionWith
import Derived.Deep.CutRange
namespace Go.Proofs.YtmbofhpmockmbaaGreatDoor
open Go.RowKit Go.Shelf
set_option maxHeartbeats 16000000
set_option maxRecDepth 100000
theorem VU (r g o cap F least:Nat) (ts:List Tk) (w:World) (res:PR Ex) (h:zc r g o cap ts w) (hE:zj ts) (hN:ts.length≤1099511627776) (hlev:Z2 w) (hrl:r≠5) (hl:least≤6) (hp:zd (F+1) least ts=some res)
  (hbt:∀w1 o1 R ts1 r1,zd F (least+1) ts1=some r1→zj ts1→ts1.length≤1099511627776→zc r g o1 R ts1 w1→zb r w w1→Calls Tryz.prog 98 #[.pointer (some ⟨r,0,none⟩),.int .i64 ((least:Int)+1)] w1 (zk r g w1 r1)) :
  Calls Tryz.prog 98 #[.pointer (some ⟨r,0,none⟩),.int .i64 least] w (zk r g w res):=by
 obtain ⟨t0,aQ,rfl⟩:=hE.cons;have hr:=h.lt.1;have aR:=h.lt.2;rw [zd,if_neg (by omega)] at hp
 cases hb:zd F (least+1) (t0::aQ) with
 | none=>rw [hb] at hp;cases hp
 | some r1 =>
  obtain ⟨w0,ah⟩:∃w0,w0=w.alloc zD:=⟨_,rfl⟩;have c1:=hbt w0 o cap (t0::aQ) r1 hb hE hN (by rw [ah];exact h.alloc _) (by rw [ah];exact (zb.refl r w).alloc _)
  rw [hb] at hp;simp only [zo] at hp;have bl:¬(6:Int)<(least:Int):=by omega
  have Y:Hid (w0=w.alloc zD):=ah;have aD:Hid (∀w1 o1 R ts1 r1,zd F (least+1) ts1=some r1→zj ts1→ts1.length≤1099511627776→zc r g o1 R ts1 w1→zb r w w1→Calls Tryz.prog 98 #[.pointer (some ⟨r,0,none⟩),.int .i64 ((least:Int)+1)] w1 (zk r g w1 r1)):=hbt;clear ah hbt
  go_enter Tryz.func98,Tryz.ntmps98
  go_wp2_with fail
  rw [←Y.out];refine c1.mono ?_;clear c1;rintro e w1 ⟨ai,X⟩;have aK:zb r w w1:=by have:=Y.out;subst this;exact ((zb.refl r w).alloc _).trans ai
  rcases r1 with a | ⟨x,us⟩
  ·obtain rfl:=X
   simp only [Option.some.injEq] at hp;subst hp;exact ⟨rfl,aK,rfl⟩
  ·obtain ⟨v,o1,R,rfl,hx,U⟩:=X
   obtain ⟨a,b,c,d0,d1,d2,l,rfl⟩:=hx.agg;have aF:=(zX F).1 _ _ _ _ hb hE;have bd:=ZD hb;have hJ:=zJ.start (p:=fun f e ts=>zV f least e ts) (res:=res) Y.out hr ai hx U hp aF (by omega)
   have HJ:Hid (zJ r g w1.heap.size F w res (fun f e ts=>zV f least e ts) (w1.alloc (.cells #[.int .i64 a,.string b,.int .i64 c,.slice d0 d1 d2,.int .i64 l] 90))):=hJ
   have aB:w.heap.size<w1.heap.size:=by have:=ai.size;have h2:=Y.out;subst h2;simp at this;omega
   obtain ⟨N,ax⟩:∃N,N=w1.heap.size:=⟨_,rfl⟩;rw [←ax] at HJ aB;have a4:Hid (Z2 w):=hlev;clear hJ hx U ai aF hp hb hE hN h bd aK hlev Y;go_wp2_with fail
   rw [←ax];generalize hW0:w1.alloc (.cells #[.int .i64 a,.string b,.int .i64 c,.slice d0 d1 d2,.int .i64 l] 90)=W0 at *;clear hW0 ax
   go_loopw [6] (fun _ wr=>zJ r g N F w res (fun f e ts=>zV f least e ts) wr) (fun _ wr=>Ze r wr)
   case atStart=>exact HJ.out
   case round =>
    obtain ⟨e,bo,o2,A,f2,D,K,J,G,I,E,l2,bm,H,ay,a5,Q,ao,M,aa,af⟩:=hrel;obtain ⟨y,z,rfl⟩:=ay.cons;obtain rfl:l2=(e.line:Int):=ao.line_eq;clear HJ;have ch:=Zd r g o2 A y z wr M;have aw:=M.left
    have V:Hid (∀W,zb r wr W→zc r g o2 A (y::z) W→W.heap[N]?=some (.cells #[.int .i64 D,.string K,.int .i64 J,.slice G I E,.int .i64 (e.line:Int)] 90 (0,0))∧W.heap[w.heap.size]?=some zD ∧
     zk r g w (.ok (e,y::z)) (.returned (.agg #[.int .i64 D,.string K,.int .i64 J,.slice G I E,.int .i64 (e.line:Int)])) (set5 W w.heap.size (.int .i64 D) (.string K) (.int .i64 J) (.slice G I E) (.int .i64 (e.line:Int)))) :=
     fun W hK U=>zJ.leave hr aR aB aa Q af ao hK U
    have au:Hid (∀W,zb r wr W→W.heap[N]?=some (.cells #[.int .i64 D,.string K,.int .i64 J,.slice G I E,.int .i64 (e.line:Int)] 90 (0,0))∧W.heap[w.heap.size]?=some zD) :=
     fun W hK=>⟨(hK.block _ (Array.getElem?_eq_some_iff.1 Q).1 (by omega)).trans Q,(hK.block _ (Array.getElem?_eq_some_iff.1 af).1 (by omega)).trans af⟩
    have ae:Hid (zB (fun k=>w.heap.size<k∧k≠N) wr e (.agg #[.int .i64 D,.string K,.int .i64 J,.slice G I E,.int .i64 (e.line:Int)])):=ao
    have T:Hid (zb r w wr):=aa;have aj:Hid (zc r g o2 A (y::z) wr):=M;have an:Hid (zj (y::z)):=ay;have bn:r<wr.heap.size∧g<wr.heap.size:=⟨by have:=aa.size;omega,by have:=aa.size;omega⟩
    cases f2 with
    | zero=>simp [zV] at H
    | succ f3 =>
     simp only [zV,zG,List.tail_cons] at H;clear ao aa M ay Q af;go_wp2_with fail
     refine ch.mono ?_;clear ch;rintro e w' ⟨rfl,rfl⟩;simp only [xq];have kA:zb r wr (wr.alloc (zH y)):=(zb.refl r wr).alloc _;have rA:=aj.out.alloc (zH y);generalize wr.alloc (zH y)=wA at *;have aY:=Y5;have be:=vA
     by_cases h4:y.k=4
     ·have ba:(y.k:Int)=4:=by omega
      have cB:=Zd r g o2 A y z wA rA;have kB:zb r wr (wA.alloc (zH y)):=kA.alloc _;have rB:=rA.alloc (zH y);have aC:Hid (zb r wr (wA.alloc (zH y))):=kB;have ab:Hid (zc r g o2 A (y::z) (wA.alloc (zH y))):=rB;have lB:=(a4.out.kept T.out hrl).kept kB hrl;have cL:=vD y.s (wA.alloc (zH y)) lB;clear kA rA kB rB lB;go_wp2_with fail
      refine cB.mono ?_;clear cB;rintro e w' ⟨rfl,rfl⟩;simp only [xq];obtain ⟨wB,aI⟩:∃wB,wB=wA.alloc (zH y):=⟨_,rfl⟩;rw [←aI] at aC ab cL ⊢;clear aI;go_wp2_with fail
      refine cL.mono ?_;clear cL;rintro e wC ⟨rfl,ag⟩;have kC:zb r wr wC:=aC.out.trans (zb.of ag);have rC:zc r g o2 A (y::z) wC:=ab.out.keep (ag.block _ ab.out.lt.1) (ag.block _ ab.out.lt.2);clear ag aC ab wB;generalize levelOf y.s=lv at *
      by_cases hlv:lv=least
      ·have O:least=lv:=hlv.symm
       subst O;rw [if_pos ⟨h4,rfl⟩] at H;have ad:=an.out.tail (by omega:y.k≠0)
       have cD:=Zd r g o2 A y z wC rC;have kD:zb r wr (wC.alloc (zH y)):=kC.alloc _;have rD:=rC.alloc (zH y);have cE:=Yn r g o2 A y z (wC.alloc (zH y)) rD ad.ne;have aT:Hid (zb r wr (wC.alloc (zH y))):=kD;have aE:Hid (zc r g o2 A (y::z) (wC.alloc (zH y))):=rD;clear kC rC kD rD;go_wp2_with fail
       refine cD.mono ?_;clear cD;rintro e w' ⟨rfl,rfl⟩;simp only [xq];go_wp2_with fail
       refine cE.mono ?_;clear cE;rintro e wE ⟨rfl,az⟩;have kE:zb r wr wE:=by rw [az];exact aT.out.setCell 0 _
       have rE:zc r g (o2+5) (A-1) z wE:=by rw [az];exact aE.out.next
       obtain ⟨pN,pz⟩:=au.out wE kE;clear az aT aE aj V aY be;have aP:Hid (zb r wr wE):=kE;have L:Hid (zb r w wE):=T.out.trans kE;have aq:N<wE.heap.size:=(Array.getElem?_eq_some_iff.1 pN).1;have aZ:z.length≤1099511627776:=by simp only [List.length_cons] at a5;omega
       cases hb3:zd f3 (least+1) z with
       | none=>rw [hb3] at H;cases H
       | some r3 =>
        rw [hb3] at H;simp only [zo] at H
        have av:zd F (least+1) z=some r3:=by
         have:=ZS (k:=F-f3) hb3
         rwa [show f3+(F-f3)=F by omega] at this
        have cb:∀W:World,W.heap=wE.heap→W.os=wE.os→W.tape=wE.tape→W.output=wE.output→Calls Tryz.prog 98 #[.pointer (some ⟨r,0,none⟩),.int .i64 ((least:Int)+1)] W fun e w'=>zb r wE w'∧zk r g W r3 e w':=fun W e1 e2 e3 e4 =>
         (aD.out W _ _ z r3 av ad aZ (rE.keep (by rw [e1]) (by rw [e1])) ⟨e2.trans L.out.os,e3.trans L.out.tape,e4.trans L.out.output,by rw [e1];exact L.out.size,fun k hk hr=>by rw [e1];exact L.out.block k hk hr⟩).mono fun e w' h =>
          ⟨⟨h.1.os.trans e2,h.1.tape.trans e3,h.1.output.trans e4,by rw [←e1];exact h.1.size,fun k hk hr=>by rw [←e1];exact h.1.block k (by rw [e1];exact hk) hr⟩,h⟩
        obtain ⟨n0,n1,n2,n3,n4,nf⟩:=zt pN;have aS:Hid (wE.heap[N]?=some (.cells #[.int .i64 D,.string K,.int .i64 J,.slice G I E,.int .i64 (e.line:Int)] 90 (0,0))):=pN;have aG:Hid (wE.heap[w.heap.size]?=some zD):=pz;clear pN pz rE kE aD au;have a0:IntKind.i64.wrap ((least:Int)+1)=(least:Int)+1:=by rw [IntKind.wrap_i64];omega
        rcases r3 with a3 | ⟨x3,ak⟩
        ·simp only [Option.some.injEq] at H
         subst H;have al:∀W:World,W.heap=wE.heap→W.os=wE.os→W.tape=wE.tape→W.output=wE.output→Calls Tryz.prog 98 #[.pointer (some ⟨r,0,none⟩),.int .i64 ((least:Int)+1)] W fun e w'=>e=Zn a3∧zb r w w':=fun W e1 e2 e3 e4=>(cb W e1 e2 e3 e4).mono fun e w' h=>⟨h.2.2,L.out.trans h.1⟩
         clear cb;go_wp2_with fail
         go_region_dies
         all_goals (go_wp2_with fail;refine (al _ (by rfl) (by rfl) (by rfl) (by rfl)).mono ?_;rintro e w4 ⟨rfl,am⟩;exact ⟨rfl,am,rfl⟩)
        ·have aM:=(zX F).1 _ _ _ _ av ad
         have bc:=ZD av;have aU:ak.length≤1099511627776:=by omega
         have aO:ak.length<Ze r wr:=by rw [aw];simp only [List.length_cons];omega
         have a9:f3≤F:=by omega
         have HT:Hid (zV f3 least (.mk 7 y.s 0 [e,x3] e.line) ak=some res):=H
         have al:∀W:World,W.heap=wE.heap→W.os=wE.os→W.tape=wE.tape→W.output=wE.output→Calls Tryz.prog 98 #[.pointer (some ⟨r,0,none⟩),.int .i64 ((least:Int)+1)] W fun e' w'=>∃(a3:Int) (b3:ByteArray) (c3:Int) (u0:Option Addr) (u1 u2:Nat) (l3:Int),e'=.returned (.agg #[.int .i64 a3,.string b3,.int .i64 c3,.slice u0 u1 u2,.int .i64 l3]) ∧
           w'.heap[N]?=some (.cells #[.int .i64 D,.string K,.int .i64 J,.slice G I E,.int .i64 (e.line:Int)] 90 (0,0))∧Hid (zb r wE w'∧zQ wE.heap.size w' x3 (.agg #[.int .i64 a3,.string b3,.int .i64 c3,.slice u0 u1 u2,.int .i64 l3])∧∃o cap,zc r g o cap ak w'):=fun W e1 e2 e3 e4=>(cb W e1 e2 e3 e4).mono fun e' w' h=>by
          obtain ⟨am,-,v,o4,aH,rfl,hx,U⟩:=h;obtain ⟨a3,b3,c3,u0,u1,u2,l3,rfl⟩:=hx.agg;exact ⟨a3,b3,c3,u0,u1,u2,l3,rfl,(am.block N aq (by omega)).trans aS.out,am,(by rw [←e1];exact hx:zQ wE.heap.size w' x3 _),o4,aH,U⟩
         clear cb H;go_wp2_with fail
         go_region_with (go_at_call 98;refine (al _ (by rfl) (by rfl) (by rfl) (by rfl)).mono ?_;rintro e' w7 ⟨a3,b3,c3,u0,u1,u2,l3,rfl,p7,H7⟩;have aX:N<w7.heap.size:=(Array.getElem?_eq_some_iff.1 p7).1;have aN:=(fun ob=>(Below.heap_alloc w7 ob N aX).trans p7);obtain ⟨m0,m1,m2,m3,m4,mf⟩:=zt p7;have a1:=ze m0;have a8:=ze m1;have a7:=ze m2;have bb:=ze m3;have aV:=ze m4;have aW:=(fun ob j=>(zt (aN ob)).2.2.2.2.2 j))
         all_goals
          obtain ⟨aJ,aL,o7,bg,ap⟩:=H7.out;obtain ⟨W,hW⟩:∃W,W=(set5 w7 N (.int .i64 7) (.string (za y.s)) (.int .i64 0) (.slice (some ⟨w7.heap.size,0,none⟩) 2 2) (.int .i64 (e.line:Int))).alloc (.cells #[.int .i64 D,.string K,.int .i64 J,.slice G I E,.int .i64 (e.line:Int),.int .i64 a3,.string b3,.int .i64 c3,.slice u0 u1 u2,.int .i64 l3] 90):=⟨_,rfl⟩;obtain ⟨hJ,ar⟩:=zJ.two (p:=fun f e ts=>zV f least e ts) 7 y.s hr aR aB aq ae.out T.out aP.out aJ p7 aG.out aL ap a9 HT.out aM aU (.int .i64 7) rfl W hW
          have bf:Hid (zJ r g N F w res (fun f e ts=>zV f least e ts) W∧Ze r W<Ze r wr):=show _∧_<_ from ⟨hJ,by rw [ar];exact aO⟩
          change Exit.inBlock _ _ _ _ ((set5 w7 N (.int .i64 7) (.string (za y.s)) (.int .i64 0) (.slice (some ⟨w7.heap.size,0,none⟩) 2 2) (.int .i64 (e.line:Int))).alloc (.cells #[.int .i64 D,.string K,.int .i64 J,.slice G I E,.int .i64 (e.line:Int),.int .i64 a3,.string b3,.int .i64 c3,.slice u0 u1 u2,.int .i64 l3] 90))
          rw [←hW];clear hW hJ ar ap aL aJ p7 aN m0 m1 m2 m3 m4 mf a1 a8 a7 bb aV aW n0 n1 n2 n3 n4 nf al H7 aS aG HT aP L ae T an bc aU aO aM ad a0;go_wp2
          exact bf.out
      ·have O:¬((lv:Int)=(least:Int)):=by omega
       have bh:((lv:Int)==(least:Int))=false:=by rw [beq_eq_false_iff_ne];exact O
       have bi:decide ((lv:Int)=(least:Int))=false:=by rw [decide_eq_false_iff_not];exact O
       have bj:decide (lv=least)=false:=by rw [decide_eq_false_iff_not];exact hlv
       have bk:(lv==least)=false:=by rw [beq_eq_false_iff_ne];exact hlv
       rw [if_neg (fun h=>hlv h.2)] at H
       simp only [Option.some.injEq] at H;subst H;obtain ⟨pN,pz,Z⟩:=V.out wC kC rC;obtain ⟨n0,n1,n2,n3,n4,nf⟩:=zt pN;obtain ⟨q0,q1,a6,q3,q4,qf⟩:=zt pz;obtain ⟨z0,z1,z2,z3,z4⟩:=zq pz (.int .i64 D) (.string K) (.int .i64 J) (.slice G I E) (.int .i64 (e.line:Int));have aA:Hid (zk r g w (.ok (e,y::z)) (.returned (.agg #[.int .i64 D,.string K,.int .i64 J,.slice G I E,.int .i64 (e.line:Int)])) (set5 wC w.heap.size (.int .i64 D) (.string K) (.int .i64 J) (.slice G I E) (.int .i64 (e.line:Int)))):=Z;clear V ae T aj an Z pN pz kC rC;go_wp2
       exact bodyPost_ret (v:=.agg #[.int .i64 D,.string K,.int .i64 J,.slice G I E,.int .i64 (e.line:Int)]) (by simp [results,Tryz.results98,go_sem,z0,z1,z2,z3,z4]) rfl aA.out
     ·have ba:¬(y.k:Int)=4:=by omega
      rw [if_neg (fun h=>h4 h.1)] at H
      simp only [Option.some.injEq] at H;subst H;obtain ⟨pN,pz,Z⟩:=V.out wA kA rA;obtain ⟨n0,n1,n2,n3,n4,nf⟩:=zt pN;obtain ⟨q0,q1,a6,q3,q4,qf⟩:=zt pz;obtain ⟨z0,z1,z2,z3,z4⟩:=zq pz (.int .i64 D) (.string K) (.int .i64 J) (.slice G I E) (.int .i64 (e.line:Int));have aA:Hid (zk r g w (.ok (e,y::z)) (.returned (.agg #[.int .i64 D,.string K,.int .i64 J,.slice G I E,.int .i64 (e.line:Int)])) (set5 wA w.heap.size (.int .i64 D) (.string K) (.int .i64 J) (.slice G I E) (.int .i64 (e.line:Int)))):=Z;clear V ae T aj an Z pN pz kA rA;go_wp2
      exact bodyPost_ret (v:=.agg #[.int .i64 D,.string K,.int .i64 J,.slice G I E,.int .i64 (e.line:Int)]) (by simp [results,Tryz.results98,go_sem,z0,z1,z2,z3,z4]) rfl aA.out
end Go.Proofs.YtmbofhpmockmbaaGreatDoor
