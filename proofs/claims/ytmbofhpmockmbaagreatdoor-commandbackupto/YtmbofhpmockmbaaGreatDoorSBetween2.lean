import Derived.Test.YtmbofhpmockmbaaGreatDoorMC27
import Derived.Deep.RegionWith
import Derived.Deep.CutRange
namespace Go.Proofs.YtmbofhpmockmbaaGreatDoor
open Go.RowKit Go.Shelf
set_option maxHeartbeats 16000000
set_option maxRecDepth 100000
theorem vu (r g o cap F least:Nat) (ts:List Tk) (w:World) (res:PR Ex) (h:zc r g o cap ts w) (hE:zh ts) (hN:ts.length≤1099511627776) (hlev:ZL w) (hrl:r≠5) (hl:least≤6) (hp:zd (F+1) least ts=some res)
  (hbt:∀w1 o1 M ts1 r1,zd F (least+1) ts1=some r1→zh ts1→ts1.length≤1099511627776→zc r g o1 M ts1 w1→zb r w w1→Calls Tryz.prog 98 #[.pointer (some ⟨r,0,none⟩),.int .i64 ((least:Int)+1)] w1 (zi r g w1 r1)) :
  Calls Tryz.prog 98 #[.pointer (some ⟨r,0,none⟩),.int .i64 least] w (zi r g w res):=by
 obtain ⟨t0,aD,rfl⟩:=hE.cons;have hr:=h.lt.1;have aO:=h.lt.2;rw [zd,if_neg (by omega)] at hp
 cases hb:zd F (least+1) (t0::aD) with
 | none=>rw [hb] at hp;cases hp
 | some r1 =>
  obtain ⟨w0,aj⟩:∃w0,w0=w.alloc zA:=⟨_,rfl⟩;have c1:=hbt w0 o cap (t0::aD) r1 hb hE hN (by rw [aj];exact h.alloc _) (by rw [aj];exact (zb.refl r w).alloc _)
  rw [hb] at hp;simp only [zm] at hp;have bk:¬(6:Int)<(least:Int):=by omega
  have Y:Hid (w0=w.alloc zA):=aj;have aR:Hid (∀w1 o1 M ts1 r1,zd F (least+1) ts1=some r1→zh ts1→ts1.length≤1099511627776→zc r g o1 M ts1 w1→zb r w w1→Calls Tryz.prog 98 #[.pointer (some ⟨r,0,none⟩),.int .i64 ((least:Int)+1)] w1 (zi r g w1 r1)):=hbt;clear aj hbt
  go_enter Tryz.func98,Tryz.ntmps98
  go_wp2_with fail
  rw [←Y.out];refine c1.mono ?_;clear c1;rintro e w1 ⟨ag,aa⟩;have aT:zb r w w1:=by have:=Y.out;subst this;exact ((zb.refl r w).alloc _).trans ag
  rcases r1 with a | ⟨x,us⟩
  ·obtain rfl:=aa
   simp only [Option.some.injEq] at hp;subst hp;exact ⟨rfl,aT,rfl⟩
  ·obtain ⟨v,o1,M,rfl,hx,T⟩:=aa
   obtain ⟨a,b,c,d0,d1,d2,l,rfl⟩:=hx.agg;have aG:=(zR F).1 _ _ _ _ hb hE;have aX:=Zp hb;have hJ:=zG.start (p:=fun f e ts=>zP f least e ts) (res:=res) Y.out hr ag hx T hp aG (by omega)
   have HJ:Hid (zG r g w1.heap.size F w res (fun f e ts=>zP f least e ts) (w1.alloc (.cells #[.int .i64 a,.string b,.int .i64 c,.slice d0 d1 d2,.int .i64 l] 90))):=hJ
   have ax:w.heap.size<w1.heap.size:=by have:=ag.size;have h2:=Y.out;subst h2;simp at this;omega
   obtain ⟨N,aB⟩:∃N,N=w1.heap.size:=⟨_,rfl⟩;rw [←aB] at HJ ax;have bb:Hid (ZL w):=hlev;clear hJ hx T ag aG hp hb hE hN h aX aT hlev Y;go_wp2_with fail
   rw [←aB];generalize hW0:w1.alloc (.cells #[.int .i64 a,.string b,.int .i64 c,.slice d0 d1 d2,.int .i64 l] 90)=W0 at *;clear hW0 aB
   go_loopw [6] (fun _ wr=>zG r g N F w res (fun f e ts=>zP f least e ts) wr) (fun _ wr=>z6 r wr)
   case atStart=>exact HJ.out
   case round =>
    obtain ⟨e,bn,o2,A,f2,J,G,H,K,I,D,l2,bm,E,au,a7,R,am,O,V,ai⟩:=hrel;obtain ⟨z,y,rfl⟩:=au.cons;obtain rfl:l2=(e.line:Int):=am.line_eq;clear HJ;have ch:=zZ r g o2 A z y wr O;have aA:=O.left
    have Z:Hid (∀W,zb r wr W→zc r g o2 A (z::y) W→W.heap[N]?=some (.cells #[.int .i64 J,.string G,.int .i64 H,.slice K I D,.int .i64 (e.line:Int)] 90 (0,0))∧W.heap[w.heap.size]?=some zA ∧
     zi r g w (.ok (e,z::y)) (.returned (.agg #[.int .i64 J,.string G,.int .i64 H,.slice K I D,.int .i64 (e.line:Int)])) (set5 W w.heap.size (.int .i64 J) (.string G) (.int .i64 H) (.slice K I D) (.int .i64 (e.line:Int)))) :=
     fun W hK T=>zG.leave hr aO ax V R ai am hK T
    have aq:Hid (∀W,zb r wr W→W.heap[N]?=some (.cells #[.int .i64 J,.string G,.int .i64 H,.slice K I D,.int .i64 (e.line:Int)] 90 (0,0))∧W.heap[w.heap.size]?=some zA) :=
     fun W hK=>⟨(hK.block _ (Array.getElem?_eq_some_iff.1 R).1 (by omega)).trans R,(hK.block _ (Array.getElem?_eq_some_iff.1 ai).1 (by omega)).trans ai⟩
    have ae:Hid (zy (fun k=>w.heap.size<k∧k≠N) wr e (.agg #[.int .i64 J,.string G,.int .i64 H,.slice K I D,.int .i64 (e.line:Int)])):=am
    have S:Hid (zb r w wr):=V;have an:Hid (zc r g o2 A (z::y) wr):=O;have ah:Hid (zh (z::y)):=au;have bl:r<wr.heap.size∧g<wr.heap.size:=⟨by have:=V.size;omega,by have:=V.size;omega⟩
    cases f2 with
    | zero=>simp [zP] at E
    | succ f3 =>
     simp only [zP,zD,List.tail_cons] at E;clear am V O au R ai;go_wp2_with fail
     refine ch.mono ?_;clear ch;rintro e w' ⟨rfl,rfl⟩;simp only [YA];have kA:zb r wr (wr.alloc (zE z)):=(zb.refl r wr).alloc _;have rA:=an.out.alloc (zE z);generalize wr.alloc (zE z)=wA at *;have a6:=Yn;have aZ:=Xn
     by_cases h4:z.k=4
     ·have aY:(z.k:Int)=4:=by omega
      have cB:=zZ r g o2 A z y wA rA;have kB:zb r wr (wA.alloc (zE z)):=kA.alloc _;have rB:=rA.alloc (zE z);have az:Hid (zb r wr (wA.alloc (zE z))):=kB;have U:Hid (zc r g o2 A (z::y) (wA.alloc (zE z))):=rB;have lB:=(bb.out.kept S.out hrl).kept kB hrl;have cL:=Xq z.s (wA.alloc (zE z)) lB;clear kA rA kB rB lB;go_wp2_with fail
      refine cB.mono ?_;clear cB;rintro e w' ⟨rfl,rfl⟩;simp only [YA];obtain ⟨wB,aL⟩:∃wB,wB=wA.alloc (zE z):=⟨_,rfl⟩;rw [←aL] at az U cL ⊢;clear aL;go_wp2_with fail
      refine cL.mono ?_;clear cL;rintro e wC ⟨rfl,af⟩;have kC:zb r wr wC:=az.out.trans (zb.of af);have rC:zc r g o2 A (z::y) wC:=U.out.keep (af.block _ U.out.lt.1) (af.block _ U.out.lt.2);clear af az U wB;generalize levelOf z.s=lv at *
      by_cases hlv:lv=least
      ·have Q:least=lv:=hlv.symm
       subst Q;rw [if_pos ⟨h4,rfl⟩] at E;have ak:=ah.out.tail (by omega:z.k≠0)
       have cD:=zZ r g o2 A z y wC rC;have kD:zb r wr (wC.alloc (zE z)):=kC.alloc _;have rD:=rC.alloc (zE z);have cE:=yO r g o2 A z y (wC.alloc (zE z)) rD ak.ne;have aM:Hid (zb r wr (wC.alloc (zE z))):=kD;have aJ:Hid (zc r g o2 A (z::y) (wC.alloc (zE z))):=rD;clear kC rC kD rD;go_wp2_with fail
       refine cD.mono ?_;clear cD;rintro e w' ⟨rfl,rfl⟩;simp only [YA];go_wp2_with fail
       refine cE.mono ?_;clear cE;rintro e wE ⟨rfl,aw⟩;have kE:zb r wr wE:=by rw [aw];exact aM.out.setCell 0 _
       have rE:zc r g (o2+5) (A-1) y wE:=by rw [aw];exact aJ.out.next
       obtain ⟨pN,pz⟩:=aq.out wE kE;clear aw aM aJ an Z a6 aZ;have aK:Hid (zb r wr wE):=kE;have L:Hid (zb r w wE):=S.out.trans kE;have ao:N<wE.heap.size:=(Array.getElem?_eq_some_iff.1 pN).1;have aV:y.length≤1099511627776:=by simp only [List.length_cons] at a7;omega
       cases hb3:zd f3 (least+1) y with
       | none=>rw [hb3] at E;cases E
       | some r3 =>
        rw [hb3] at E;simp only [zm] at E
        have ay:zd F (least+1) y=some r3:=by
         have:=ZC (k:=F-f3) hb3
         rwa [show f3+(F-f3)=F by omega] at this
        have cb:∀W:World,W.heap=wE.heap→W.os=wE.os→W.tape=wE.tape→W.output=wE.output→Calls Tryz.prog 98 #[.pointer (some ⟨r,0,none⟩),.int .i64 ((least:Int)+1)] W fun e w'=>zb r wE w'∧zi r g W r3 e w':=fun W e1 e2 e3 e4 =>
         (aR.out W _ _ y r3 ay ak aV (rE.keep (by rw [e1]) (by rw [e1])) ⟨e2.trans L.out.os,e3.trans L.out.tape,e4.trans L.out.output,by rw [e1];exact L.out.size,fun k hk hr=>by rw [e1];exact L.out.block k hk hr⟩).mono fun e w' h =>
          ⟨⟨h.1.os.trans e2,h.1.tape.trans e3,h.1.output.trans e4,by rw [←e1];exact h.1.size,fun k hk hr=>by rw [←e1];exact h.1.block k (by rw [e1];exact hk) hr⟩,h⟩
        obtain ⟨n0,n1,n2,n3,n4,nf⟩:=zr pN;have aP:Hid (wE.heap[N]?=some (.cells #[.int .i64 J,.string G,.int .i64 H,.slice K I D,.int .i64 (e.line:Int)] 90 (0,0))):=pN;have aN:Hid (wE.heap[w.heap.size]?=some zA):=pz;clear pN pz rE kE aR aq;have aW:IntKind.i64.wrap ((least:Int)+1)=(least:Int)+1:=by rw [IntKind.wrap_i64];omega
        rcases r3 with a3 | ⟨x3,al⟩
        ·simp only [Option.some.injEq] at E
         subst E;have ad:∀W:World,W.heap=wE.heap→W.os=wE.os→W.tape=wE.tape→W.output=wE.output→Calls Tryz.prog 98 #[.pointer (some ⟨r,0,none⟩),.int .i64 ((least:Int)+1)] W fun e w'=>e=Ze a3∧zb r w w':=fun W e1 e2 e3 e4=>(cb W e1 e2 e3 e4).mono fun e w' h=>⟨h.2.2,L.out.trans h.1⟩
         clear cb;go_wp2_with fail
         go_region_dies
         all_goals (go_wp2_with fail;refine (ad _ (by rfl) (by rfl) (by rfl) (by rfl)).mono ?_;rintro e w4 ⟨rfl,ab⟩;exact ⟨rfl,ab,rfl⟩)
        ·have aQ:=(zR F).1 _ _ _ _ ay ak
         have a0:=Zp ay;have aC:al.length≤1099511627776:=by omega
         have aH:al.length<z6 r wr:=by rw [aA];simp only [List.length_cons];omega
         have be:f3≤F:=by omega
         have HT:Hid (zP f3 least (.mk 7 z.s 0 [e,x3] e.line) al=some res):=E
         have ad:∀W:World,W.heap=wE.heap→W.os=wE.os→W.tape=wE.tape→W.output=wE.output→Calls Tryz.prog 98 #[.pointer (some ⟨r,0,none⟩),.int .i64 ((least:Int)+1)] W fun e' w'=>∃(a3:Int) (b3:ByteArray) (c3:Int) (u0:Option Addr) (u1 u2:Nat) (l3:Int),e'=.returned (.agg #[.int .i64 a3,.string b3,.int .i64 c3,.slice u0 u1 u2,.int .i64 l3]) ∧
           w'.heap[N]?=some (.cells #[.int .i64 J,.string G,.int .i64 H,.slice K I D,.int .i64 (e.line:Int)] 90 (0,0))∧Hid (zb r wE w'∧zM wE.heap.size w' x3 (.agg #[.int .i64 a3,.string b3,.int .i64 c3,.slice u0 u1 u2,.int .i64 l3])∧∃o cap,zc r g o cap al w'):=fun W e1 e2 e3 e4=>(cb W e1 e2 e3 e4).mono fun e' w' h=>by
          obtain ⟨ab,-,v,o4,aF,rfl,hx,T⟩:=h;obtain ⟨a3,b3,c3,u0,u1,u2,l3,rfl⟩:=hx.agg;exact ⟨a3,b3,c3,u0,u1,u2,l3,rfl,(ab.block N ao (by omega)).trans aP.out,ab,(by rw [←e1];exact hx:zM wE.heap.size w' x3 _),o4,aF,T⟩
         clear cb E;go_wp2_with fail
         go_region_with (go_at_call 98;refine (ad _ (by rfl) (by rfl) (by rfl) (by rfl)).mono ?_;rintro e' w7 ⟨a3,b3,c3,u0,u1,u2,l3,rfl,p7,H7⟩;have aU:N<w7.heap.size:=(Array.getElem?_eq_some_iff.1 p7).1;have aI:=(fun ob=>(Below.heap_alloc w7 ob N aU).trans p7);obtain ⟨m0,m1,m2,m3,m4,mf⟩:=zr p7;have a5:=ze m0;have a8:=ze m1;have bc:=ze m2;have a1:=ze m3;have a9:=ze m4;have ba:=(fun ob j=>(zr (aI ob)).2.2.2.2.2 j))
         all_goals
          obtain ⟨aE,aS,o7,bi,ar⟩:=H7.out;obtain ⟨W,hW⟩:∃W,W=(set5 w7 N (.int .i64 7) (.string (za z.s)) (.int .i64 0) (.slice (some ⟨w7.heap.size,0,none⟩) 2 2) (.int .i64 (e.line:Int))).alloc (.cells #[.int .i64 J,.string G,.int .i64 H,.slice K I D,.int .i64 (e.line:Int),.int .i64 a3,.string b3,.int .i64 c3,.slice u0 u1 u2,.int .i64 l3] 90):=⟨_,rfl⟩;obtain ⟨hJ,ap⟩:=zG.two (p:=fun f e ts=>zP f least e ts) 7 z.s hr aO ax ao ae.out S.out aK.out aE p7 aN.out aS ar be HT.out aQ aC (.int .i64 7) rfl W hW
          have bd:Hid (zG r g N F w res (fun f e ts=>zP f least e ts) W∧z6 r W<z6 r wr):=show _∧_<_ from ⟨hJ,by rw [ap];exact aH⟩
          change Exit.inBlock _ _ _ _ ((set5 w7 N (.int .i64 7) (.string (za z.s)) (.int .i64 0) (.slice (some ⟨w7.heap.size,0,none⟩) 2 2) (.int .i64 (e.line:Int))).alloc (.cells #[.int .i64 J,.string G,.int .i64 H,.slice K I D,.int .i64 (e.line:Int),.int .i64 a3,.string b3,.int .i64 c3,.slice u0 u1 u2,.int .i64 l3] 90))
          rw [←hW];clear hW hJ ap ar aS aE p7 aI m0 m1 m2 m3 m4 mf a5 a8 bc a1 a9 ba n0 n1 n2 n3 n4 nf ad H7 aP aN HT aK L ae S ah a0 aC aH aQ ak aW;go_wp2
          exact bd.out
      ·have Q:¬((lv:Int)=(least:Int)):=by omega
       have bj:((lv:Int)==(least:Int))=false:=by rw [beq_eq_false_iff_ne];exact Q
       have bh:decide ((lv:Int)=(least:Int))=false:=by rw [decide_eq_false_iff_not];exact Q
       have bf:decide (lv=least)=false:=by rw [decide_eq_false_iff_not];exact hlv
       have bg:(lv==least)=false:=by rw [beq_eq_false_iff_ne];exact hlv
       rw [if_neg (fun h=>hlv h.2)] at E
       simp only [Option.some.injEq] at E;subst E;obtain ⟨pN,pz,X⟩:=Z.out wC kC rC;obtain ⟨n0,n1,n2,n3,n4,nf⟩:=zr pN;obtain ⟨q0,q1,a4,q3,q4,qf⟩:=zr pz;obtain ⟨z0,z1,z2,z3,z4⟩:=zo pz (.int .i64 J) (.string G) (.int .i64 H) (.slice K I D) (.int .i64 (e.line:Int));have av:Hid (zi r g w (.ok (e,z::y)) (.returned (.agg #[.int .i64 J,.string G,.int .i64 H,.slice K I D,.int .i64 (e.line:Int)])) (set5 wC w.heap.size (.int .i64 J) (.string G) (.int .i64 H) (.slice K I D) (.int .i64 (e.line:Int)))):=X;clear Z ae S an ah X pN pz kC rC;go_wp2
       exact bodyPost_ret (v:=.agg #[.int .i64 J,.string G,.int .i64 H,.slice K I D,.int .i64 (e.line:Int)]) (by simp [results,Tryz.results98,go_sem,z0,z1,z2,z3,z4]) rfl av.out
     ·have aY:¬(z.k:Int)=4:=by omega
      rw [if_neg (fun h=>h4 h.1)] at E
      simp only [Option.some.injEq] at E;subst E;obtain ⟨pN,pz,X⟩:=Z.out wA kA rA;obtain ⟨n0,n1,n2,n3,n4,nf⟩:=zr pN;obtain ⟨q0,q1,a4,q3,q4,qf⟩:=zr pz;obtain ⟨z0,z1,z2,z3,z4⟩:=zo pz (.int .i64 J) (.string G) (.int .i64 H) (.slice K I D) (.int .i64 (e.line:Int));have av:Hid (zi r g w (.ok (e,z::y)) (.returned (.agg #[.int .i64 J,.string G,.int .i64 H,.slice K I D,.int .i64 (e.line:Int)])) (set5 wA w.heap.size (.int .i64 J) (.string G) (.int .i64 H) (.slice K I D) (.int .i64 (e.line:Int)))):=X;clear Z ae S an ah X pN pz kA rA;go_wp2
      exact bodyPost_ret (v:=.agg #[.int .i64 J,.string G,.int .i64 H,.slice K I D,.int .i64 (e.line:Int)]) (by simp [results,Tryz.results98,go_sem,z0,z1,z2,z3,z4]) rfl av.out
end Go.Proofs.YtmbofhpmockmbaaGreatDoor
