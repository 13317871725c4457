import Derived.Test.YtmbofhpmockmbaaGreatDoorMC32
import Derived.Deep.RegionWith
import Derived.Deep.CutRange
namespace Go.Proofs.YtmbofhpmockmbaaGreatDoor
open Go.RowKit Go.Shelf
set_option maxHeartbeats 16000000
set_option maxRecDepth 100000
theorem uz (r g o cap F least:Nat) (ts:List Tk) (w:World) (res:PR Ex) (h:zc r g o cap ts w) (hE:zk ts) (hN:ts.length≤1099511627776) (hlev:yc w) (hrl:r≠5) (hl:least≤6) (hp:zd (F+1) least ts=some res)
  (hbt:∀w1 o1 M ts1 r1,zd F (least+1) ts1=some r1→zk ts1→ts1.length≤1099511627776→zc r g o1 M ts1 w1→zb r w w1→Calls Tryz.prog 98 #[.pointer (some ⟨r,0,none⟩),.int .i64 ((least:Int)+1)] w1 (zl r g w1 r1)) :
  Calls Tryz.prog 98 #[.pointer (some ⟨r,0,none⟩),.int .i64 least] w (zl r g w res):=by
 obtain ⟨t0,aM,rfl⟩:=hE.cons;have hr:=h.lt.1;have aJ:=h.lt.2;rw [zd,if_neg (by omega)] at hp
 cases hb:zd F (least+1) (t0::aM) with
 | none=>rw [hb] at hp;cases hp
 | some r1 =>
  obtain ⟨w0,ak⟩:∃w0,w0=w.alloc zE:=⟨_,rfl⟩;have c1:=hbt w0 o cap (t0::aM) r1 hb hE hN (by rw [ak];exact h.alloc _) (by rw [ak];exact (zb.refl r w).alloc _)
  rw [hb] at hp;simp only [zp] at hp;have bo:¬(6:Int)<(least:Int):=by omega
  have ab:Hid (w0=w.alloc zE):=ak;have aL:Hid (∀w1 o1 M ts1 r1,zd F (least+1) ts1=some r1→zk ts1→ts1.length≤1099511627776→zc r g o1 M ts1 w1→zb r w w1→Calls Tryz.prog 98 #[.pointer (some ⟨r,0,none⟩),.int .i64 ((least:Int)+1)] w1 (zl r g w1 r1)):=hbt;clear ak hbt
  go_enter Tryz.func98,Tryz.ntmps98
  go_wp2_with fail
  rw [←ab.out];refine c1.mono ?_;clear c1;rintro e w1 ⟨aj,Y⟩;have aH:zb r w w1:=by have:=ab.out;subst this;exact ((zb.refl r w).alloc _).trans aj
  rcases r1 with a | ⟨x,us⟩
  ·obtain rfl:=Y
   simp only [Option.some.injEq] at hp;subst hp;exact ⟨rfl,aH,rfl⟩
  ·obtain ⟨v,o1,M,rfl,hx,U⟩:=Y
   obtain ⟨a,b,c,d0,d1,d2,l,rfl⟩:=hx.agg;have aR:=(Zd F).1 _ _ _ _ hb hE;have bf:=ZM hb;have hJ:=zP.start (p:=fun f e ts=>z7 f least e ts) (res:=res) ab.out hr aj hx U hp aR (by omega)
   have HJ:Hid (zP r g w1.heap.size F w res (fun f e ts=>z7 f least e ts) (w1.alloc (.cells #[.int .i64 a,.string b,.int .i64 c,.slice d0 d1 d2,.int .i64 l] 90))):=hJ
   have aC:w.heap.size<w1.heap.size:=by have:=aj.size;have h2:=ab.out;subst h2;simp at this;omega
   obtain ⟨N,aA⟩:∃N,N=w1.heap.size:=⟨_,rfl⟩;rw [←aA] at HJ aC;have be:Hid (yc w):=hlev;clear hJ hx U aj aR hp hb hE hN h bf aH hlev ab;go_wp2_with fail
   rw [←aA];generalize hW0:w1.alloc (.cells #[.int .i64 a,.string b,.int .i64 c,.slice d0 d1 d2,.int .i64 l] 90)=W0 at *;clear hW0 aA
   go_loopw [6] (fun _ wr=>zP r g N F w res (fun f e ts=>z7 f least e ts) wr) (fun _ wr=>Zm r wr)
   case atStart=>exact HJ.out
   case round =>
    obtain ⟨e,bm,o2,A,f2,I,H,G,K,E,D,l2,bl,J,ax,a4,R,ah,O,V,ao⟩:=hrel;obtain ⟨z,y,rfl⟩:=ax.cons;obtain rfl:l2=(e.line:Int):=ah.line_eq;clear HJ;have ch:=Zk r g o2 A z y wr O;have av:=O.left
    have aa:Hid (∀W,zb r wr W→zc r g o2 A (z::y) W→W.heap[N]?=some (.cells #[.int .i64 I,.string H,.int .i64 G,.slice K E D,.int .i64 (e.line:Int)] 90 (0,0))∧W.heap[w.heap.size]?=some zE ∧
     zl r g w (.ok (e,z::y)) (.returned (.agg #[.int .i64 I,.string H,.int .i64 G,.slice K E D,.int .i64 (e.line:Int)])) (set5 W w.heap.size (.int .i64 I) (.string H) (.int .i64 G) (.slice K E D) (.int .i64 (e.line:Int)))) :=
     fun W hK U=>zP.leave hr aJ aC V R ao ah hK U
    have ap:Hid (∀W,zb r wr W→W.heap[N]?=some (.cells #[.int .i64 I,.string H,.int .i64 G,.slice K E D,.int .i64 (e.line:Int)] 90 (0,0))∧W.heap[w.heap.size]?=some zE) :=
     fun W hK=>⟨(hK.block _ (Array.getElem?_eq_some_iff.1 R).1 (by omega)).trans R,(hK.block _ (Array.getElem?_eq_some_iff.1 ao).1 (by omega)).trans ao⟩
    have ai:Hid (zC (fun k=>w.heap.size<k∧k≠N) wr e (.agg #[.int .i64 I,.string H,.int .i64 G,.slice K E D,.int .i64 (e.line:Int)])):=ah
    have T:Hid (zb r w wr):=V;have ad:Hid (zc r g o2 A (z::y) wr):=O;have am:Hid (zk (z::y)):=ax;have bn:r<wr.heap.size∧g<wr.heap.size:=⟨by have:=V.size;omega,by have:=V.size;omega⟩
    cases f2 with
    | zero=>simp [z7] at J
    | succ f3 =>
     simp only [z7,zH,List.tail_cons] at J;clear ah V O ax R ao;go_wp2_with fail
     refine ch.mono ?_;clear ch;rintro e w' ⟨rfl,rfl⟩;simp only [xT];have kA:zb r wr (wr.alloc (zJ z)):=(zb.refl r wr).alloc _;have rA:=ad.out.alloc (zJ z);generalize wr.alloc (zJ z)=wA at *;have a8:=xC;have aV:=Vk
     by_cases h4:z.k=4
     ·have a9:(z.k:Int)=4:=by omega
      have cB:=Zk r g o2 A z y wA rA;have kB:zb r wr (wA.alloc (zJ z)):=kA.alloc _;have rB:=rA.alloc (zJ z);have aB:Hid (zb r wr (wA.alloc (zJ z))):=kB;have Z:Hid (zc r g o2 A (z::y) (wA.alloc (zJ z))):=rB;have lB:=(be.out.kept T.out hrl).kept kB hrl;have cL:=Vs z.s (wA.alloc (zJ z)) lB;clear kA rA kB rB lB;go_wp2_with fail
      refine cB.mono ?_;clear cB;rintro e w' ⟨rfl,rfl⟩;simp only [xT];obtain ⟨wB,aO⟩:∃wB,wB=wA.alloc (zJ z):=⟨_,rfl⟩;rw [←aO] at aB Z cL ⊢;clear aO;go_wp2_with fail
      refine cL.mono ?_;clear cL;rintro e wC ⟨rfl,ae⟩;have kC:zb r wr wC:=aB.out.trans (zb.of ae);have rC:zc r g o2 A (z::y) wC:=Z.out.keep (ae.block _ Z.out.lt.1) (ae.block _ Z.out.lt.2);clear ae aB Z wB;generalize levelOf z.s=lv at *
      by_cases hlv:lv=least
      ·have Q:least=lv:=hlv.symm
       subst Q;rw [if_pos ⟨h4,rfl⟩] at J;have an:=am.out.tail (by omega:z.k≠0)
       have cD:=Zk r g o2 A z y wC rC;have kD:zb r wr (wC.alloc (zJ z)):=kC.alloc _;have rD:=rC.alloc (zJ z);have cE:=YN r g o2 A z y (wC.alloc (zJ z)) rD an.ne;have aK:Hid (zb r wr (wC.alloc (zJ z))):=kD;have aU:Hid (zc r g o2 A (z::y) (wC.alloc (zJ z))):=rD;clear kC rC kD rD;go_wp2_with fail
       refine cD.mono ?_;clear cD;rintro e w' ⟨rfl,rfl⟩;simp only [xT];go_wp2_with fail
       refine cE.mono ?_;clear cE;rintro e wE ⟨rfl,aw⟩;have kE:zb r wr wE:=by rw [aw];exact aK.out.setCell 0 _
       have rE:zc r g (o2+5) (A-1) y wE:=by rw [aw];exact aU.out.next
       obtain ⟨pN,pz⟩:=ap.out wE kE;clear aw aK aU ad aa a8 aV;have aS:Hid (zb r wr wE):=kE;have L:Hid (zb r w wE):=T.out.trans kE;have au:N<wE.heap.size:=(Array.getElem?_eq_some_iff.1 pN).1;have a0:y.length≤1099511627776:=by simp only [List.length_cons] at a4;omega
       cases hb3:zd f3 (least+1) y with
       | none=>rw [hb3] at J;cases J
       | some r3 =>
        rw [hb3] at J;simp only [zp] at J
        have ay:zd F (least+1) y=some r3:=by
         have:=Z2 (k:=F-f3) hb3
         rwa [show f3+(F-f3)=F by omega] at this
        have cb:∀W:World,W.heap=wE.heap→W.os=wE.os→W.tape=wE.tape→W.output=wE.output→Calls Tryz.prog 98 #[.pointer (some ⟨r,0,none⟩),.int .i64 ((least:Int)+1)] W fun e w'=>zb r wE w'∧zl r g W r3 e w':=fun W e1 e2 e3 e4 =>
         (aL.out W _ _ y r3 ay an a0 (rE.keep (by rw [e1]) (by rw [e1])) ⟨e2.trans L.out.os,e3.trans L.out.tape,e4.trans L.out.output,by rw [e1];exact L.out.size,fun k hk hr=>by rw [e1];exact L.out.block k hk hr⟩).mono fun e w' h =>
          ⟨⟨h.1.os.trans e2,h.1.tape.trans e3,h.1.output.trans e4,by rw [←e1];exact h.1.size,fun k hk hr=>by rw [←e1];exact h.1.block k (by rw [e1];exact hk) hr⟩,h⟩
        obtain ⟨n0,n1,n2,n3,n4,nf⟩:=zv pN;have aG:Hid (wE.heap[N]?=some (.cells #[.int .i64 I,.string H,.int .i64 G,.slice K E D,.int .i64 (e.line:Int)] 90 (0,0))):=pN;have aN:Hid (wE.heap[w.heap.size]?=some zE):=pz;clear pN pz rE kE aL ap;have a1:IntKind.i64.wrap ((least:Int)+1)=(least:Int)+1:=by rw [IntKind.wrap_i64];omega
        rcases r3 with a3 | ⟨x3,af⟩
        ·simp only [Option.some.injEq] at J
         subst J;have ag:∀W:World,W.heap=wE.heap→W.os=wE.os→W.tape=wE.tape→W.output=wE.output→Calls Tryz.prog 98 #[.pointer (some ⟨r,0,none⟩),.int .i64 ((least:Int)+1)] W fun e w'=>e=Zv a3∧zb r w w':=fun W e1 e2 e3 e4=>(cb W e1 e2 e3 e4).mono fun e w' h=>⟨h.2.2,L.out.trans h.1⟩
         clear cb;go_wp2_with fail
         go_region_dies
         all_goals (go_wp2_with fail;refine (ag _ (by rfl) (by rfl) (by rfl) (by rfl)).mono ?_;rintro e w4 ⟨rfl,al⟩;exact ⟨rfl,al,rfl⟩)
        ·have aQ:=(Zd F).1 _ _ _ _ ay an
         have bd:=ZM ay;have aF:af.length≤1099511627776:=by omega
         have aE:af.length<Zm r wr:=by rw [av];simp only [List.length_cons];omega
         have bb:f3≤F:=by omega
         have HT:Hid (z7 f3 least (.mk 7 z.s 0 [e,x3] e.line) af=some res):=J
         have ag:∀W:World,W.heap=wE.heap→W.os=wE.os→W.tape=wE.tape→W.output=wE.output→Calls Tryz.prog 98 #[.pointer (some ⟨r,0,none⟩),.int .i64 ((least:Int)+1)] W fun e' w'=>∃(a3:Int) (b3:ByteArray) (c3:Int) (u0:Option Addr) (u1 u2:Nat) (l3:Int),e'=.returned (.agg #[.int .i64 a3,.string b3,.int .i64 c3,.slice u0 u1 u2,.int .i64 l3]) ∧
           w'.heap[N]?=some (.cells #[.int .i64 I,.string H,.int .i64 G,.slice K E D,.int .i64 (e.line:Int)] 90 (0,0))∧Hid (zb r wE w'∧zX wE.heap.size w' x3 (.agg #[.int .i64 a3,.string b3,.int .i64 c3,.slice u0 u1 u2,.int .i64 l3])∧∃o cap,zc r g o cap af w'):=fun W e1 e2 e3 e4=>(cb W e1 e2 e3 e4).mono fun e' w' h=>by
          obtain ⟨al,-,v,o4,aI,rfl,hx,U⟩:=h;obtain ⟨a3,b3,c3,u0,u1,u2,l3,rfl⟩:=hx.agg;exact ⟨a3,b3,c3,u0,u1,u2,l3,rfl,(al.block N au (by omega)).trans aG.out,al,(by rw [←e1];exact hx:zX wE.heap.size w' x3 _),o4,aI,U⟩
         clear cb J;go_wp2_with fail
         go_region_with (go_at_call 98;refine (ag _ (by rfl) (by rfl) (by rfl) (by rfl)).mono ?_;rintro e' w7 ⟨a3,b3,c3,u0,u1,u2,l3,rfl,p7,H7⟩;have aW:N<w7.heap.size:=(Array.getElem?_eq_some_iff.1 p7).1;have aD:=(fun ob=>(Below.heap_alloc w7 ob N aW).trans p7);obtain ⟨m0,m1,m2,m3,m4,mf⟩:=zv p7;have a7:=zg m0;have a6:=zg m1;have a5:=zg m2;have ba:=zg m3;have aY:=zg m4;have aX:=(fun ob j=>(zv (aD ob)).2.2.2.2.2 j))
         all_goals
          obtain ⟨aT,aP,o7,bk,aq⟩:=H7.out;obtain ⟨W,hW⟩:∃W,W=(set5 w7 N (.int .i64 7) (.string (za z.s)) (.int .i64 0) (.slice (some ⟨w7.heap.size,0,none⟩) 2 2) (.int .i64 (e.line:Int))).alloc (.cells #[.int .i64 I,.string H,.int .i64 G,.slice K E D,.int .i64 (e.line:Int),.int .i64 a3,.string b3,.int .i64 c3,.slice u0 u1 u2,.int .i64 l3] 90):=⟨_,rfl⟩;obtain ⟨hJ,ar⟩:=zP.two (p:=fun f e ts=>z7 f least e ts) 7 z.s hr aJ aC au ai.out T.out aS.out aT p7 aN.out aP aq bb HT.out aQ aF (.int .i64 7) rfl W hW
          have aZ:Hid (zP r g N F w res (fun f e ts=>z7 f least e ts) W∧Zm r W<Zm r wr):=show _∧_<_ from ⟨hJ,by rw [ar];exact aE⟩
          change Exit.inBlock _ _ _ _ ((set5 w7 N (.int .i64 7) (.string (za z.s)) (.int .i64 0) (.slice (some ⟨w7.heap.size,0,none⟩) 2 2) (.int .i64 (e.line:Int))).alloc (.cells #[.int .i64 I,.string H,.int .i64 G,.slice K E D,.int .i64 (e.line:Int),.int .i64 a3,.string b3,.int .i64 c3,.slice u0 u1 u2,.int .i64 l3] 90))
          rw [←hW];clear hW hJ ar aq aP aT p7 aD m0 m1 m2 m3 m4 mf a7 a6 a5 ba aY aX n0 n1 n2 n3 n4 nf ag H7 aG aN HT aS L ai T am bd aF aE aQ an a1;go_wp2
          exact aZ.out
      ·have Q:¬((lv:Int)=(least:Int)):=by omega
       have bi:((lv:Int)==(least:Int))=false:=by rw [beq_eq_false_iff_ne];exact Q
       have bg:decide ((lv:Int)=(least:Int))=false:=by rw [decide_eq_false_iff_not];exact Q
       have bh:decide (lv=least)=false:=by rw [decide_eq_false_iff_not];exact hlv
       have bj:(lv==least)=false:=by rw [beq_eq_false_iff_ne];exact hlv
       rw [if_neg (fun h=>hlv h.2)] at J
       simp only [Option.some.injEq] at J;subst J;obtain ⟨pN,pz,X⟩:=aa.out wC kC rC;obtain ⟨n0,n1,n2,n3,n4,nf⟩:=zv pN;obtain ⟨q0,q1,bc,q3,q4,qf⟩:=zv pz;obtain ⟨z0,z1,z2,z3,z4⟩:=zr pz (.int .i64 I) (.string H) (.int .i64 G) (.slice K E D) (.int .i64 (e.line:Int));have az:Hid (zl r g w (.ok (e,z::y)) (.returned (.agg #[.int .i64 I,.string H,.int .i64 G,.slice K E D,.int .i64 (e.line:Int)])) (set5 wC w.heap.size (.int .i64 I) (.string H) (.int .i64 G) (.slice K E D) (.int .i64 (e.line:Int)))):=X;clear aa ai T ad am X pN pz kC rC;go_wp2
       exact bodyPost_ret (v:=.agg #[.int .i64 I,.string H,.int .i64 G,.slice K E D,.int .i64 (e.line:Int)]) (by simp [results,Tryz.results98,go_sem,z0,z1,z2,z3,z4]) rfl az.out
     ·have a9:¬(z.k:Int)=4:=by omega
      rw [if_neg (fun h=>h4 h.1)] at J
      simp only [Option.some.injEq] at J;subst J;obtain ⟨pN,pz,X⟩:=aa.out wA kA rA;obtain ⟨n0,n1,n2,n3,n4,nf⟩:=zv pN;obtain ⟨q0,q1,bc,q3,q4,qf⟩:=zv pz;obtain ⟨z0,z1,z2,z3,z4⟩:=zr pz (.int .i64 I) (.string H) (.int .i64 G) (.slice K E D) (.int .i64 (e.line:Int));have az:Hid (zl r g w (.ok (e,z::y)) (.returned (.agg #[.int .i64 I,.string H,.int .i64 G,.slice K E D,.int .i64 (e.line:Int)])) (set5 wA w.heap.size (.int .i64 I) (.string H) (.int .i64 G) (.slice K E D) (.int .i64 (e.line:Int)))):=X;clear aa ai T ad am X pN pz kA rA;go_wp2
      exact bodyPost_ret (v:=.agg #[.int .i64 I,.string H,.int .i64 G,.slice K E D,.int .i64 (e.line:Int)]) (by simp [results,Tryz.results98,go_sem,z0,z1,z2,z3,z4]) rfl az.out
end Go.Proofs.YtmbofhpmockmbaaGreatDoor
