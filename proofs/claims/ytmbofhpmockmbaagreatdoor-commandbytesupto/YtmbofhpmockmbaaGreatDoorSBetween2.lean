import Derived.Test.YtmbofhpmockmbaaGreatDoorMC28
import Derived.Deep.RegionWith
import Derived.Deep.CutRange
namespace Go.Proofs.YtmbofhpmockmbaaGreatDoor
open Go.RowKit Go.Shelf
set_option maxHeartbeats 16000000
set_option maxRecDepth 100000
theorem VU (r g o cap F least:Nat) (ts:List Tk) (w:World) (res:PR Ex) (h:zc r g o cap ts w) (hE:zj ts) (hN:ts.length≤1099511627776) (hlev:Z2 w) (hrl:r≠5) (hl:least≤6) (hp:zd (F+1) least ts=some res)
  (hbt:∀w1 o1 Q ts1 r1,zd F (least+1) ts1=some r1→zj ts1→ts1.length≤1099511627776→zc r g o1 Q ts1 w1→zb r w w1→Calls Tryz.prog 98 #[.pointer (some ⟨r,0,none⟩),.int .i64 ((least:Int)+1)] w1 (zk r g w1 r1)) :
  Calls Tryz.prog 98 #[.pointer (some ⟨r,0,none⟩),.int .i64 least] w (zk r g w res):=by
 obtain ⟨t0,aJ,rfl⟩:=hE.cons;have hr:=h.lt.1;have aQ:=h.lt.2;rw [zd,if_neg (by omega)] at hp
 cases hb:zd F (least+1) (t0::aJ) with
 | none=>rw [hb] at hp;cases hp
 | some r1 =>
  obtain ⟨w0,an⟩:∃w0,w0=w.alloc zD:=⟨_,rfl⟩;have c1:=hbt w0 o cap (t0::aJ) r1 hb hE hN (by rw [an];exact h.alloc _) (by rw [an];exact (zb.refl r w).alloc _)
  rw [hb] at hp;simp only [zo] at hp;have bm:¬(6:Int)<(least:Int):=by omega
  have Z:Hid (w0=w.alloc zD):=an;have aL:Hid (∀w1 o1 Q ts1 r1,zd F (least+1) ts1=some r1→zj ts1→ts1.length≤1099511627776→zc r g o1 Q ts1 w1→zb r w w1→Calls Tryz.prog 98 #[.pointer (some ⟨r,0,none⟩),.int .i64 ((least:Int)+1)] w1 (zk r g w1 r1)):=hbt;clear an hbt
  go_enter Tryz.func98,Tryz.ntmps98
  go_wp2_with fail
  rw [←Z.out];refine c1.mono ?_;clear c1;rintro e w1 ⟨ah,aa⟩;have aT:zb r w w1:=by have:=Z.out;subst this;exact ((zb.refl r w).alloc _).trans ah
  rcases r1 with a | ⟨x,us⟩
  ·obtain rfl:=aa
   simp only [Option.some.injEq] at hp;subst hp;exact ⟨rfl,aT,rfl⟩
  ·obtain ⟨v,o1,Q,rfl,hx,U⟩:=aa
   obtain ⟨a,b,c,d0,d1,d2,l,rfl⟩:=hx.agg;have aM:=(zX F).1 _ _ _ _ hb hE;have bd:=ZD hb;have hJ:=zJ.start (p:=fun f e ts=>zV f least e ts) (res:=res) Z.out hr ah hx U hp aM (by omega)
   have HJ:Hid (zJ r g w1.heap.size F w res (fun f e ts=>zV f least e ts) (w1.alloc (.cells #[.int .i64 a,.string b,.int .i64 c,.slice d0 d1 d2,.int .i64 l] 90))):=hJ
   have av:w.heap.size<w1.heap.size:=by have:=ah.size;have h2:=Z.out;subst h2;simp at this;omega
   obtain ⟨N,aC⟩:∃N,N=w1.heap.size:=⟨_,rfl⟩;rw [←aC] at HJ av;have a8:Hid (Z2 w):=hlev;clear hJ hx U ah aM hp hb hE hN h bd aT hlev Z;go_wp2_with fail
   rw [←aC];generalize hW0:w1.alloc (.cells #[.int .i64 a,.string b,.int .i64 c,.slice d0 d1 d2,.int .i64 l] 90)=W0 at *;clear hW0 aC
   go_loopw [6] (fun _ wr=>zJ r g N F w res (fun f e ts=>zV f least e ts) wr) (fun _ wr=>Ze r wr)
   case atStart=>exact HJ.out
   case round =>
    obtain ⟨e,bl,o2,A,f2,I,K,J,E,G,D,l2,bo,H,aw,aY,M,ak,R,V,ag⟩:=hrel;obtain ⟨z,y,rfl⟩:=aw.cons;obtain rfl:l2=(e.line:Int):=ak.line_eq;clear HJ;have ch:=Zd r g o2 A z y wr R;have ay:=R.left
    have X:Hid (∀W,zb r wr W→zc r g o2 A (z::y) W→W.heap[N]?=some (.cells #[.int .i64 I,.string K,.int .i64 J,.slice E G D,.int .i64 (e.line:Int)] 90 (0,0))∧W.heap[w.heap.size]?=some zD ∧
     zk r g w (.ok (e,z::y)) (.returned (.agg #[.int .i64 I,.string K,.int .i64 J,.slice E G D,.int .i64 (e.line:Int)])) (set5 W w.heap.size (.int .i64 I) (.string K) (.int .i64 J) (.slice E G D) (.int .i64 (e.line:Int)))) :=
     fun W hK U=>zJ.leave hr aQ av V M ag ak hK U
    have au:Hid (∀W,zb r wr W→W.heap[N]?=some (.cells #[.int .i64 I,.string K,.int .i64 J,.slice E G D,.int .i64 (e.line:Int)] 90 (0,0))∧W.heap[w.heap.size]?=some zD) :=
     fun W hK=>⟨(hK.block _ (Array.getElem?_eq_some_iff.1 M).1 (by omega)).trans M,(hK.block _ (Array.getElem?_eq_some_iff.1 ag).1 (by omega)).trans ag⟩
    have af:Hid (zB (fun k=>w.heap.size<k∧k≠N) wr e (.agg #[.int .i64 I,.string K,.int .i64 J,.slice E G D,.int .i64 (e.line:Int)])):=ak
    have T:Hid (zb r w wr):=V;have ao:Hid (zc r g o2 A (z::y) wr):=R;have am:Hid (zj (z::y)):=aw;have bn:r<wr.heap.size∧g<wr.heap.size:=⟨by have:=V.size;omega,by have:=V.size;omega⟩
    cases f2 with
    | zero=>simp [zV] at H
    | succ f3 =>
     simp only [zV,zG,List.tail_cons] at H;clear ak V R aw M ag;go_wp2_with fail
     refine ch.mono ?_;clear ch;rintro e w' ⟨rfl,rfl⟩;simp only [xq];have kA:zb r wr (wr.alloc (zH z)):=(zb.refl r wr).alloc _;have rA:=ao.out.alloc (zH z);generalize wr.alloc (zH z)=wA at *;have aW:=Y5;have bc:=vA
     by_cases h4:z.k=4
     ·have aV:(z.k:Int)=4:=by omega
      have cB:=Zd r g o2 A z y wA rA;have kB:zb r wr (wA.alloc (zH z)):=kA.alloc _;have rB:=rA.alloc (zH z);have az:Hid (zb r wr (wA.alloc (zH z))):=kB;have ab:Hid (zc r g o2 A (z::y) (wA.alloc (zH z))):=rB;have lB:=(a8.out.kept T.out hrl).kept kB hrl;have cL:=vD z.s (wA.alloc (zH z)) lB;clear kA rA kB rB lB;go_wp2_with fail
      refine cB.mono ?_;clear cB;rintro e w' ⟨rfl,rfl⟩;simp only [xq];obtain ⟨wB,aF⟩:∃wB,wB=wA.alloc (zH z):=⟨_,rfl⟩;rw [←aF] at az ab cL ⊢;clear aF;go_wp2_with fail
      refine cL.mono ?_;clear cL;rintro e wC ⟨rfl,aj⟩;have kC:zb r wr wC:=az.out.trans (zb.of aj);have rC:zc r g o2 A (z::y) wC:=ab.out.keep (aj.block _ ab.out.lt.1) (aj.block _ ab.out.lt.2);clear aj az ab wB;generalize levelOf z.s=lv at *
      by_cases hlv:lv=least
      ·have O:least=lv:=hlv.symm
       subst O;rw [if_pos ⟨h4,rfl⟩] at H;have al:=am.out.tail (by omega:z.k≠0)
       have cD:=Zd r g o2 A z y wC rC;have kD:zb r wr (wC.alloc (zH z)):=kC.alloc _;have rD:=rC.alloc (zH z);have cE:=Yn r g o2 A z y (wC.alloc (zH z)) rD al.ne;have aD:Hid (zb r wr (wC.alloc (zH z))):=kD;have aP:Hid (zc r g o2 A (z::y) (wC.alloc (zH z))):=rD;clear kC rC kD rD;go_wp2_with fail
       refine cD.mono ?_;clear cD;rintro e w' ⟨rfl,rfl⟩;simp only [xq];go_wp2_with fail
       refine cE.mono ?_;clear cE;rintro e wE ⟨rfl,ax⟩;have kE:zb r wr wE:=by rw [ax];exact aD.out.setCell 0 _
       have rE:zc r g (o2+5) (A-1) y wE:=by rw [ax];exact aP.out.next
       obtain ⟨pN,pz⟩:=au.out wE kE;clear ax aD aP ao X aW bc;have aG:Hid (zb r wr wE):=kE;have L:Hid (zb r w wE):=T.out.trans kE;have aq:N<wE.heap.size:=(Array.getElem?_eq_some_iff.1 pN).1;have bb:y.length≤1099511627776:=by simp only [List.length_cons] at aY;omega
       cases hb3:zd f3 (least+1) y with
       | none=>rw [hb3] at H;cases H
       | some r3 =>
        rw [hb3] at H;simp only [zo] at H
        have aB:zd F (least+1) y=some r3:=by
         have:=ZS (k:=F-f3) hb3
         rwa [show f3+(F-f3)=F by omega] at this
        have cb:∀W:World,W.heap=wE.heap→W.os=wE.os→W.tape=wE.tape→W.output=wE.output→Calls Tryz.prog 98 #[.pointer (some ⟨r,0,none⟩),.int .i64 ((least:Int)+1)] W fun e w'=>zb r wE w'∧zk r g W r3 e w':=fun W e1 e2 e3 e4 =>
         (aL.out W _ _ y r3 aB al bb (rE.keep (by rw [e1]) (by rw [e1])) ⟨e2.trans L.out.os,e3.trans L.out.tape,e4.trans L.out.output,by rw [e1];exact L.out.size,fun k hk hr=>by rw [e1];exact L.out.block k hk hr⟩).mono fun e w' h =>
          ⟨⟨h.1.os.trans e2,h.1.tape.trans e3,h.1.output.trans e4,by rw [←e1];exact h.1.size,fun k hk hr=>by rw [←e1];exact h.1.block k (by rw [e1];exact hk) hr⟩,h⟩
        obtain ⟨n0,n1,n2,n3,n4,nf⟩:=zt pN;have aU:Hid (wE.heap[N]?=some (.cells #[.int .i64 I,.string K,.int .i64 J,.slice E G D,.int .i64 (e.line:Int)] 90 (0,0))):=pN;have aK:Hid (wE.heap[w.heap.size]?=some zD):=pz;clear pN pz rE kE aL au;have a6:IntKind.i64.wrap ((least:Int)+1)=(least:Int)+1:=by rw [IntKind.wrap_i64];omega
        rcases r3 with a3 | ⟨x3,ai⟩
        ·simp only [Option.some.injEq] at H
         subst H;have ae:∀W:World,W.heap=wE.heap→W.os=wE.os→W.tape=wE.tape→W.output=wE.output→Calls Tryz.prog 98 #[.pointer (some ⟨r,0,none⟩),.int .i64 ((least:Int)+1)] W fun e w'=>e=Zn a3∧zb r w w':=fun W e1 e2 e3 e4=>(cb W e1 e2 e3 e4).mono fun e w' h=>⟨h.2.2,L.out.trans h.1⟩
         clear cb;go_wp2_with fail
         go_region_dies
         all_goals (go_wp2_with fail;refine (ae _ (by rfl) (by rfl) (by rfl) (by rfl)).mono ?_;rintro e w4 ⟨rfl,ad⟩;exact ⟨rfl,ad,rfl⟩)
        ·have aN:=(zX F).1 _ _ _ _ aB al
         have a0:=ZD aB;have aO:ai.length≤1099511627776:=by omega
         have aH:ai.length<Ze r wr:=by rw [ay];simp only [List.length_cons];omega
         have be:f3≤F:=by omega
         have HT:Hid (zV f3 least (.mk 7 z.s 0 [e,x3] e.line) ai=some res):=H
         have ae:∀W:World,W.heap=wE.heap→W.os=wE.os→W.tape=wE.tape→W.output=wE.output→Calls Tryz.prog 98 #[.pointer (some ⟨r,0,none⟩),.int .i64 ((least:Int)+1)] W fun e' w'=>∃(a3:Int) (b3:ByteArray) (c3:Int) (u0:Option Addr) (u1 u2:Nat) (l3:Int),e'=.returned (.agg #[.int .i64 a3,.string b3,.int .i64 c3,.slice u0 u1 u2,.int .i64 l3]) ∧
           w'.heap[N]?=some (.cells #[.int .i64 I,.string K,.int .i64 J,.slice E G D,.int .i64 (e.line:Int)] 90 (0,0))∧Hid (zb r wE w'∧zQ wE.heap.size w' x3 (.agg #[.int .i64 a3,.string b3,.int .i64 c3,.slice u0 u1 u2,.int .i64 l3])∧∃o cap,zc r g o cap ai w'):=fun W e1 e2 e3 e4=>(cb W e1 e2 e3 e4).mono fun e' w' h=>by
          obtain ⟨ad,-,v,o4,aS,rfl,hx,U⟩:=h;obtain ⟨a3,b3,c3,u0,u1,u2,l3,rfl⟩:=hx.agg;exact ⟨a3,b3,c3,u0,u1,u2,l3,rfl,(ad.block N aq (by omega)).trans aU.out,ad,(by rw [←e1];exact hx:zQ wE.heap.size w' x3 _),o4,aS,U⟩
         clear cb H;go_wp2_with fail
         go_region_with (go_at_call 98;refine (ae _ (by rfl) (by rfl) (by rfl) (by rfl)).mono ?_;rintro e' w7 ⟨a3,b3,c3,u0,u1,u2,l3,rfl,p7,H7⟩;have a7:N<w7.heap.size:=(Array.getElem?_eq_some_iff.1 p7).1;have aE:=(fun ob=>(Below.heap_alloc w7 ob N a7).trans p7);obtain ⟨m0,m1,m2,m3,m4,mf⟩:=zt p7;have aZ:=ze m0;have a9:=ze m1;have ba:=ze m2;have a5:=ze m3;have a1:=ze m4;have bf:=(fun ob j=>(zt (aE ob)).2.2.2.2.2 j))
         all_goals
          obtain ⟨aR,aI,o7,bi,ap⟩:=H7.out;obtain ⟨W,hW⟩:∃W,W=(set5 w7 N (.int .i64 7) (.string (za z.s)) (.int .i64 0) (.slice (some ⟨w7.heap.size,0,none⟩) 2 2) (.int .i64 (e.line:Int))).alloc (.cells #[.int .i64 I,.string K,.int .i64 J,.slice E G D,.int .i64 (e.line:Int),.int .i64 a3,.string b3,.int .i64 c3,.slice u0 u1 u2,.int .i64 l3] 90):=⟨_,rfl⟩;obtain ⟨hJ,ar⟩:=zJ.two (p:=fun f e ts=>zV f least e ts) 7 z.s hr aQ av aq af.out T.out aG.out aR p7 aK.out aI ap be HT.out aN aO (.int .i64 7) rfl W hW
          have aX:Hid (zJ r g N F w res (fun f e ts=>zV f least e ts) W∧Ze r W<Ze r wr):=show _∧_<_ from ⟨hJ,by rw [ar];exact aH⟩
          change Exit.inBlock _ _ _ _ ((set5 w7 N (.int .i64 7) (.string (za z.s)) (.int .i64 0) (.slice (some ⟨w7.heap.size,0,none⟩) 2 2) (.int .i64 (e.line:Int))).alloc (.cells #[.int .i64 I,.string K,.int .i64 J,.slice E G D,.int .i64 (e.line:Int),.int .i64 a3,.string b3,.int .i64 c3,.slice u0 u1 u2,.int .i64 l3] 90))
          rw [←hW];clear hW hJ ar ap aI aR p7 aE m0 m1 m2 m3 m4 mf aZ a9 ba a5 a1 bf n0 n1 n2 n3 n4 nf ae H7 aU aK HT aG L af T am a0 aO aH aN al a6;go_wp2
          exact aX.out
      ·have O:¬((lv:Int)=(least:Int)):=by omega
       have bh:((lv:Int)==(least:Int))=false:=by rw [beq_eq_false_iff_ne];exact O
       have bg:decide ((lv:Int)=(least:Int))=false:=by rw [decide_eq_false_iff_not];exact O
       have bj:decide (lv=least)=false:=by rw [decide_eq_false_iff_not];exact hlv
       have bk:(lv==least)=false:=by rw [beq_eq_false_iff_ne];exact hlv
       rw [if_neg (fun h=>hlv h.2)] at H
       simp only [Option.some.injEq] at H;subst H;obtain ⟨pN,pz,Y⟩:=X.out wC kC rC;obtain ⟨n0,n1,n2,n3,n4,nf⟩:=zt pN;obtain ⟨q0,q1,a4,q3,q4,qf⟩:=zt pz;obtain ⟨z0,z1,z2,z3,z4⟩:=zq pz (.int .i64 I) (.string K) (.int .i64 J) (.slice E G D) (.int .i64 (e.line:Int));have aA:Hid (zk r g w (.ok (e,z::y)) (.returned (.agg #[.int .i64 I,.string K,.int .i64 J,.slice E G D,.int .i64 (e.line:Int)])) (set5 wC w.heap.size (.int .i64 I) (.string K) (.int .i64 J) (.slice E G D) (.int .i64 (e.line:Int)))):=Y;clear X af T ao am Y pN pz kC rC;go_wp2
       exact bodyPost_ret (v:=.agg #[.int .i64 I,.string K,.int .i64 J,.slice E G D,.int .i64 (e.line:Int)]) (by simp [results,Tryz.results98,go_sem,z0,z1,z2,z3,z4]) rfl aA.out
     ·have aV:¬(z.k:Int)=4:=by omega
      rw [if_neg (fun h=>h4 h.1)] at H
      simp only [Option.some.injEq] at H;subst H;obtain ⟨pN,pz,Y⟩:=X.out wA kA rA;obtain ⟨n0,n1,n2,n3,n4,nf⟩:=zt pN;obtain ⟨q0,q1,a4,q3,q4,qf⟩:=zt pz;obtain ⟨z0,z1,z2,z3,z4⟩:=zq pz (.int .i64 I) (.string K) (.int .i64 J) (.slice E G D) (.int .i64 (e.line:Int));have aA:Hid (zk r g w (.ok (e,z::y)) (.returned (.agg #[.int .i64 I,.string K,.int .i64 J,.slice E G D,.int .i64 (e.line:Int)])) (set5 wA w.heap.size (.int .i64 I) (.string K) (.int .i64 J) (.slice E G D) (.int .i64 (e.line:Int)))):=Y;clear X af T ao am Y pN pz kA rA;go_wp2
      exact bodyPost_ret (v:=.agg #[.int .i64 I,.string K,.int .i64 J,.slice E G D,.int .i64 (e.line:Int)]) (by simp [results,Tryz.results98,go_sem,z0,z1,z2,z3,z4]) rfl aA.out
end Go.Proofs.YtmbofhpmockmbaaGreatDoor
