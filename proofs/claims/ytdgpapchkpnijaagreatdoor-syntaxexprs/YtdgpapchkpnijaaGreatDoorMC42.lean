import Derived.Test.YtdgpapchkpnijaaGreatDoorMC41
import Derived.Deep.RegionWith
import Derived.Deep.CutRange
import Derived.Test.YtdgpapchkpnijaaGreatDoorMC25
namespace Go.Proofs.YtdgpapchkpnijaaGreatDoor
open Go.RowKit Go.Shelf
set_option maxHeartbeats 16000000
set_option maxRecDepth 100000
def xN (r g F:Nat):Prop:=∀k,k≤F→∀line σ q w,line≤6→xn k line σ=some q→z7 r g σ w→Calls Tryz.prog 38 #[.pointer (some ⟨r,0,none⟩),.int .i64 (line:Int)] w (Zq r g w q)
def Vf (r g F:Nat):Prop:=∀k,k≤F→∀σ q w,yG k σ=some q→z7 r g σ w→Calls Tryz.prog 76 #[.pointer (some ⟨r,0,none⟩)] w (Zq r g w q)
def uQ (r g F:Nat):Prop:=∀k,k≤F→∀σ q w,Yp k σ=some q→z7 r g σ w→Calls Tryz.prog 117 #[.pointer (some ⟨r,0,none⟩)] w (Zq r g w q)
def za0 (r g F:Nat):Prop:=∀k,k≤F→∀s b σ q w,yK k s b σ=some q→z7 r g σ w→Calls Tryz.prog 146 #[.pointer (some ⟨r,0,none⟩),.string (za s),.bool b] w (vN r g w q)
theorem z7.as {r g:Nat} {σ:RS} {w W:World} (h:z7 r g σ w) (e:W.heap=w.heap):z7 r g σ W:=h.keep (by rw [e]) (by rw [e])
theorem zb.as {r:Nat} {w W w':World} (h:zb r W w') (e1:W.heap=w.heap) (e2:W.os=w.os) (e3:W.tape=w.tape) (e4:W.output=w.output):zb r w w' :=
 ⟨h.os.trans e2,h.tape.trans e3,h.output.trans e4,by rw [←e1];exact h.size,fun k hk hr=>by rw [←e1];exact h.block k (by rw [e1];exact hk) hr⟩
theorem zcj (r g F:Nat) (σ:RS) (w:World) (q:Ex × RS) (h:z7 r g σ w) (hq:yG F σ=some q) (hun:Vf r g F) :
  Calls Tryz.prog 38 #[.pointer (some ⟨r,0,none⟩),.int .i64 6] w (Zq r g w q):=by
 obtain ⟨w0,hw0⟩:∃w0,w0=w.alloc Ze:=⟨_,rfl⟩;have cu:=hun F (Nat.le_refl _) σ q w0 hq (by rw [hw0];exact h.alloc _)
 have hw0':=hw0.symm;have hs0:w0.heap.size=w.heap.size+1:=by rw [hw0];simp
 have p0:w0.heap[w.heap.size]?=some Ze:=by rw [hw0];exact World.alloc_heap_new w _
 have hk0:zb r w w0:=by rw [hw0];exact (zb.refl r w).alloc _
 obtain ⟨hr,hg⟩:=h.lt;have HK0:Hid (zb r w w0∧w0.heap.size=w.heap.size+1∧w0.heap[w.heap.size]?=some Ze):=⟨hk0,hs0,p0⟩;clear hw0 hs0 p0 hk0 h hq hun
 go_enter Tryz.func38,Tryz.ntmps38
 go_wp2_with fail
 refine cu.mono ?_;clear cu;rintro e w1 ⟨hk1,v,rfl,hx,hrd⟩;obtain ⟨a,b,c,d0,d1,d2,l,rfl⟩:=hx.agg;obtain ⟨hk0,hs0,p0⟩:=HK0.out;have p1:w1.heap[w.heap.size]?=some Ze:=(hk1.block _ (by omega) (by omega)).trans p0
 obtain ⟨q0,q1,q2,q3,q4,qf⟩:=zl p1;obtain ⟨z0,z1,z2,z3,z4⟩:=zt p1 (.int .i64 a) (.string b) (.int .i64 c) (.slice d0 d1 d2) (.int .i64 l)
 have HP:Hid (Zq r g w q (.returned (.agg #[.int .i64 a,.string b,.int .i64 c,.slice d0 d1 d2,.int .i64 l])) (set5 w1 w.heap.size (.int .i64 a) (.string b) (.int .i64 c) (.slice d0 d1 d2) (.int .i64 l))) :=
  Zq.of_set5' (hk0.trans hk1) (Nat.le_refl _) hr hg hx (by omega) hrd
 clear hk1 hx hrd hk0 hs0 p0 p1 HK0 hw0';go_wp2
 exact bodyPost_ret (v:=.agg #[.int .i64 a,.string b,.int .i64 c,.slice d0 d1 d2,.int .i64 l]) (by simp [results,Tryz.results38,go_sem,z0,z1,z2,z3,z4]) rfl HP.out
theorem za1 (r g F line:Nat) (σ:RS) (w:World) (q:Ex × RS) (h:z7 r g σ w) (hl:line≤5) (hq:((xn F (line+1) σ).bind fun q=>YL F line q.1 q.2)=some q) (hex:xN r g F) :
  Calls Tryz.prog 38 #[.pointer (some ⟨r,0,none⟩),.int .i64 (line:Int)] w (Zq r g w q):=by
 obtain ⟨q1,hq1,hq2⟩:=Option.bind_eq_some_iff.1 hq;obtain ⟨w0,hw0⟩:∃w0,w0=w.alloc Ze:=⟨_,rfl⟩;have c1:=hex F (Nat.le_refl _) (line+1) σ q1 w0 (by omega) hq1 (by rw [hw0];exact h.alloc _)
 simp only [Int.natCast_add,Int.cast_ofNat_Int] at c1;have hw0':=hw0.symm;have hs0:w0.heap.size=w.heap.size+1:=by rw [hw0];simp
 have p0:w0.heap[w.heap.size]?=some Ze:=by rw [hw0];exact World.alloc_heap_new w _
 have hk0:zb r w w0:=by rw [hw0];exact (zb.refl r w).alloc _
 obtain ⟨hr,hg⟩:=h.lt;have hl6:¬ (line:Int)=6:=by omega
 have hl7:((line:Int)==6)=false:=by rw [beq_eq_false_iff_ne];exact hl6
 have hl8:decide ((line:Int)=6)=false:=decide_eq_false hl6;have HK0:Hid (zb r w w0∧w0.heap.size=w.heap.size+1∧w0.heap[w.heap.size]?=some Ze):=⟨hk0,hs0,p0⟩;have HEX:Hid (xN r g F):=hex;clear hw0 hs0 p0 hk0 h hq hq1 hex
 go_enter Tryz.func38,Tryz.ntmps38
 go_wp2_with fail
 refine c1.mono ?_;clear c1;rintro e w1 ⟨hk1,v,rfl,hx,hrd⟩;obtain ⟨a,b,c,d0,d1,d2,l,rfl⟩:=hx.agg
 have HJ:Hid (XL r g w1.heap.size F w q (fun f e σ=>YL f line e σ) (w1.alloc (.cells #[.int .i64 a,.string b,.int .i64 c,.slice d0 d1 d2,.int .i64 l] 40))):=by
  obtain ⟨hk0,hs0,p0⟩:=HK0.out;exact ⟨q1.1,q1.2,F,a,b,c,d0,d1,d2,l,Nat.le_refl _,hq2,yD.start (by omega) p0 hk0 hr hk1 hx hrd⟩
 have hNw:w.heap.size<w1.heap.size:=by have:=hk1.size;have:=HK0.out.2.1;omega
 obtain ⟨N,hNe⟩:∃N,N=w1.heap.size:=⟨_,rfl⟩;rw [←hNe] at HJ hNw;clear hx hrd hk1 HK0 hw0' hq2;go_wp2_with fail
 rw [←hNe];generalize hW0:w1.alloc (.cells #[.int .i64 a,.string b,.int .i64 c,.slice d0 d1 d2,.int .i64 l] 40)=W0 at *;clear hW0 hNe
 go_loopw [6] (fun _ wr=>XL r g N F w q (fun f e σ=>YL f line e σ) wr) (fun _ wr=>yx r wr)
 case atStart=>exact HJ.out
 case round =>
  clear HJ;obtain ⟨e,σ2,f2,a2,b2,c2,p2,q2,s2,l2,hf2,hT,hC⟩:=hrel;obtain rfl:l2=(e.line:Int):=hC.ex.line_eq;obtain ⟨bd,ts⟩:=σ2;have hleft:=hC.rd.left;have HC:Hid (yD r g N w e (bd,ts) a2 b2 c2 p2 q2 s2 (e.line:Int) wr):=hC;have HLEFT:Hid (yx r wr=ts.length):=hleft
  obtain ⟨f3,rfl⟩:∃f3,f2=f3+1:=by
   cases f2 with
   | zero=>simp [YL] at hT
   | succ f3=>exact ⟨f3,rfl⟩
  replace hT:YL (f3+1) line e (bd,ts)=some q:=hT;rw [YL] at hT
  -- what is done where the rounds end
  have HEND:Hid (¬ (bd=false∧(zz ts).k=4∧levelOf (zz ts).s=line+1)→∀W,zb r wr W→z7 r g (bd,ts) W→W.heap[N]?=some (.cells #[.int .i64 a2,.string b2,.int .i64 c2,.slice p2 q2 s2,.int .i64 (e.line:Int)] 40 (0,0))∧W.heap[w.heap.size]?=some Ze ∧
    Zq r g w q (.returned (.agg #[.int .i64 a2,.string b2,.int .i64 c2,.slice p2 q2 s2,.int .i64 (e.line:Int)])) (set5 W w.heap.size (.int .i64 a2) (.string b2) (.int .i64 c2) (.slice p2 q2 s2) (.int .i64 (e.line:Int)))):=by
   intro hc W hK hR;rw [if_neg hc] at hT;obtain rfl:=Option.some.inj hT;exact HC.out.leave hr hg hNw hK hR
  cases bd
  ·have cT:=fun W (hW:z7 r g (false,ts) W)=>VM r g (false,ts) W hW
   simp only at cT;obtain ⟨t,ht⟩:∃t,t=zz ts:=⟨_,rfl⟩;rw [←ht] at cT hT HEND;have HTT:Hid (t=zz ts):=ht;clear ht;have cA:=cT wr hC.rd;have HR0:Hid (z7 r g (false,ts) wr):=hC.rd;obtain ⟨pp,cap,TS,hb⟩:=hC.rd;obtain ⟨m0,m1,m2,mf⟩:=ZO hb.blk;clear hb hC hleft;have hf0:=Y8;have hf1:=ug
   by_cases h4:t.k=4
   ·have h4':(t.k:Int)=4:=by omega
    go_wp2_with fail
    refine cA.mono ?_;clear cA m0 m1 m2 mf;rintro e' wA ⟨rfl,hbA⟩;have cB:=cT wA (HR0.out.below hbA);simp only [Xc];go_wp2_with fail
    refine cB.mono ?_;clear cB;rintro e' wB ⟨rfl,hbB⟩;have kB:zb r wr wB:=(zb.of hbA).trans (zb.of hbB);have rB:z7 r g (false,ts) wB:=(HR0.out.below hbA).below hbB;have cL:=Qh t.s wB;clear hbA hbB HR0;simp only [Xc];go_wp2_with fail
    refine cL.mono ?_;clear cL;rintro e' wC ⟨rfl,hbC⟩;have kC:zb r wr wC:=kB.trans (zb.of hbC);have rC:z7 r g (false,ts) wC:=rB.below hbC;clear hbC kB rB
    by_cases hlv:levelOf t.s=line+1
    ·rw [if_pos ⟨by first | rfl | trivial,h4,hlv⟩] at hT
     have hlv1:(levelOf t.s:Int)-1=(line:Int):=by omega
     rw [hlv1];have cD:=cT wC rC;go_wp2_with fail
     refine cD.mono ?_;clear cD;rintro e' wD ⟨rfl,hbD⟩;have kD:zb r wr wD:=kC.trans (zb.of hbD);have rD:z7 r g (false,ts) wD:=rC.below hbD;clear kC rC hbD cT HEND hlv hlv1;have hkne:(zz ts).k≠0:=by rw [←HTT.out];omega
     obtain ⟨q3,hq3,hq4⟩:=Option.bind_eq_some_iff.1 hT;obtain ⟨pp,cap,TS,hb⟩:=rD;obtain ⟨m0,m1,m2,mf⟩:=ZO hb.blk;have hppl:pp≤1099511627776:=by have:=hb.lt;have:=hb.few;omega
     have hwp:IntKind.i64.wrap ((pp:Int)+1)=(pp:Int)+1:=by rw [IntKind.wrap_i64];omega
     obtain ⟨wE,hwE⟩:∃wE,wE=wD.setCell ⟨r,1,none⟩ (.int .i64 ((pp:Int)+1)):=⟨_,rfl⟩;have kE:zb r wr wE:=by rw [hwE];exact kD.setCell 1 _
     have rE:z7 r g (false,ts.tail) wE:=by rw [hwE];exact ⟨_,_,_,hb.step hkne⟩
     have hwE':=hwE.symm;have HKE:Hid (zb r wr wE):=kE;have hlt1:=yS hkne;have hq3l:=(zdr f3).1 _ _ _ hq3;have hCE:=HC.out.moved hr hNw kE rE;have HPN:Hid (wE.heap[N]?=some (.cells #[.int .i64 a2,.string b2,.int .i64 c2,.slice p2 q2 s2,.int .i64 (e.line:Int)] 40 (0,0))):=hCE.blk;obtain ⟨n0,n1,n2,n3,n4,nf⟩:=zl hCE.blk;have hNlt:N<wE.heap.size:=(Array.getElem?_eq_some_iff.1 hCE.blk).1
     have cb:∀W:World,W.heap=wE.heap→W.os=wE.os→W.tape=wE.tape→W.output=wE.output→Calls Tryz.prog 38 #[.pointer (some ⟨r,0,none⟩),.int .i64 ((line:Int)+1)] W fun e' w'=>∃(a3:Int) (b3:ByteArray) (c3:Int) (u0:Option Addr) (u1 u2:Nat) (l3:Int),e'=.returned (.agg #[.int .i64 a3,.string b3,.int .i64 c3,.slice u0 u1 u2,.int .i64 l3]) ∧
       w'.heap[N]?=some (.cells #[.int .i64 a2,.string b2,.int .i64 c2,.slice p2 q2 s2,.int .i64 (e.line:Int)] 40 (0,0))∧Hid (zb r wE w'∧Zc wE.heap.size w' q3.1 (.agg #[.int .i64 a3,.string b3,.int .i64 c3,.slice u0 u1 u2,.int .i64 l3])∧z7 r g q3.2 w'):=fun W e1 e2 e3 e4=>by
      refine (show Calls Tryz.prog 38 #[.pointer (some ⟨r,0,none⟩),.int .i64 ((line:Int)+1)] W _ from HEX.out f3 (by omega) (line+1) _ q3 W (by omega) hq3 (rE.as e1)).mono ?_
      rintro e' w' ⟨hk,v,rfl,hx,hrd⟩;obtain ⟨a3,b3,c3,u0,u1,u2,l3,rfl⟩:=hx.agg;have hk4:=hk.as e1 e2 e3 e4;rw [e1] at hx;exact ⟨a3,b3,c3,u0,u1,u2,l3,rfl,(hk4.block N hNlt (by omega)).trans HPN.out,hk4,hx,hrd⟩
     have hl7:q3.2.2.length<yx r wr:=by rw [HLEFT.out];simp only at hq3l;omega
     have hwr:IntKind.i64.wrap ((line:Int)+1)=(line:Int)+1:=by rw [IntKind.wrap_i64];omega
     have HT:Hid (YL f3 line (.mk 7 t.s 0 [e,q3.1] e.line) q3.2=some q):=hq4;have hf3:f3≤F:=by omega
     clear hb kD kE rE hwE hCE hT hq3 hq4 hq3l hkne HEX;simp only [Xc];go_wp2_with fail
     go_region_with (go_at_call 38;refine (cb _ (by rfl) (by rfl) (by rfl) (by rfl)).mono ?_;rintro e' w7 ⟨a3,b3,c3,u0,u1,u2,l3,rfl,p7,H7⟩;have hN7:N<w7.heap.size:=(Array.getElem?_eq_some_iff.1 p7).1;have p7':=(fun ob=>(Below.heap_alloc w7 ob N hN7).trans p7);obtain ⟨m0,m1,m2,m3,m4,mf⟩:=zl p7;have m0':=zj m0;have m1':=zj m1;have m2':=zj m2;have m3':=zj m3;have m4':=zj m4;have mf':=(fun ob j=>(zl (p7' ob)).2.2.2.2.2 j))
     all_goals
      obtain ⟨hk7,hx7,hrd7⟩:=H7.out;obtain ⟨W,hW⟩:∃W,W=(set5 w7 N (.int .i64 7) (.string (za t.s)) (.int .i64 0) (.slice (some ⟨w7.heap.size,0,none⟩) 2 2) (.int .i64 (e.line:Int))).alloc (.cells #[.int .i64 a2,.string b2,.int .i64 c2,.slice p2 q2 s2,.int .i64 (e.line:Int),.int .i64 a3,.string b3,.int .i64 c3,.slice u0 u1 u2,.int .i64 l3] 40):=⟨_,rfl⟩;have hCW:=yD.two 7 t.s HC.out hr hg hNw HKE.out hk7 hx7 hrd7 (.int .i64 7) rfl W hW;have HJW:Hid (XL r g N F w q (fun f e σ=>YL f line e σ) W∧yx r W<yx r wr):=show _∧_<_ from ⟨⟨_,_,f3,_,_,_,_,_,_,_,hf3,HT.out,hCW⟩,by rw [hCW.rd.left];exact hl7⟩
      change Exit.inBlock _ _ _ _ ((set5 w7 N (.int .i64 7) (.string (za t.s)) (.int .i64 0) (.slice (some ⟨w7.heap.size,0,none⟩) 2 2) (.int .i64 (e.line:Int))).alloc (.cells #[.int .i64 a2,.string b2,.int .i64 c2,.slice p2 q2 s2,.int .i64 (e.line:Int),.int .i64 a3,.string b3,.int .i64 c3,.slice u0 u1 u2,.int .i64 l3] 40))
      rw [←hW];clear hW hCW hrd7 hx7 hk7 p7 p7' m0 m1 m2 m3 m4 mf m0' m1' m2' m3' m4' mf' n0 n1 n2 n3 n4 nf cb H7 HPN HT HKE HC hl7 hwr;go_wp2
      exact HJW.out
    ·obtain ⟨pN,pz,hpo⟩:=HEND.out (fun h=>hlv h.2.2) wC kC rC
     have hlv1:¬ ((levelOf t.s:Int)-1=(line:Int)):=by omega
     generalize (levelOf t.s:Int)-1=LV at *;have hlv2:(LV==(line:Int))=false:=by rw [beq_eq_false_iff_ne];exact hlv1
     have hlv3:decide (LV=(line:Int))=false:=decide_eq_false hlv1;obtain ⟨n0,n1,n2,n3,n4,nf⟩:=zl pN;obtain ⟨z0',z1',z2',z3',z4',zf⟩:=zl pz;obtain ⟨z0,z1,z2,z3,z4⟩:=zt pz (.int .i64 a2) (.string b2) (.int .i64 c2) (.slice p2 q2 s2) (.int .i64 (e.line:Int));have HPO:Hid (Zq r g w q (.returned (.agg #[.int .i64 a2,.string b2,.int .i64 c2,.slice p2 q2 s2,.int .i64 (e.line:Int)])) (set5 wC w.heap.size (.int .i64 a2) (.string b2) (.int .i64 c2) (.slice p2 q2 s2) (.int .i64 (e.line:Int)))):=hpo;clear HEND HC hpo pN pz kC rC cT hT hlv;go_wp2
     exact bodyPost_ret (v:=.agg #[.int .i64 a2,.string b2,.int .i64 c2,.slice p2 q2 s2,.int .i64 (e.line:Int)]) (by simp [results,Tryz.results38,go_sem,z0,z1,z2,z3,z4]) rfl HPO.out
   ·have h4':¬(t.k:Int)=4:=by omega
    go_wp2_with fail
    refine cA.mono ?_;clear cA m0 m1 m2 mf;rintro e' wA ⟨rfl,hbA⟩;obtain ⟨pN,pz,hpo⟩:=HEND.out (fun h=>h4 h.2.1) wA (zb.of hbA) (HR0.out.below hbA)
    clear HEND HC hbA HR0 cT hT;simp only [Xc];obtain ⟨n0,n1,n2,n3,n4,nf⟩:=zl pN;obtain ⟨z0',z1',z2',z3',z4',zf⟩:=zl pz;obtain ⟨z0,z1,z2,z3,z4⟩:=zt pz (.int .i64 a2) (.string b2) (.int .i64 c2) (.slice p2 q2 s2) (.int .i64 (e.line:Int));have HPO:Hid (Zq r g w q (.returned (.agg #[.int .i64 a2,.string b2,.int .i64 c2,.slice p2 q2 s2,.int .i64 (e.line:Int)])) (set5 wA w.heap.size (.int .i64 a2) (.string b2) (.int .i64 c2) (.slice p2 q2 s2) (.int .i64 (e.line:Int)))):=hpo;clear hpo pN pz;go_wp2
    exact bodyPost_ret (v:=.agg #[.int .i64 a2,.string b2,.int .i64 c2,.slice p2 q2 s2,.int .i64 (e.line:Int)]) (by simp [results,Tryz.results38,go_sem,z0,z1,z2,z3,z4]) rfl HPO.out
  ·obtain ⟨pp,cap,TS,hb⟩:=hC.rd
   obtain ⟨m0,m1,m2,mf⟩:=ZO hb.blk;obtain ⟨pN,pz,hpo⟩:=HEND.out (fun h=>by cases h.1) wr (zb.refl _ _) hC.rd
   obtain ⟨n0,n1,n2,n3,n4,nf⟩:=zl pN;obtain ⟨z0',z1',z2',z3',z4',zf⟩:=zl pz;obtain ⟨z0,z1,z2,z3,z4⟩:=zt pz (.int .i64 a2) (.string b2) (.int .i64 c2) (.slice p2 q2 s2) (.int .i64 (e.line:Int));have HPO:Hid (Zq r g w q (.returned (.agg #[.int .i64 a2,.string b2,.int .i64 c2,.slice p2 q2 s2,.int .i64 (e.line:Int)])) (set5 wr w.heap.size (.int .i64 a2) (.string b2) (.int .i64 c2) (.slice p2 q2 s2) (.int .i64 (e.line:Int)))):=hpo;clear HEND HC hpo pN pz hC hb hT hleft;go_wp2
   exact bodyPost_ret (v:=.agg #[.int .i64 a2,.string b2,.int .i64 c2,.slice p2 q2 s2,.int .i64 (e.line:Int)]) (by simp [results,Tryz.results38,go_sem,z0,z1,z2,z3,z4]) rfl HPO.out
theorem yh.exs {ty B:Nat} {w:World} {l:List Ex} {v:Value} (h:yh uV 5 ty B w l v):Z9 B w l v:=by
 rcases h with h | ⟨g,cap,us,h⟩
 ·exact .inl h
 ·exact h.row
theorem YM {s:List UInt8} {σ:RS} (h:ZC s σ=false):yw s σ=σ:=by unfold yw;rw [if_neg (by simp [h])]
theorem Yg {s:List UInt8} {σ:RS} (h:ZC s σ=true):yw s σ=(false,σ.2.tail):=by unfold yw;rw [if_pos h]
theorem za2 {F:Nat} {s:List UInt8} {b:Bool} {σ:RS} {q:List Ex × RS} (h:yK (F+1) s b σ=some q) (hc:¬ (b=false∧ZC s σ=true)):∃l,XU F [] σ=some l∧q=(l.1,ZT s l.2):=by
 rw [yK,if_neg hc] at h;obtain ⟨y,h1,h2⟩:=Option.bind_eq_some_iff.1 h;exact ⟨y,h1,(Option.some.inj h2).symm⟩
theorem zck (r g F:Nat) (s:List UInt8) (σ:RS) (w:World) (q:List Ex × RS) (h:z7 r g σ w) (hs:ZC s σ=true) (hq:yK (F+1) s false σ=some q) :
  Calls Tryz.prog 146 #[.pointer (some ⟨r,0,none⟩),.string (za s),.bool false] w (vN r g w q):=by
 rw [yK,if_pos ⟨rfl,hs⟩] at hq;obtain rfl:=Option.some.inj hq;have cs:=Yy r g σ s w h;rw [hs,Yg hs] at cs;clear h hq hs
 go_enter Tryz.func146,Tryz.ntmps146
 go_wp2_with fail
 refine cs.mono ?_;clear cs;rintro e w1 ⟨rfl,hk1,hr1⟩;have HP:Hid (vN r g w ([],(false,σ.2.tail)) (.returned (.slice none 0 0)) w1):=⟨hk1,_,rfl,.inl ⟨rfl,rfl⟩,hr1⟩;clear hk1 hr1;go_wp2
 exact bodyPost_ret (v:=.slice none 0 0) (by simp [results,Tryz.results146,go_sem]) rfl HP.out
theorem zcl (r g F:Nat) (s:List UInt8) (b:Bool) (σ:RS) (w wA:World) (q:List Ex × RS) (hk:zb r w wA) (hr:r<w.heap.size) (hg:g<w.heap.size) (h:z7 r g σ wA) (hc:¬ (b=false∧ZC s σ=true)) (hq:yK (F+1) s b σ=some q) (hex:xN r g F) :
  Calls Tryz.prog 146 #[.pointer (some ⟨r,0,none⟩),.string (za s),.bool b] wA (vN r g w q):=by
 obtain ⟨i0,hi0,hz0,hz1,hz2⟩:=info_parts Vr;obtain ⟨l0,hl0,rfl⟩:=za2 hq hc;have HQ:Hid (XU F [] σ=some l0):=hl0;have HEX:Hid (xN r g F):=hex;have HK:Hid (zb r w wA):=hk;have cs:=Yy r g σ s wA h;have HR:Hid (z7 r g σ wA):=h;have hfew:=h.few;clear hl0 hq hex hk h;cases b
 case' false =>
  have hs:ZC s σ=false:=by simpa using hc
  rw [hs,YM hs] at cs;clear hc HR hs
  go_enter Tryz.func146,Tryz.ntmps146
  go_wp2_with fail
  refine cs.mono ?_;clear cs;rintro e w1 ⟨rfl,hk1,hr1⟩;have HR1:Hid (z7 r g σ w1):=hr1;have HK1:Hid (zb r w w1):=HK.out.trans hk1;clear hk1 hr1 HK;go_wp2_with fail
 case' true =>
  clear hc cs;have HR1:Hid (z7 r g σ wA):=HR.out;have HK1:Hid (zb r w wA):=HK.out;clear HR HK
  go_enter Tryz.func146,Tryz.ntmps146
  go_wp2_with fail
 all_goals
  go_loopw [7] (fun v wr=>∃(L:List Ex) (σ2:RS) (f2:Nat),f2≤F∧XU f2 L σ2=some l0∧L.length+σ2.2.length≤1099511627776∧yh uV 5 40 w.heap.size wr L v∧z7 r g σ2 wr∧zb r w wr) (fun _ wr=>yx r wr)
  case atStart=>exact ⟨[],σ,F,Nat.le_refl _,HQ.out,by simpa using hfew,yh.nil _ _ _ _ _,HR1.out,HK1.out⟩
  case round =>
   obtain ⟨L,σ2,f2,hf2,hT,hN2,hrow,hrd2,hk2⟩:=hrel;clear HR1 HK1 HQ;obtain ⟨bd,ts⟩:=σ2;have HLEFT:Hid (yx r wr=ts.length):=hrd2.left;have HROW:Hid (yh uV 5 40 w.heap.size wr L _):=hrow;have HK2:Hid (zb r w wr):=hk2;have HR2:Hid (z7 r g (bd,ts) wr):=hrd2;obtain ⟨lb,lc,hval⟩:=hrow.slice;subst hval
   obtain ⟨f3,rfl⟩:∃f3,f2=f3+1:=by
    cases f2 with
    | zero=>simp [XU] at hT
    | succ f3=>exact ⟨f3,rfl⟩
   rw [XU] at hT;have cm:=fun (W:World) (hW:z7 r g l0.2 W)=>qA r g l0.2 s W hW
   have hrd2':=hrd2;obtain ⟨pp,cap,TS,hb⟩:=hrd2;obtain ⟨m0,m1,m2,mf⟩:=ZO hb.blk;clear hb hrow hk2;cases bd
   ·rw [if_neg (by simp)] at hT
    obtain ⟨q3,hq3,hq4⟩:=Option.bind_eq_some_iff.1 hT;have hq3l:=(zdr f3).1 _ _ _ hq3;have c3:=HEX.out f3 (by omega) 0 _ q3 wr (by omega) hq3 hrd2'
    have c3':Calls Tryz.prog 38 #[.pointer (some ⟨r,0,none⟩),.int .i64 0] wr (Zq r g wr q3):=c3;clear c3 hrd2' hq3 hT;go_wp2_with fail
    refine c3'.mono ?_;clear c3' m0 m1 m2 mf;rintro e w4 ⟨hk4,v,rfl,hx,hrd⟩;have HK4:Hid (zb r w w4):=HK2.out.trans hk4;obtain ⟨a4,b4,c4,p4,q4,s4,l4,rfl⟩:=hx.agg;have hrow4:=HROW.out.kept yQ hk4.size fun k hB hlt=>hk4.block k hlt (by omega)
    have hsz3:w.heap.size≤wr.heap.size:=HK2.out.size;have hsz4:w.heap.size≤w4.heap.size:=HK4.out.size;obtain ⟨us,hown,hnext⟩:=hrow4.more yQ;have HX4:Hid (uV (fun k=>wr.heap.size≤k) w4 q3.1 [.int .i64 a4,.string b4,.int .i64 c4,.slice p4 q4 s4,.int .i64 l4]):=hx
    have HB3:Hid (∀q,(Value.slice lb L.length lc).ownBlock=some q→q<wr.heap.size):=fun q hq=>(HROW.out.block q hq).2
    have HBB:Hid (∀q,(Value.slice lb L.length lc).ownBlock=some q→w.heap.size≤q):=fun q hq=>(HROW.out.block q hq).1
    have HNX:Hid (∀{w':World} {v':Value} {x:Ex} {c:List Value} {ob:Obj} {N:Nat},uV (fun k=>N≤k) w4 x c→w.heap.size≤N→(∀q,(Value.slice lb L.length lc).ownBlock=some q→q<N)→c.length=5→w'.ownsRow w.heap.size 40 5 v' (L.length+1) (us.flatten++c)→(w4.alloc ob).grownBy w' (Value.slice lb L.length lc).ownBlock→(v'.ownBlock=(Value.slice lb L.length lc).ownBlock∨v'.ownBlock=some (w4.alloc ob).heap.size)→yh uV 5 40 w.heap.size w' (L++[x]) v'):=hnext
    have HRD:Hid (z7 r g q3.2 w4):=hrd;have HOWN:=(hown.alloc (.cells #[.int .i64 a4,.string b4,.int .i64 c4,.slice p4 q4 s4,.int .i64 l4] 40));have hLb:L.length≤1099511627776:=by omega
    clear hrow4 hx hrd hk4 hown hnext
    go_wp2_with (at_builtin;refine wpList_append_own_at _ rfl _ _ 38 rfl w.heap.size 40 i0 _ 5 64 Tryz.underlying38 hi0 hz0 hz1 hz2 rfl (by decide) _ _ _ rfl HOWN ⟨w4.heap.size,0,none⟩ 1 1 [.int .i64 a4,.string b4,.int .i64 c4,.slice p4 q4 s4,.int .i64 l4] rfl rfl (Zn _ _ _) (by simp [Value.oneCell']) (by unfold maxLen;omega) (by omega) (by simp;omega) ?_;intro v' w5 hown' hgrow _ hat)
    have hrow5:=HNX.out (ob:=.cells #[.int .i64 a4,.string b4,.int .i64 c4,.slice p4 q4 s4,.int .i64 l4] 40) HX4.out hsz3 HB3.out rfl hown' hgrow hat
    have hk5:zb r w w5:=(HK4.out.alloc _).grown hgrow HBB.out;have hrd5:z7 r g q3.2 w5:=HRD.out.keep ((hgrow.block r (by simp;omega) (fun e=>by have:=HBB.out r e.symm;omega)).trans (Below.heap_alloc _ _ _ (by omega))) ((hgrow.block g (by simp;omega) (fun e=>by have:=HBB.out g e.symm;omega)).trans (Below.heap_alloc _ _ _ (by omega)))
    have HROW5:Hid (yh uV 5 40 w.heap.size w5 (L++[q3.1]) v'):=hrow5;have HK5:Hid (zb r w w5):=hk5;have ct:=Yy r g q3.2 [44] w5 hrd5;obtain ⟨lb5,lc5,hval5⟩:=hrow5.slice;subst hval5;clear hrow5 hk5 hrd5 hown' hgrow hat HNX HX4 HB3 HBB HRD HOWN HROW HK2 HK4 HR2;cases hi:ZC [44] q3.2
    ·rw [hi,YM hi] at ct
     rw [if_neg (by simp [hi])] at hq4
     have hl0:=Option.some.inj hq4;go_wp2_with fail
     refine ct.mono ?_;clear ct;rintro e w6 ⟨rfl,hk6,hr6⟩;have cm6:=cm w6 (by rw [←hl0];exact hr6)
     have HK6:Hid (zb r w w6):=HK5.out.trans hk6;have HROW6:Hid (Z9 w.heap.size w6 l0.1 (.slice lb5 (L++[q3.1]).length lc5)):=by rw [←hl0];exact (HROW5.out.kept yQ hk6.size fun k hB hlt=>hk6.block k hlt (by omega)).exs
     generalize (L++[q3.1]).length=LN at *;clear hk6 hr6 HROW5 HK5 cm hl0 hq4;go_wp2_with fail
     refine cm6.mono ?_;clear cm6;rintro e w8 ⟨rfl,hk8,hr8⟩;have HP:Hid (vN r g w (l0.1,ZT s l0.2) (.returned (.slice lb5 LN lc5)) w8):=⟨HK6.out.trans hk8,_,rfl,HROW6.out.kept hk8.size fun k hB hlt=>hk8.block k hlt (by omega),hr8⟩
     clear hk8 hr8 HROW6 HK6;go_wp2
     exact bodyPost_ret (v:=.slice lb5 LN lc5) (by simp [results,Tryz.results146,go_sem]) rfl HP.out
    ·rw [hi,Yg hi] at ct
     rw [if_pos hi] at hq4;obtain ⟨-,-,hk0⟩:=Ve hi;have hlt1:=yS hk0;have HQ4:Hid (XU f3 (L++[q3.1]) (false,q3.2.2.tail)=some l0):=hq4;have hlen:(L++[q3.1]).length=L.length+1:=by simp
     rw [hlen] at HROW5 ⊢;clear hq4 cm;go_wp2_with fail
     refine ct.mono ?_;clear ct;rintro e w6 ⟨rfl,hk6,hr6⟩;have HJ:Hid (yh uV 5 40 w.heap.size w6 (L++[q3.1]) (.slice lb5 (L.length+1) lc5)∧z7 r g (false,q3.2.2.tail) w6∧zb r w w6):=⟨HROW5.out.kept yQ hk6.size fun k hB hlt=>hk6.block k hlt (by omega),hr6,HK5.out.trans hk6⟩
     have hlf:yx r w6=q3.2.2.tail.length:=hr6.left;clear hk6 hr6 HROW5 HK5;go_wp2
     refine ⟨⟨L++[q3.1],_,f3,by omega,HQ4.out,?_,HJ.out⟩,?_⟩
     ·rw [hlen];show L.length+1+q3.2.2.tail.length≤_;(try simp only at hq3l);omega
     ·rw [hlf,HLEFT.out];(try simp only at hq3l);omega
   ·rw [if_pos rfl] at hT
    obtain rfl:=Option.some.inj hT;have cm6:=cm wr hrd2';have HROW6:Hid (Z9 w.heap.size wr L (.slice lb L.length lc)):=HROW.out.exs;generalize L.length=LN at *;clear hrd2' cm hT HROW HR2;go_wp2_with fail
    refine cm6.mono ?_;clear cm6;rintro e w8 ⟨rfl,hk8,hr8⟩;have HP:Hid (vN r g w (L,ZT s (true,ts)) (.returned (.slice lb LN lc)) w8):=⟨HK2.out.trans hk8,_,rfl,HROW6.out.kept hk8.size fun k hB hlt=>hk8.block k hlt (by omega),hr8⟩
    clear hk8 hr8 HROW6 HK2;go_wp2
    exact bodyPost_ret (v:=.slice lb LN lc) (by simp [results,Tryz.results146,go_sem]) rfl HP.out
theorem zel (r g F:Nat) (s:List UInt8) (b:Bool) (σ:RS) (w:World) (q:List Ex × RS) (h:z7 r g σ w) (hq:yK (F+1) s b σ=some q) (hex:xN r g F) :
  Calls Tryz.prog 146 #[.pointer (some ⟨r,0,none⟩),.string (za s),.bool b] w (vN r g w q):=by
 by_cases hc:b=false∧ZC s σ=true
 ·obtain ⟨rfl,hs⟩:=hc
  exact zck r g F s σ w q h hs hq
 ·exact zcl r g F s b σ w w q (zb.refl r w) h.lt.1 h.lt.2 h hc hq hex
end Go.Proofs.YtdgpapchkpnijaaGreatDoor
