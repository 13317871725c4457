import Derived.Test.YtpejpbbdgblbeaaGreatDoorMC36
import Derived.Deep.RegionWith
import Derived.Deep.CutRange
import Derived.Test.YtpejpbbdgblbeaaGreatDoorMC23
import Derived.Test.YtpejpbbdgblbeaaGreatDoorMC21
namespace Go.Proofs.YtpejpbbdgblbeaaGreatDoor
open Go.RowKit Go.Shelf
set_option maxHeartbeats 16000000
set_option maxRecDepth 100000
def yp (r g F:Nat):Prop:=∀k,k≤F→∀line σ q w,line≤6→Z7 k line σ=some q→zz r g σ w→Calls Tryz.prog 139 #[.pointer (some ⟨r,0,none⟩),.int .i64 (line:Int)] w (Zo r g w q)
def uF (r g F:Nat):Prop:=∀k,k≤F→∀σ q w,yN k σ=some q→zz r g σ w→Calls Tryz.prog 170 #[.pointer (some ⟨r,0,none⟩)] w (Zo r g w q)
def qH (r g F:Nat):Prop:=∀k,k≤F→∀σ q w,Yk k σ=some q→zz r g σ w→Calls Tryz.prog 190 #[.pointer (some ⟨r,0,none⟩)] w (Zo r g w q)
def zc3 (r g F:Nat):Prop:=∀k,k≤F→∀s b σ q w,Yf k s b σ=some q→zz r g σ w→Calls Tryz.prog 204 #[.pointer (some ⟨r,0,none⟩),.string (za s),.bool b] w (V7 r g w q)
theorem zz.as {r g:Nat} {σ:RS} {w W:World} (h:zz r g σ w) (e:W.heap=w.heap):zz r g σ W:=h.keep (by rw [e]) (by rw [e])
theorem zc.as {r:Nat} {w W w':World} (h:zc r W w') (e1:W.heap=w.heap) (e2:W.os=w.os) (e3:W.tape=w.tape) (e4:W.output=w.output):zc r w w' :=
 ⟨h.os.trans e2,h.tape.trans e3,h.output.trans e4,by rw [←e1];exact h.size,fun k hk hr=>by rw [←e1];exact h.block k (by rw [e1];exact hk) hr⟩
theorem zeE (r g F:Nat) (σ:RS) (w:World) (q:Ex × RS) (h:zz r g σ w) (hq:yN F σ=some q) (hun:uF r g F) :
  Calls Tryz.prog 139 #[.pointer (some ⟨r,0,none⟩),.int .i64 6] w (Zo r g w q):=by
 obtain ⟨w0,hw0⟩:∃w0,w0=w.alloc ZA:=⟨_,rfl⟩;have cu:=hun F (Nat.le_refl _) σ q w0 hq (by rw [hw0];exact h.alloc _)
 have hw0':=hw0.symm;have hs0:w0.heap.size=w.heap.size+1:=by rw [hw0];simp
 have p0:w0.heap[w.heap.size]?=some ZA:=by rw [hw0];exact World.alloc_heap_new w _
 have hk0:zc r w w0:=by rw [hw0];exact (zc.refl r w).alloc _
 obtain ⟨hr,hg⟩:=h.lt;have HK0:Hid (zc r w w0∧w0.heap.size=w.heap.size+1∧w0.heap[w.heap.size]?=some ZA):=⟨hk0,hs0,p0⟩;clear hw0 hs0 p0 hk0 h hq hun
 go_enter Tryz.func139,Tryz.ntmps139
 go_wp2_with fail
 refine cu.mono ?_;clear cu;rintro e w1 ⟨hk1,v,rfl,hx,hrd⟩;obtain ⟨a,b,c,d0,d1,d2,l,rfl⟩:=hx.agg;obtain ⟨hk0,hs0,p0⟩:=HK0.out;have p1:w1.heap[w.heap.size]?=some ZA:=(hk1.block _ (by omega) (by omega)).trans p0
 obtain ⟨q0,q1,q2,q3,q4,qf⟩:=zo p1;obtain ⟨z0,z1,z2,z3,z4⟩:=zA p1 (.int .i64 a) (.string b) (.int .i64 c) (.slice d0 d1 d2) (.int .i64 l)
 have HP:Hid (Zo r g w q (.returned (.agg #[.int .i64 a,.string b,.int .i64 c,.slice d0 d1 d2,.int .i64 l])) (set5 w1 w.heap.size (.int .i64 a) (.string b) (.int .i64 c) (.slice d0 d1 d2) (.int .i64 l))) :=
  Zo.of_set5' (hk0.trans hk1) (Nat.le_refl _) hr hg hx (by omega) hrd
 clear hk1 hx hrd hk0 hs0 p0 p1 HK0 hw0';go_wp2
 exact bodyPost_ret (v:=.agg #[.int .i64 a,.string b,.int .i64 c,.slice d0 d1 d2,.int .i64 l]) (by simp [results,Tryz.results139,go_sem,z0,z1,z2,z3,z4]) rfl HP.out
theorem zc4 (r g F line:Nat) (σ:RS) (w:World) (q:Ex × RS) (h:zz r g σ w) (hl:line≤5) (hq:((Z7 F (line+1) σ).bind fun q=>YN F line q.1 q.2)=some q) (hex:yp r g F) :
  Calls Tryz.prog 139 #[.pointer (some ⟨r,0,none⟩),.int .i64 (line:Int)] w (Zo r g w q):=by
 obtain ⟨q1,hq1,hq2⟩:=Option.bind_eq_some_iff.1 hq;obtain ⟨w0,hw0⟩:∃w0,w0=w.alloc ZA:=⟨_,rfl⟩;have c1:=hex F (Nat.le_refl _) (line+1) σ q1 w0 (by omega) hq1 (by rw [hw0];exact h.alloc _)
 simp only [Int.natCast_add,Int.cast_ofNat_Int] at c1;have hw0':=hw0.symm;have hs0:w0.heap.size=w.heap.size+1:=by rw [hw0];simp
 have p0:w0.heap[w.heap.size]?=some ZA:=by rw [hw0];exact World.alloc_heap_new w _
 have hk0:zc r w w0:=by rw [hw0];exact (zc.refl r w).alloc _
 obtain ⟨hr,hg⟩:=h.lt;have hl6:¬ (line:Int)=6:=by omega
 have hl7:((line:Int)==6)=false:=by rw [beq_eq_false_iff_ne];exact hl6
 have hl8:decide ((line:Int)=6)=false:=decide_eq_false hl6;have HK0:Hid (zc r w w0∧w0.heap.size=w.heap.size+1∧w0.heap[w.heap.size]?=some ZA):=⟨hk0,hs0,p0⟩;have HEX:Hid (yp r g F):=hex;clear hw0 hs0 p0 hk0 h hq hq1 hex
 go_enter Tryz.func139,Tryz.ntmps139
 go_wp2_with fail
 refine c1.mono ?_;clear c1;rintro e w1 ⟨hk1,v,rfl,hx,hrd⟩;obtain ⟨a,b,c,d0,d1,d2,l,rfl⟩:=hx.agg
 have HJ:Hid (v7 r g w1.heap.size F w q (fun f e σ=>YN f line e σ) (w1.alloc (.cells #[.int .i64 a,.string b,.int .i64 c,.slice d0 d1 d2,.int .i64 l] 45))):=by
  obtain ⟨hk0,hs0,p0⟩:=HK0.out;exact ⟨q1.1,q1.2,F,a,b,c,d0,d1,d2,l,Nat.le_refl _,hq2,Yp.start (by omega) p0 hk0 hr hk1 hx hrd⟩
 have hNw:w.heap.size<w1.heap.size:=by have:=hk1.size;have:=HK0.out.2.1;omega
 obtain ⟨N,hNe⟩:∃N,N=w1.heap.size:=⟨_,rfl⟩;rw [←hNe] at HJ hNw;clear hx hrd hk1 HK0 hw0' hq2;go_wp2_with fail
 rw [←hNe];generalize hW0:w1.alloc (.cells #[.int .i64 a,.string b,.int .i64 c,.slice d0 d1 d2,.int .i64 l] 45)=W0 at *;clear hW0 hNe
 go_loopw [6] (fun _ wr=>v7 r g N F w q (fun f e σ=>YN f line e σ) wr) (fun _ wr=>Z8 r wr)
 case atStart=>exact HJ.out
 case round =>
  clear HJ;obtain ⟨e,σ2,f2,a2,b2,c2,p2,q2,s2,l2,hf2,hT,hC⟩:=hrel;obtain rfl:l2=(e.line:Int):=hC.ex.line_eq;obtain ⟨bd,ts⟩:=σ2;have hleft:=hC.rd.left;have HC:Hid (Yp r g N w e (bd,ts) a2 b2 c2 p2 q2 s2 (e.line:Int) wr):=hC;have HLEFT:Hid (Z8 r wr=ts.length):=hleft
  obtain ⟨f3,rfl⟩:∃f3,f2=f3+1:=by
   cases f2 with
   | zero=>simp [YN] at hT
   | succ f3=>exact ⟨f3,rfl⟩
  replace hT:YN (f3+1) line e (bd,ts)=some q:=hT;rw [YN] at hT
  -- what is done where the rounds end
  have HEND:Hid (¬ (bd=false∧(zx ts).k=4∧levelOf (zx ts).s=line+1)→∀W,zc r wr W→zz r g (bd,ts) W→W.heap[N]?=some (.cells #[.int .i64 a2,.string b2,.int .i64 c2,.slice p2 q2 s2,.int .i64 (e.line:Int)] 45 (0,0))∧W.heap[w.heap.size]?=some ZA ∧
    Zo r g w q (.returned (.agg #[.int .i64 a2,.string b2,.int .i64 c2,.slice p2 q2 s2,.int .i64 (e.line:Int)])) (set5 W w.heap.size (.int .i64 a2) (.string b2) (.int .i64 c2) (.slice p2 q2 s2) (.int .i64 (e.line:Int)))):=by
   intro hc W hK hR;rw [if_neg hc] at hT;obtain rfl:=Option.some.inj hT;exact HC.out.leave hr hg hNw hK hR
  cases bd
  ·have cT:=fun W (hW:zz r g (false,ts) W)=>xO r g (false,ts) W hW
   simp only at cT;obtain ⟨t,ht⟩:∃t,t=zx ts:=⟨_,rfl⟩;rw [←ht] at cT hT HEND;have HTT:Hid (t=zx ts):=ht;clear ht;have cA:=cT wr hC.rd;have HR0:Hid (zz r g (false,ts) wr):=hC.rd;obtain ⟨pp,cap,TS,hb⟩:=hC.rd;obtain ⟨m0,m1,m2,mf⟩:=ZN hb.blk;clear hb hC hleft;have hf0:=Xi;have hf1:=UY
   by_cases h4:t.k=4
   ·have h4':(t.k:Int)=4:=by omega
    go_wp2_with fail
    refine cA.mono ?_;clear cA m0 m1 m2 mf;rintro e' wA ⟨rfl,hbA⟩;have cB:=cT wA (HR0.out.below hbA);simp only [Xc];go_wp2_with fail
    refine cB.mono ?_;clear cB;rintro e' wB ⟨rfl,hbB⟩;have kB:zc r wr wB:=(zc.of hbA).trans (zc.of hbB);have rB:zz r g (false,ts) wB:=(HR0.out.below hbA).below hbB;have cL:=zbk t.s wB;clear hbA hbB HR0;simp only [Xc];go_wp2_with fail
    refine cL.mono ?_;clear cL;rintro e' wC ⟨rfl,hbC⟩;have kC:zc r wr wC:=kB.trans (zc.of hbC);have rC:zz r g (false,ts) wC:=rB.below hbC;clear hbC kB rB
    by_cases hlv:levelOf t.s=line+1
    ·rw [if_pos ⟨by first | rfl | trivial,h4,hlv⟩] at hT
     have hlv1:(levelOf t.s:Int)-1=(line:Int):=by omega
     rw [hlv1];have cD:=cT wC rC;go_wp2_with fail
     refine cD.mono ?_;clear cD;rintro e' wD ⟨rfl,hbD⟩;have kD:zc r wr wD:=kC.trans (zc.of hbD);have rD:zz r g (false,ts) wD:=rC.below hbD;clear kC rC hbD cT HEND hlv hlv1;have hkne:(zx ts).k≠0:=by rw [←HTT.out];omega
     obtain ⟨q3,hq3,hq4⟩:=Option.bind_eq_some_iff.1 hT;obtain ⟨pp,cap,TS,hb⟩:=rD;obtain ⟨m0,m1,m2,mf⟩:=ZN hb.blk;have hppl:pp≤1099511627776:=by have:=hb.lt;have:=hb.few;omega
     have hwp:IntKind.i64.wrap ((pp:Int)+1)=(pp:Int)+1:=by rw [IntKind.wrap_i64];omega
     obtain ⟨wE,hwE⟩:∃wE,wE=wD.setCell ⟨r,1,none⟩ (.int .i64 ((pp:Int)+1)):=⟨_,rfl⟩;have kE:zc r wr wE:=by rw [hwE];exact kD.setCell 1 _
     have rE:zz r g (false,ts.tail) wE:=by rw [hwE];exact ⟨_,_,_,hb.step hkne⟩
     have hwE':=hwE.symm;have HKE:Hid (zc r wr wE):=kE;have hlt1:=yV hkne;have hq3l:=(uB f3).1 _ _ _ hq3;have hCE:=HC.out.moved hr hNw kE rE;have HPN:Hid (wE.heap[N]?=some (.cells #[.int .i64 a2,.string b2,.int .i64 c2,.slice p2 q2 s2,.int .i64 (e.line:Int)] 45 (0,0))):=hCE.blk;obtain ⟨n0,n1,n2,n3,n4,nf⟩:=zo hCE.blk;have hNlt:N<wE.heap.size:=(Array.getElem?_eq_some_iff.1 hCE.blk).1
     have cb:∀W:World,W.heap=wE.heap→W.os=wE.os→W.tape=wE.tape→W.output=wE.output→Calls Tryz.prog 139 #[.pointer (some ⟨r,0,none⟩),.int .i64 ((line:Int)+1)] W fun e' w'=>∃(a3:Int) (b3:ByteArray) (c3:Int) (u0:Option Addr) (u1 u2:Nat) (l3:Int),e'=.returned (.agg #[.int .i64 a3,.string b3,.int .i64 c3,.slice u0 u1 u2,.int .i64 l3]) ∧
       w'.heap[N]?=some (.cells #[.int .i64 a2,.string b2,.int .i64 c2,.slice p2 q2 s2,.int .i64 (e.line:Int)] 45 (0,0))∧Hid (zc r wE w'∧ZO wE.heap.size w' q3.1 (.agg #[.int .i64 a3,.string b3,.int .i64 c3,.slice u0 u1 u2,.int .i64 l3])∧zz r g q3.2 w'):=fun W e1 e2 e3 e4=>by
      refine (show Calls Tryz.prog 139 #[.pointer (some ⟨r,0,none⟩),.int .i64 ((line:Int)+1)] W _ from HEX.out f3 (by omega) (line+1) _ q3 W (by omega) hq3 (rE.as e1)).mono ?_
      rintro e' w' ⟨hk,v,rfl,hx,hrd⟩;obtain ⟨a3,b3,c3,u0,u1,u2,l3,rfl⟩:=hx.agg;have hk4:=hk.as e1 e2 e3 e4;rw [e1] at hx;exact ⟨a3,b3,c3,u0,u1,u2,l3,rfl,(hk4.block N hNlt (by omega)).trans HPN.out,hk4,hx,hrd⟩
     have hl7:q3.2.2.length<Z8 r wr:=by rw [HLEFT.out];simp only at hq3l;omega
     have hwr:IntKind.i64.wrap ((line:Int)+1)=(line:Int)+1:=by rw [IntKind.wrap_i64];omega
     have HT:Hid (YN f3 line (.mk 7 t.s 0 [e,q3.1] e.line) q3.2=some q):=hq4;have hf3:f3≤F:=by omega
     clear hb kD kE rE hwE hCE hT hq3 hq4 hq3l hkne HEX;simp only [Xc];go_wp2_with fail
     go_region_with (go_at_call 139;refine (cb _ (by rfl) (by rfl) (by rfl) (by rfl)).mono ?_;rintro e' w7 ⟨a3,b3,c3,u0,u1,u2,l3,rfl,p7,H7⟩;have hN7:N<w7.heap.size:=(Array.getElem?_eq_some_iff.1 p7).1;have p7':=(fun ob=>(Below.heap_alloc w7 ob N hN7).trans p7);obtain ⟨m0,m1,m2,m3,m4,mf⟩:=zo p7;have m0':=ze m0;have m1':=ze m1;have m2':=ze m2;have m3':=ze m3;have m4':=ze m4;have mf':=(fun ob j=>(zo (p7' ob)).2.2.2.2.2 j))
     all_goals
      obtain ⟨hk7,hx7,hrd7⟩:=H7.out;obtain ⟨W,hW⟩:∃W,W=(set5 w7 N (.int .i64 7) (.string (za t.s)) (.int .i64 0) (.slice (some ⟨w7.heap.size,0,none⟩) 2 2) (.int .i64 (e.line:Int))).alloc (.cells #[.int .i64 a2,.string b2,.int .i64 c2,.slice p2 q2 s2,.int .i64 (e.line:Int),.int .i64 a3,.string b3,.int .i64 c3,.slice u0 u1 u2,.int .i64 l3] 45):=⟨_,rfl⟩;have hCW:=Yp.two 7 t.s HC.out hr hg hNw HKE.out hk7 hx7 hrd7 (.int .i64 7) rfl W hW;have HJW:Hid (v7 r g N F w q (fun f e σ=>YN f line e σ) W∧Z8 r W<Z8 r wr):=show _∧_<_ from ⟨⟨_,_,f3,_,_,_,_,_,_,_,hf3,HT.out,hCW⟩,by rw [hCW.rd.left];exact hl7⟩
      change Exit.inBlock _ _ _ _ ((set5 w7 N (.int .i64 7) (.string (za t.s)) (.int .i64 0) (.slice (some ⟨w7.heap.size,0,none⟩) 2 2) (.int .i64 (e.line:Int))).alloc (.cells #[.int .i64 a2,.string b2,.int .i64 c2,.slice p2 q2 s2,.int .i64 (e.line:Int),.int .i64 a3,.string b3,.int .i64 c3,.slice u0 u1 u2,.int .i64 l3] 45))
      rw [←hW];clear hW hCW hrd7 hx7 hk7 p7 p7' m0 m1 m2 m3 m4 mf m0' m1' m2' m3' m4' mf' n0 n1 n2 n3 n4 nf cb H7 HPN HT HKE HC hl7 hwr;go_wp2
      exact HJW.out
    ·obtain ⟨pN,pz,hpo⟩:=HEND.out (fun h=>hlv h.2.2) wC kC rC
     have hlv1:¬ ((levelOf t.s:Int)-1=(line:Int)):=by omega
     generalize (levelOf t.s:Int)-1=LV at *;have hlv2:(LV==(line:Int))=false:=by rw [beq_eq_false_iff_ne];exact hlv1
     have hlv3:decide (LV=(line:Int))=false:=decide_eq_false hlv1;obtain ⟨n0,n1,n2,n3,n4,nf⟩:=zo pN;obtain ⟨z0',z1',z2',z3',z4',zf⟩:=zo pz;obtain ⟨z0,z1,z2,z3,z4⟩:=zA pz (.int .i64 a2) (.string b2) (.int .i64 c2) (.slice p2 q2 s2) (.int .i64 (e.line:Int));have HPO:Hid (Zo r g w q (.returned (.agg #[.int .i64 a2,.string b2,.int .i64 c2,.slice p2 q2 s2,.int .i64 (e.line:Int)])) (set5 wC w.heap.size (.int .i64 a2) (.string b2) (.int .i64 c2) (.slice p2 q2 s2) (.int .i64 (e.line:Int)))):=hpo;clear HEND HC hpo pN pz kC rC cT hT hlv;go_wp2
     exact bodyPost_ret (v:=.agg #[.int .i64 a2,.string b2,.int .i64 c2,.slice p2 q2 s2,.int .i64 (e.line:Int)]) (by simp [results,Tryz.results139,go_sem,z0,z1,z2,z3,z4]) rfl HPO.out
   ·have h4':¬(t.k:Int)=4:=by omega
    go_wp2_with fail
    refine cA.mono ?_;clear cA m0 m1 m2 mf;rintro e' wA ⟨rfl,hbA⟩;obtain ⟨pN,pz,hpo⟩:=HEND.out (fun h=>h4 h.2.1) wA (zc.of hbA) (HR0.out.below hbA)
    clear HEND HC hbA HR0 cT hT;simp only [Xc];obtain ⟨n0,n1,n2,n3,n4,nf⟩:=zo pN;obtain ⟨z0',z1',z2',z3',z4',zf⟩:=zo pz;obtain ⟨z0,z1,z2,z3,z4⟩:=zA pz (.int .i64 a2) (.string b2) (.int .i64 c2) (.slice p2 q2 s2) (.int .i64 (e.line:Int));have HPO:Hid (Zo r g w q (.returned (.agg #[.int .i64 a2,.string b2,.int .i64 c2,.slice p2 q2 s2,.int .i64 (e.line:Int)])) (set5 wA w.heap.size (.int .i64 a2) (.string b2) (.int .i64 c2) (.slice p2 q2 s2) (.int .i64 (e.line:Int)))):=hpo;clear hpo pN pz;go_wp2
    exact bodyPost_ret (v:=.agg #[.int .i64 a2,.string b2,.int .i64 c2,.slice p2 q2 s2,.int .i64 (e.line:Int)]) (by simp [results,Tryz.results139,go_sem,z0,z1,z2,z3,z4]) rfl HPO.out
  ·obtain ⟨pp,cap,TS,hb⟩:=hC.rd
   obtain ⟨m0,m1,m2,mf⟩:=ZN hb.blk;obtain ⟨pN,pz,hpo⟩:=HEND.out (fun h=>by cases h.1) wr (zc.refl _ _) hC.rd
   obtain ⟨n0,n1,n2,n3,n4,nf⟩:=zo pN;obtain ⟨z0',z1',z2',z3',z4',zf⟩:=zo pz;obtain ⟨z0,z1,z2,z3,z4⟩:=zA pz (.int .i64 a2) (.string b2) (.int .i64 c2) (.slice p2 q2 s2) (.int .i64 (e.line:Int));have HPO:Hid (Zo r g w q (.returned (.agg #[.int .i64 a2,.string b2,.int .i64 c2,.slice p2 q2 s2,.int .i64 (e.line:Int)])) (set5 wr w.heap.size (.int .i64 a2) (.string b2) (.int .i64 c2) (.slice p2 q2 s2) (.int .i64 (e.line:Int)))):=hpo;clear HEND HC hpo pN pz hC hb hT hleft;go_wp2
   exact bodyPost_ret (v:=.agg #[.int .i64 a2,.string b2,.int .i64 c2,.slice p2 q2 s2,.int .i64 (e.line:Int)]) (by simp [results,Tryz.results139,go_sem,z0,z1,z2,z3,z4]) rfl HPO.out
theorem Z6.exs {ty B:Nat} {w:World} {l:List Ex} {v:Value} (h:Z6 qW 5 ty B w l v):yQ B w l v:=by
 rcases h with h | ⟨g,cap,us,h⟩
 ·exact .inl h
 ·exact h.row
theorem zW {s:List UInt8} {σ:RS} (h:zO s σ=false):y9 s σ=σ:=by unfold y9;rw [if_neg (by simp [h])]
theorem ZD {s:List UInt8} {σ:RS} (h:zO s σ=true):y9 s σ=(false,σ.2.tail):=by unfold y9;rw [if_pos h]
theorem zc5 {F:Nat} {s:List UInt8} {b:Bool} {σ:RS} {q:List Ex × RS} (h:Yf (F+1) s b σ=some q) (hc:¬ (b=false∧zO s σ=true)):∃l,vH F [] σ=some l∧q=(l.1,mustF s l.2):=by
 rw [Yf,if_neg hc] at h;obtain ⟨y,h1,h2⟩:=Option.bind_eq_some_iff.1 h;exact ⟨y,h1,(Option.some.inj h2).symm⟩
theorem zeF (r g F:Nat) (s:List UInt8) (σ:RS) (w:World) (q:List Ex × RS) (h:zz r g σ w) (hs:zO s σ=true) (hq:Yf (F+1) s false σ=some q) :
  Calls Tryz.prog 204 #[.pointer (some ⟨r,0,none⟩),.string (za s),.bool false] w (V7 r g w q):=by
 rw [Yf,if_pos ⟨rfl,hs⟩] at hq;obtain rfl:=Option.some.inj hq;have cs:=Zd r g σ s w h;rw [hs,ZD hs] at cs;clear h hq hs
 go_enter Tryz.func204,Tryz.ntmps204
 go_wp2_with fail
 refine cs.mono ?_;clear cs;rintro e w1 ⟨rfl,hk1,hr1⟩;have HP:Hid (V7 r g w ([],(false,σ.2.tail)) (.returned (.slice none 0 0)) w1):=⟨hk1,_,rfl,.inl ⟨rfl,rfl⟩,hr1⟩;clear hk1 hr1;go_wp2
 exact bodyPost_ret (v:=.slice none 0 0) (by simp [results,Tryz.results204,go_sem]) rfl HP.out
theorem zeG (r g F:Nat) (s:List UInt8) (b:Bool) (σ:RS) (w wA:World) (q:List Ex × RS) (hk:zc r w wA) (hr:r<w.heap.size) (hg:g<w.heap.size) (h:zz r g σ wA) (hc:¬ (b=false∧zO s σ=true)) (hq:Yf (F+1) s b σ=some q) (hex:yp r g F) :
  Calls Tryz.prog 204 #[.pointer (some ⟨r,0,none⟩),.string (za s),.bool b] wA (V7 r g w q):=by
 obtain ⟨i0,hi0,hz0,hz1,hz2⟩:=info_parts uV;obtain ⟨l0,hl0,rfl⟩:=zc5 hq hc;have HQ:Hid (vH F [] σ=some l0):=hl0;have HEX:Hid (yp r g F):=hex;have HK:Hid (zc r w wA):=hk;have cs:=Zd r g σ s wA h;have HR:Hid (zz r g σ wA):=h;have hfew:=h.few;clear hl0 hq hex hk h;cases b
 case' false =>
  have hs:zO s σ=false:=by simpa using hc
  rw [hs,zW hs] at cs;clear hc HR hs
  go_enter Tryz.func204,Tryz.ntmps204
  go_wp2_with fail
  refine cs.mono ?_;clear cs;rintro e w1 ⟨rfl,hk1,hr1⟩;have HR1:Hid (zz r g σ w1):=hr1;have HK1:Hid (zc r w w1):=HK.out.trans hk1;clear hk1 hr1 HK;go_wp2_with fail
 case' true =>
  clear hc cs;have HR1:Hid (zz r g σ wA):=HR.out;have HK1:Hid (zc r w wA):=HK.out;clear HR HK
  go_enter Tryz.func204,Tryz.ntmps204
  go_wp2_with fail
 all_goals
  go_loopw [7] (fun v wr=>∃(L:List Ex) (σ2:RS) (f2:Nat),f2≤F∧vH f2 L σ2=some l0∧L.length+σ2.2.length≤1099511627776∧Z6 qW 5 45 w.heap.size wr L v∧zz r g σ2 wr∧zc r w wr) (fun _ wr=>Z8 r wr)
  case atStart=>exact ⟨[],σ,F,Nat.le_refl _,HQ.out,by simpa using hfew,Z6.nil _ _ _ _ _,HR1.out,HK1.out⟩
  case round =>
   obtain ⟨L,σ2,f2,hf2,hT,hN2,hrow,hrd2,hk2⟩:=hrel;clear HR1 HK1 HQ;obtain ⟨bd,ts⟩:=σ2;have HLEFT:Hid (Z8 r wr=ts.length):=hrd2.left;have HROW:Hid (Z6 qW 5 45 w.heap.size wr L _):=hrow;have HK2:Hid (zc r w wr):=hk2;have HR2:Hid (zz r g (bd,ts) wr):=hrd2;obtain ⟨lb,lc,hval⟩:=hrow.slice;subst hval
   obtain ⟨f3,rfl⟩:∃f3,f2=f3+1:=by
    cases f2 with
    | zero=>simp [vH] at hT
    | succ f3=>exact ⟨f3,rfl⟩
   rw [vH] at hT;have cm:=fun (W:World) (hW:zz r g l0.2 W)=>yD r g l0.2 s W hW
   have hrd2':=hrd2;obtain ⟨pp,cap,TS,hb⟩:=hrd2;obtain ⟨m0,m1,m2,mf⟩:=ZN hb.blk;clear hb hrow hk2;cases bd
   ·rw [if_neg (by simp)] at hT
    obtain ⟨q3,hq3,hq4⟩:=Option.bind_eq_some_iff.1 hT;have hq3l:=(uB f3).1 _ _ _ hq3;have c3:=HEX.out f3 (by omega) 0 _ q3 wr (by omega) hq3 hrd2'
    have c3':Calls Tryz.prog 139 #[.pointer (some ⟨r,0,none⟩),.int .i64 0] wr (Zo r g wr q3):=c3;clear c3 hrd2' hq3 hT;go_wp2_with fail
    refine c3'.mono ?_;clear c3' m0 m1 m2 mf;rintro e w4 ⟨hk4,v,rfl,hx,hrd⟩;have HK4:Hid (zc r w w4):=HK2.out.trans hk4;obtain ⟨a4,b4,c4,p4,q4,s4,l4,rfl⟩:=hx.agg;have hrow4:=HROW.out.kept YJ hk4.size fun k hB hlt=>hk4.block k hlt (by omega)
    have hsz3:w.heap.size≤wr.heap.size:=HK2.out.size;have hsz4:w.heap.size≤w4.heap.size:=HK4.out.size;obtain ⟨us,hown,hnext⟩:=hrow4.more YJ;have HX4:Hid (qW (fun k=>wr.heap.size≤k) w4 q3.1 [.int .i64 a4,.string b4,.int .i64 c4,.slice p4 q4 s4,.int .i64 l4]):=hx
    have HB3:Hid (∀q,(Value.slice lb L.length lc).ownBlock=some q→q<wr.heap.size):=fun q hq=>(HROW.out.block q hq).2
    have HBB:Hid (∀q,(Value.slice lb L.length lc).ownBlock=some q→w.heap.size≤q):=fun q hq=>(HROW.out.block q hq).1
    have HNX:Hid (∀{w':World} {v':Value} {x:Ex} {c:List Value} {ob:Obj} {N:Nat},qW (fun k=>N≤k) w4 x c→w.heap.size≤N→(∀q,(Value.slice lb L.length lc).ownBlock=some q→q<N)→c.length=5→w'.ownsRow w.heap.size 45 5 v' (L.length+1) (us.flatten++c)→(w4.alloc ob).grownBy w' (Value.slice lb L.length lc).ownBlock→(v'.ownBlock=(Value.slice lb L.length lc).ownBlock∨v'.ownBlock=some (w4.alloc ob).heap.size)→Z6 qW 5 45 w.heap.size w' (L++[x]) v'):=hnext
    have HRD:Hid (zz r g q3.2 w4):=hrd;have HOWN:=(hown.alloc (.cells #[.int .i64 a4,.string b4,.int .i64 c4,.slice p4 q4 s4,.int .i64 l4] 45));have hLb:L.length≤1099511627776:=by omega
    clear hrow4 hx hrd hk4 hown hnext
    go_wp2_with (at_builtin;refine wpList_append_own_at _ rfl _ _ 43 rfl w.heap.size 45 i0 _ 5 64 Tryz.underlying43 hi0 hz0 hz1 hz2 rfl (by decide) _ _ _ rfl HOWN ⟨w4.heap.size,0,none⟩ 1 1 [.int .i64 a4,.string b4,.int .i64 c4,.slice p4 q4 s4,.int .i64 l4] rfl rfl (Zl _ _ _) (by simp [Value.oneCell']) (by unfold maxLen;omega) (by omega) (by simp;omega) ?_;intro v' w5 hown' hgrow _ hat)
    have hrow5:=HNX.out (ob:=.cells #[.int .i64 a4,.string b4,.int .i64 c4,.slice p4 q4 s4,.int .i64 l4] 45) HX4.out hsz3 HB3.out rfl hown' hgrow hat
    have hk5:zc r w w5:=(HK4.out.alloc _).grown hgrow HBB.out;have hrd5:zz r g q3.2 w5:=HRD.out.keep ((hgrow.block r (by simp;omega) (fun e=>by have:=HBB.out r e.symm;omega)).trans (Below.heap_alloc _ _ _ (by omega))) ((hgrow.block g (by simp;omega) (fun e=>by have:=HBB.out g e.symm;omega)).trans (Below.heap_alloc _ _ _ (by omega)))
    have HROW5:Hid (Z6 qW 5 45 w.heap.size w5 (L++[q3.1]) v'):=hrow5;have HK5:Hid (zc r w w5):=hk5;have ct:=Zd r g q3.2 [44] w5 hrd5;obtain ⟨lb5,lc5,hval5⟩:=hrow5.slice;subst hval5;clear hrow5 hk5 hrd5 hown' hgrow hat HNX HX4 HB3 HBB HRD HOWN HROW HK2 HK4 HR2;cases hi:zO [44] q3.2
    ·rw [hi,zW hi] at ct
     rw [if_neg (by simp [hi])] at hq4
     have hl0:=Option.some.inj hq4;go_wp2_with fail
     refine ct.mono ?_;clear ct;rintro e w6 ⟨rfl,hk6,hr6⟩;have cm6:=cm w6 (by rw [←hl0];exact hr6)
     have HK6:Hid (zc r w w6):=HK5.out.trans hk6;have HROW6:Hid (yQ w.heap.size w6 l0.1 (.slice lb5 (L++[q3.1]).length lc5)):=by rw [←hl0];exact (HROW5.out.kept YJ hk6.size fun k hB hlt=>hk6.block k hlt (by omega)).exs
     generalize (L++[q3.1]).length=LN at *;clear hk6 hr6 HROW5 HK5 cm hl0 hq4;go_wp2_with fail
     refine cm6.mono ?_;clear cm6;rintro e w8 ⟨rfl,hk8,hr8⟩;have HP:Hid (V7 r g w (l0.1,mustF s l0.2) (.returned (.slice lb5 LN lc5)) w8):=⟨HK6.out.trans hk8,_,rfl,HROW6.out.kept hk8.size fun k hB hlt=>hk8.block k hlt (by omega),hr8⟩
     clear hk8 hr8 HROW6 HK6;go_wp2
     exact bodyPost_ret (v:=.slice lb5 LN lc5) (by simp [results,Tryz.results204,go_sem]) rfl HP.out
    ·rw [hi,ZD hi] at ct
     rw [if_pos hi] at hq4;obtain ⟨-,-,hk0⟩:=Yo hi;have hlt1:=yV hk0;have HQ4:Hid (vH f3 (L++[q3.1]) (false,q3.2.2.tail)=some l0):=hq4;have hlen:(L++[q3.1]).length=L.length+1:=by simp
     rw [hlen] at HROW5 ⊢;clear hq4 cm;go_wp2_with fail
     refine ct.mono ?_;clear ct;rintro e w6 ⟨rfl,hk6,hr6⟩;have HJ:Hid (Z6 qW 5 45 w.heap.size w6 (L++[q3.1]) (.slice lb5 (L.length+1) lc5)∧zz r g (false,q3.2.2.tail) w6∧zc r w w6):=⟨HROW5.out.kept YJ hk6.size fun k hB hlt=>hk6.block k hlt (by omega),hr6,HK5.out.trans hk6⟩
     have hlf:Z8 r w6=q3.2.2.tail.length:=hr6.left;clear hk6 hr6 HROW5 HK5;go_wp2
     refine ⟨⟨L++[q3.1],_,f3,by omega,HQ4.out,?_,HJ.out⟩,?_⟩
     ·rw [hlen];show L.length+1+q3.2.2.tail.length≤_;(try simp only at hq3l);omega
     ·rw [hlf,HLEFT.out];(try simp only at hq3l);omega
   ·rw [if_pos rfl] at hT
    obtain rfl:=Option.some.inj hT;have cm6:=cm wr hrd2';have HROW6:Hid (yQ w.heap.size wr L (.slice lb L.length lc)):=HROW.out.exs;generalize L.length=LN at *;clear hrd2' cm hT HROW HR2;go_wp2_with fail
    refine cm6.mono ?_;clear cm6;rintro e w8 ⟨rfl,hk8,hr8⟩;have HP:Hid (V7 r g w (L,mustF s (true,ts)) (.returned (.slice lb LN lc)) w8):=⟨HK2.out.trans hk8,_,rfl,HROW6.out.kept hk8.size fun k hB hlt=>hk8.block k hlt (by omega),hr8⟩
    clear hk8 hr8 HROW6 HK2;go_wp2
    exact bodyPost_ret (v:=.slice lb LN lc) (by simp [results,Tryz.results204,go_sem]) rfl HP.out
theorem zg0 (r g F:Nat) (s:List UInt8) (b:Bool) (σ:RS) (w:World) (q:List Ex × RS) (h:zz r g σ w) (hq:Yf (F+1) s b σ=some q) (hex:yp r g F) :
  Calls Tryz.prog 204 #[.pointer (some ⟨r,0,none⟩),.string (za s),.bool b] w (V7 r g w q):=by
 by_cases hc:b=false∧zO s σ=true
 ·obtain ⟨rfl,hs⟩:=hc
  exact zeF r g F s σ w q h hs hq
 ·exact zeG r g F s b σ w w q (zc.refl r w) h.lt.1 h.lt.2 h hc hq hex
theorem zbR {P:Tk→Prop} {s:List UInt8} {σ:RS} (hP:∀t∈σ.2,P t):∀t∈(mustF s σ).2,P t:=by
 unfold mustF
 split
 ·exact zy hP
 ·exact hP
theorem zbS {P:Tk→Prop} {σ:RS} (hP:∀t∈σ.2,P t):∀t∈(nameF σ).2.2,P t:=by
 unfold nameF
 split
 ·exact zy hP
 ·exact hP
theorem zdL {P:Tk→Prop}:∀(F:Nat) (σ:RS) (q:List UInt8 × RS),xS F σ=some q→(∀t∈σ.2,P t)→∀t∈q.2.2,P t
 | 0,σ,q,hq,_=>by simp [xS] at hq
 | F+1,σ,q,hq,hP=>by
  rw [xS] at hq
  split at hq
  ·obtain ⟨y,h1,h2⟩:=Option.bind_eq_some_iff.1 hq
   obtain rfl:=Option.some.inj h2;exact zbR (zdL F _ _ h1 (zy hP))
  ·obtain rfl:=Option.some.inj hq
   exact zbS hP
theorem Q6:∀(F:Nat) (σ:RS) (q:List UInt8 × RS),xS F σ=some q→q.2.2.length≤σ.2.length
 | 0,σ,q,hq=>by simp [xS] at hq
 | F+1,σ,q,hq=>by
  rw [xS] at hq
  split at hq
  ·obtain ⟨y,h1,h2⟩:=Option.bind_eq_some_iff.1 hq
   obtain rfl:=Option.some.inj h2;exact Nat.le_trans (yG _ _) (Nat.le_trans (Q6 F _ _ h1) (Zw _))
  ·obtain rfl:=Option.some.inj hq
   exact Xd _
def zc6 (r g:Nat) (w:World) (q:List Pm × RS) (e:Ending) (w':World):Prop:=zc r w w'∧∃v,e=.returned v∧ye w.heap.size w' q.1 v∧zz r g q.2 w'
abbrev SmT (ts:List Tk):Prop:=∀t∈ts,t.s.length≤1099511627776
theorem zbU (r g F:Nat) (σ:RS) (w:World) (l0:List Pm × RS) (h:zz r g σ w) (hq:yP F [] σ=some l0) (hM:SmT σ.2) :
  Calls Tryz.prog 62 #[.pointer (some ⟨r,0,none⟩)] w (zc6 r g w l0):=by
 obtain ⟨i0,hi0,hz0,hz1,hz2⟩:=info_parts qg;obtain ⟨hr,hg⟩:=h.lt;have HQ:Hid (yP F [] σ=some l0):=hq;have HK1:Hid (zc r w w):=zc.refl r w;have HR1:Hid (zz r g σ w):=h;have HM:Hid (SmT σ.2):=hM;have hfew:=h.few;clear hq h hM
 go_enter Tryz.func62,Tryz.ntmps62
 go_wp2_with fail
 go_loopw [3] (fun v wr=>∃(L:List Pm) (σ2:RS) (f2:Nat),yP f2 L σ2=some l0∧SmT σ2.2∧L.length+σ2.2.length≤1099511627776∧Z6 PmE 2 117 w.heap.size wr L v∧zz r g σ2 wr∧zc r w wr) (fun _ wr=>Z8 r wr)
 case atStart=>exact ⟨[],σ,F,HQ.out,HM.out,by simpa using hfew,Z6.nil _ _ _ _ _,HR1.out,HK1.out⟩
 case round =>
  obtain ⟨L,σ2,f2,hT,hM2,hN2,hrow,hrd2,hk2⟩:=hrel;clear HR1 HK1 HQ HM;obtain ⟨bd,ts⟩:=σ2;have HLEFT:Hid (Z8 r wr=ts.length):=hrd2.left;have HROW:Hid (Z6 PmE 2 117 w.heap.size wr L _):=hrow;have HK2:Hid (zc r w wr):=hk2;have HR2:Hid (zz r g (bd,ts) wr):=hrd2;obtain ⟨lb,lc,hval⟩:=hrow.slice;subst hval
  obtain ⟨f3,rfl⟩:∃f3,f2=f3+1:=by
   cases f2 with
   | zero=>simp [yP] at hT
   | succ f3=>exact ⟨f3,rfl⟩
  rw [yP] at hT;have cn:=V3 r g (bd,ts) wr hrd2;obtain ⟨pp,cap,TS,hb⟩:=hrd2;obtain ⟨m0,m1,m2,mf⟩:=ZN hb.blk;clear hb hrow hk2;cases bd
  ·rw [if_neg (by simp)] at hT
   obtain ⟨q3,hq3,hq4⟩:=Option.bind_eq_some_iff.1 hT;have hm1:SmT (nameF (false,ts)).2.2:=zbS hM2;have hn1:=Xd (false,ts);have hn2:=yG [58] (nameF (false,ts)).2;have hm2:SmT (mustF [58] (nameF (false,ts)).2).2:=zbR hm1;have hm3:SmT q3.2.2:=zdL _ _ _ hq3 hm2;have hn3:=Q6 _ _ _ hq3;have hmm:∀W,zz r g (mustF [58] (nameF (false,ts)).2) W→Calls Tryz.prog 64 #[.pointer (some ⟨r,0,none⟩)] W fun e w'=>e=.returned (.string (za q3.1))∧zc r W w'∧zz r g q3.2 w':=fun W hW=>zdK r g f3 _ W q3 hW hq3 hm2
   have HMM:Hid (∀W,zz r g (mustF [58] (nameF (false,ts)).2) W→Calls Tryz.prog 64 #[.pointer (some ⟨r,0,none⟩)] W fun e w'=>e=.returned (.string (za q3.1))∧zc r W w'∧zz r g q3.2 w'):=hmm
   have HQ4:Hid ((if zO [44] q3.2=true then yP f3 (L++[((nameF (false,ts)).1,q3.1)]) (false,q3.2.2.tail) else some (L++[((nameF (false,ts)).1,q3.1)],q3.2))=some l0):=hq4
   have HLL:Hid (q3.2.2.length≤ts.length):=Nat.le_trans hn3 (Nat.le_trans hn2 hn1);have HM3:Hid (SmT q3.2.2):=hm3;clear hT hq3 hq4 hm1 hn1 hn2 hm2 hm3 hn3 hmm hM2 HR2;generalize (nameF (false,ts)).1=nm at *;go_wp2_with fail
   refine cn.mono ?_;clear cn m0 m1 m2 mf;rintro e w2 ⟨rfl,hk2,hr2⟩;have cm:=yD r g _ [58] w2 hr2;go_wp2_with fail
   refine cm.mono ?_;clear cm;rintro e w3 ⟨rfl,hk3,hr3⟩;have ct:=HMM.out w3 hr3;clear HMM;go_wp2_with fail
   refine ct.mono ?_;clear ct;rintro e w4 ⟨rfl,hk4,hrd⟩;have hk24:zc r wr w4:=(hk2.trans hk3).trans hk4;have HK4:Hid (zc r w w4):=HK2.out.trans hk24;have hrow4:=HROW.out.kept yj hk24.size fun k hB hlt=>hk24.block k hlt (by omega)
   have hsz3:w.heap.size≤wr.heap.size:=HK2.out.size;have hsz4:w.heap.size≤w4.heap.size:=HK4.out.size;obtain ⟨us,hown,hnext⟩:=hrow4.more yj;have HB3:Hid (∀q,(Value.slice lb L.length lc).ownBlock=some q→q<w4.heap.size):=fun q hq=>(hrow4.block q hq).2
   have HBB:Hid (∀q,(Value.slice lb L.length lc).ownBlock=some q→w.heap.size≤q):=fun q hq=>(HROW.out.block q hq).1
   have HRD:Hid (zz r g q3.2 w4):=hrd;have HOWN:=(hown.alloc (.cells #[.string (za nm),.string (za q3.1)] 117));have hLb:L.length≤1099511627776:=by omega
   have HNX:=(show Hid _ from @hnext)
   clear hrow4 hrd hk4 hk3 hk2 hr2 hr3 hk24 hown hnext
   go_wp2_with (at_builtin;refine wpList_append_own_at _ rfl _ _ 69 rfl w.heap.size 117 i0 _ 2 32 Tryz.underlying69 hi0 hz0 hz1 hz2 rfl (by decide) _ _ _ rfl HOWN ⟨w4.heap.size,0,none⟩ 1 1 [.string (za nm),.string (za q3.1)] rfl rfl (Zl _ _ _) (by simp [Value.oneCell']) (by unfold maxLen;omega) (by omega) (by simp;omega) ?_;intro v' w5 hown' hgrow _ hat)
   have hrow5:=HNX.out (x:=(nm,q3.1)) (c:=[.string (za nm),.string (za q3.1)]) (ob:=.cells #[.string (za nm),.string (za q3.1)] 117) (N:=w4.heap.size) rfl hsz4 HB3.out rfl hown' hgrow hat
   have hk5:zc r w w5:=(HK4.out.alloc _).grown hgrow HBB.out;have hrd5:zz r g q3.2 w5:=HRD.out.keep ((hgrow.block r (by simp;omega) (fun e=>by have:=HBB.out r e.symm;omega)).trans (Below.heap_alloc _ _ _ (by omega))) ((hgrow.block g (by simp;omega) (fun e=>by have:=HBB.out g e.symm;omega)).trans (Below.heap_alloc _ _ _ (by omega)))
   have HROW5:Hid (Z6 PmE 2 117 w.heap.size w5 (L++[(nm,q3.1)]) v'):=hrow5;have HK5:Hid (zc r w w5):=hk5;have hk5s:w.heap.size≤w5.heap.size:=hk5.size;have ck:=Zd r g q3.2 [44] w5 hrd5;obtain ⟨lb5,lc5,hval5⟩:=hrow5.slice;subst hval5;clear hrow5 hk5 hrd5 hown' hgrow hat HNX HB3 HBB HRD HOWN HROW HK2 HK4;have hq4:=HQ4.out;clear HQ4;cases hi:zO [44] q3.2
   ·rw [hi,zW hi] at ck
    rw [if_neg (by simp [hi])] at hq4
    obtain rfl:=Option.some.inj hq4;have hlen:(L++[(nm,q3.1)]).length=L.length+1:=by simp
    rw [hlen] at HROW5 ⊢;go_wp2_with fail
    refine ck.mono ?_;clear ck;rintro e w6 ⟨rfl,hk6,hr6⟩;have HP:Hid (zc6 r g w (L++[(nm,q3.1)],q3.2) (.returned (.slice lb5 (L.length+1) lc5)) w6):=⟨HK5.out.trans hk6,_,rfl,HROW5.out.kept yj hk6.size fun k hB hlt=>hk6.block k hlt (by omega),hr6⟩
    clear hk6 hr6 HROW5 HK5 hq4;go_wp2
    exact bodyPost_ret (v:=.slice lb5 (L.length+1) lc5) (by simp [results,Tryz.results62,go_sem]) rfl HP.out
   ·rw [hi,ZD hi] at ck
    rw [if_pos hi] at hq4;obtain ⟨-,-,hk0⟩:=Yo hi;have hlt1:=yV hk0;have HQ4:Hid (yP f3 (L++[(nm,q3.1)]) (false,q3.2.2.tail)=some l0):=hq4;have hlen:(L++[(nm,q3.1)]).length=L.length+1:=by simp
    rw [hlen] at HROW5 ⊢;clear hq4;go_wp2_with fail
    refine ck.mono ?_;clear ck;rintro e w6 ⟨rfl,hk6,hr6⟩;have HJ:Hid (Z6 PmE 2 117 w.heap.size w6 (L++[(nm,q3.1)]) (.slice lb5 (L.length+1) lc5)∧zz r g (false,q3.2.2.tail) w6∧zc r w w6):=⟨HROW5.out.kept yj hk6.size fun k hB hlt=>hk6.block k hlt (by omega),hr6,HK5.out.trans hk6⟩
    have hlf:Z8 r w6=q3.2.2.tail.length:=hr6.left;clear hk6 hr6 HROW5 HK5;go_wp2
    have hll:=HLL.out;refine ⟨⟨L++[(nm,q3.1)],_,f3,HQ4.out,zy HM3.out,?_,HJ.out⟩,?_⟩
    ·rw [hlen];show L.length+1+q3.2.2.tail.length≤_;(try simp only at hN2);omega
    ·rw [hlf,HLEFT.out];omega
  ·rw [if_pos rfl] at hT
   obtain rfl:=Option.some.inj hT;have HP:Hid (zc6 r g w (L,(true,ts)) (.returned (.slice lb L.length lc)) wr):=⟨HK2.out,_,rfl,HROW.out,HR2.out⟩;clear cn hT HROW HR2 HK2;go_wp2
   exact bodyPost_ret (v:=.slice lb L.length lc) (by simp [results,Tryz.results62,go_sem]) rfl HP.out
theorem Zy (s:List UInt8) (σ:RS):(mustF s σ).2 <:+ σ.2:=by
 unfold mustF
 split
 ·exact List.tail_suffix _
 ·exact List.suffix_refl _
theorem YL (σ:RS):(nameF σ).2.2 <:+ σ.2:=by
 unfold nameF
 split
 ·exact List.tail_suffix _
 ·exact List.suffix_refl _
theorem YI {α β:Type} {x:Option α} {k:α→Option β} {q:β} (h:x.bind k=some q):∃y,x=some y∧k y=some q:=Option.bind_eq_some_iff.1 h
theorem ziA (f:Nat) :
  (∀line σ q,Z7 f line σ=some q→q.2.2 <:+ σ.2)∧(∀line e σ q,YN f line e σ=some q→q.2.2 <:+ σ.2) ∧
  (∀σ q,yN f σ=some q→q.2.2 <:+ σ.2)∧(∀e σ q,ZC f e σ=some q→q.2.2 <:+ σ.2)∧(∀σ q,Yk f σ=some q→q.2.2 <:+ σ.2) ∧
  (∀s b σ q,Yf f s b σ=some q→q.2.2 <:+ σ.2)∧(∀pre σ q,vH f pre σ=some q→q.2.2 <:+ σ.2):=by
 induction f with
 | zero=>refine ⟨?_,?_,?_,?_,?_,?_,?_⟩ <;> intros <;> rename_i h <;> simp [Z7,YN,yN,ZC,Yk,Yf,vH] at h
 | succ f ih =>
  obtain ⟨i1,i2,i3,i4,i5,i6,i7⟩:=ih;refine ⟨fun line σ q h=>?_,fun line e σ q h=>?_,fun σ q h=>?_,fun e σ q h=>?_,fun σ q h=>?_,fun s b σ q h=>?_,fun pre σ q h=>?_⟩
  ·rw [Z7] at h
   split at h
   ·exact i3 _ _ h
   ·obtain ⟨y,h1,h2⟩:=Option.bind_eq_some_iff.1 h
    exact List.IsSuffix.trans (i2 _ _ _ _ h2) (i1 _ _ _ h1)
  ·rw [YN] at h
   split at h
   ·obtain ⟨y,h1,h2⟩:=Option.bind_eq_some_iff.1 h
    exact List.IsSuffix.trans (i2 _ _ _ _ h2) (List.IsSuffix.trans (i1 _ _ _ h1) (List.tail_suffix _))
   ·obtain rfl:=Option.some.inj h;exact List.suffix_refl _
  ·rw [yN] at h
   split at h
   ·obtain ⟨y,h1,h2⟩:=Option.bind_eq_some_iff.1 h
    obtain rfl:=Option.some.inj h2;have a:=i3 _ _ h1;exact List.IsSuffix.trans a (List.tail_suffix _)
   split at h
   ·obtain ⟨y,h1,h2⟩:=Option.bind_eq_some_iff.1 h
    obtain rfl:=Option.some.inj h2;have a:=i3 _ _ h1;exact List.IsSuffix.trans a (List.tail_suffix _)
   ·obtain ⟨y,h1,h2⟩:=Option.bind_eq_some_iff.1 h
    exact List.IsSuffix.trans (i4 _ _ _ h2) (i5 _ _ h1)
  ·rw [ZC] at h
   split at h
   ·obtain ⟨y,h1,h2⟩:=Option.bind_eq_some_iff.1 h
    exact List.IsSuffix.trans (i4 _ _ _ h2) (List.IsSuffix.trans (Zy _ _) (List.IsSuffix.trans (i1 _ _ _ h1) (List.tail_suffix _)))
   split at h
   ·exact List.IsSuffix.trans (i4 _ _ _ h) (List.IsSuffix.trans (YL _) (List.tail_suffix _))
   ·obtain rfl:=Option.some.inj h;exact List.suffix_refl _
  ·rw [Yk] at h
   by_cases c:σ.1=true
   ·rw [if_pos c] at h
    obtain rfl:=Option.some.inj h;exact List.suffix_refl _
   rw [if_neg c] at h;clear c
   by_cases c:(zx σ.2).k=2
   ·rw [if_pos c] at h
    obtain rfl:=Option.some.inj h;exact List.tail_suffix _
   rw [if_neg c] at h;clear c
   by_cases c:(zx σ.2).k=3
   ·rw [if_pos c] at h
    obtain rfl:=Option.some.inj h;exact List.tail_suffix _
   rw [if_neg c] at h;clear c
   by_cases c:zn (zx σ.2) [116,114,117,101]=true
   ·rw [if_pos c] at h
    obtain rfl:=Option.some.inj h;exact List.tail_suffix _
   rw [if_neg c] at h;clear c
   by_cases c:zn (zx σ.2) [102,97,108,115,101]=true
   ·rw [if_pos c] at h
    obtain rfl:=Option.some.inj h;exact List.tail_suffix _
   rw [if_neg c] at h;clear c
   by_cases c:zn (zx σ.2) [110,101,119]=true
   ·rw [if_pos c] at h
    obtain ⟨y,h1,h2⟩:=Option.bind_eq_some_iff.1 h;obtain rfl:=Option.some.inj h2;exact List.IsSuffix.trans (i6 _ _ _ _ h1) (List.IsSuffix.trans (Zy _ _) (List.IsSuffix.trans (YL _) (List.tail_suffix _)))
   rw [if_neg c] at h;clear c
   by_cases c:zn (zx σ.2) [91]=true
   ·rw [if_pos c] at h
    obtain ⟨y,h1,h2⟩:=Option.bind_eq_some_iff.1 h;obtain rfl:=Option.some.inj h2;exact List.IsSuffix.trans (i6 _ _ _ _ h1) (List.tail_suffix _)
   rw [if_neg c] at h;clear c
   by_cases c:zn (zx σ.2) [40]=true
   ·rw [if_pos c] at h
    obtain ⟨y,h1,h2⟩:=Option.bind_eq_some_iff.1 h;obtain rfl:=Option.some.inj h2;have a:=i1 _ _ _ h1;exact List.IsSuffix.trans (Zy _ _) (List.IsSuffix.trans a (List.tail_suffix _))
   rw [if_neg c] at h;clear c
   by_cases c:(zx σ.2).k=1
   ·rw [if_pos c] at h
    by_cases d:zn (zx σ.2.tail) [40]=true
    ·rw [if_pos d] at h
     obtain ⟨y,h1,h2⟩:=Option.bind_eq_some_iff.1 h;obtain rfl:=Option.some.inj h2;exact List.IsSuffix.trans (i6 _ _ _ _ h1) (List.IsSuffix.trans (List.tail_suffix _) (List.tail_suffix _))
    ·rw [if_neg d] at h
     obtain rfl:=Option.some.inj h;exact List.tail_suffix _
   rw [if_neg c] at h;clear c;obtain rfl:=Option.some.inj h;exact List.suffix_refl _
  ·rw [Yf] at h
   split at h
   ·obtain rfl:=Option.some.inj h;exact List.tail_suffix _
   ·obtain ⟨y,h1,h2⟩:=Option.bind_eq_some_iff.1 h
    obtain rfl:=Option.some.inj h2;exact List.IsSuffix.trans (Zy _ _) (i7 _ _ _ h1)
  ·rw [vH] at h
   split at h
   ·obtain rfl:=Option.some.inj h;exact List.suffix_refl _
   ·obtain ⟨y,h1,h2⟩:=Option.bind_eq_some_iff.1 h
    split at h2
    ·exact List.IsSuffix.trans (i7 _ _ _ h2) (List.IsSuffix.trans (List.tail_suffix _) (i1 _ _ _ h1))
    ·obtain rfl:=Option.some.inj h2
     exact i1 _ _ _ h1
theorem qI:∀(F:Nat) (σ:RS) (q:List UInt8 × RS),xS F σ=some q→q.2.2 <:+ σ.2
 | 0,σ,q,hq=>by simp [xS] at hq
 | F+1,σ,q,hq=>by
  rw [xS] at hq
  split at hq
  ·obtain ⟨y,h1,h2⟩:=YI hq
   obtain rfl:=Option.some.inj h2;exact (Zy _ _).trans ((qI F _ _ h1).trans (List.tail_suffix _))
  ·obtain rfl:=Option.some.inj hq
   exact YL _
theorem XJ:∀(F:Nat) (pre:List Pm) (σ:RS) (q:List Pm × RS),yP F pre σ=some q→q.2.2 <:+ σ.2
 | 0,pre,σ,q,hq=>by simp [yP] at hq
 | F+1,pre,σ,q,hq=>by
  rw [yP] at hq
  split at hq
  ·obtain rfl:=Option.some.inj hq;exact List.suffix_refl _
  ·obtain ⟨y,h1,h2⟩:=YI hq
   have a:=(qI F _ _ h1).trans ((Zy _ _).trans (YL _))
   split at h2
   ·exact (XJ F _ _ _ h2).trans ((List.tail_suffix _).trans a)
   ·obtain rfl:=Option.some.inj h2
    exact a
theorem ziB (f:Nat):(∀σ q,Xu f σ=some q→q.2.2 <:+ σ.2)∧(∀σ q,yK f σ=some q→q.2.2 <:+ σ.2)∧(∀pre σ q,Yv f pre σ=some q→q.2.2 <:+ σ.2):=by
 induction f with
 | zero=>refine ⟨?_,?_,?_⟩ <;> intros <;> simp_all [Xu,yK,Yv]
 | succ f ih =>
  obtain ⟨i1,i2,i3⟩:=ih;have e1:=(ziA f).1;have tl:=fun ts:List Tk=>List.tail_suffix ts
  refine ⟨fun σ q h=>?_,fun σ q h=>?_,fun pre σ q h=>?_⟩
  ·rw [Xu] at h
   split at h
   ·obtain ⟨y,h1,h2⟩:=YI h
    obtain rfl:=Option.some.inj h2;exact (Zy _ _).trans ((e1 _ _ _ h1).trans ((Zy _ _).trans ((YL _).trans (tl _))))
   split at h
   ·obtain ⟨y,h1,h⟩:=YI h
    obtain ⟨z,h2,h⟩:=YI h;have a:=(i2 _ _ h2).trans ((e1 _ _ _ h1).trans (tl _))
    split at h
    ·obtain ⟨c,h3,h⟩:=YI h
     obtain rfl:=Option.some.inj h;exact (i2 _ _ h3).trans ((tl _).trans a)
    ·obtain rfl:=Option.some.inj h
     exact a
   split at h
   ·obtain ⟨y,h1,h⟩:=YI h
    obtain ⟨z,h2,h⟩:=YI h;obtain rfl:=Option.some.inj h;exact (i2 _ _ h2).trans ((e1 _ _ _ h1).trans (tl _))
   split at h
   ·split at h
    ·obtain rfl:=Option.some.inj h
     exact (tl _).trans (tl _)
    ·obtain ⟨y,h1,h⟩:=YI h
     obtain rfl:=Option.some.inj h;exact (Zy _ _).trans ((e1 _ _ _ h1).trans (tl _))
   ·obtain ⟨y,h1,h⟩:=YI h
    have a:=e1 _ _ _ h1
    split at h
    ·obtain ⟨z,h2,h⟩:=YI h
     obtain rfl:=Option.some.inj h;have b:=e1 _ _ _ h2;refine (Zy _ _).trans (b.trans ?_)
     split
     ·exact (tl _).trans a
     ·exact a
    ·obtain rfl:=Option.some.inj h
     exact (Zy _ _).trans a
  ·rw [yK] at h
   exact (i3 _ _ _ h).trans (Zy _ _)
  ·rw [Yv] at h
   split at h
   ·obtain rfl:=Option.some.inj h;exact List.suffix_refl _
   split at h
   ·obtain rfl:=Option.some.inj h;exact tl _
   ·obtain ⟨y,h1,h2⟩:=YI h
    exact (i3 _ _ _ h2).trans (i1 _ _ h1)
theorem zeH {f:Nat} {σ:RS} {q:List Pm × RS} (h:Uy f σ=some q):q.2.2 <:+ σ.2:=by
 unfold Uy at h
 obtain ⟨y,h1,h2⟩:=YI h;obtain rfl:=Option.some.inj h2;refine (Zy _ _).trans ?_
 split at h1
 ·obtain rfl:=Option.some.inj h1
  exact Zy _ _
 ·exact (XJ _ _ _ _ h1).trans (Zy _ _)
theorem zfZ {f:Nat} {σ:RS} {q:List UInt8 × RS} (h:zaH f σ=some q):q.2.2 <:+ σ.2:=by
 unfold zaH at h
 split at h
 ·exact (qI _ _ _ h).trans (List.tail_suffix _)
 ·obtain rfl:=Option.some.inj h;exact List.suffix_refl _
theorem zeI {f line:Nat} {σ:RS} {q:Fc × RS} (h:VG f line σ=some q):q.2.2 <:+ σ.2:=by
 unfold VG at h
 obtain ⟨y,h1,h⟩:=YI h;obtain ⟨z,h2,h⟩:=YI h;obtain ⟨b,h3,h⟩:=YI h;obtain rfl:=Option.some.inj h;exact ((ziB f).2.1 _ _ h3).trans ((zfZ h2).trans ((zeH h1).trans (YL _)))
theorem zbV {f line:Nat} {σ:RS} {q:Rc × RS} (h:Vl f line σ=some q):q.2.2 <:+ σ.2:=by
 unfold Vl at h
 obtain ⟨y,h1,h⟩:=YI h;obtain rfl:=Option.some.inj h;exact (Zy _ _).trans ((XJ _ _ _ _ h1).trans ((Zy _ _).trans (YL _)))
theorem qJ {P:Tk→Prop} {us ts:List Tk} (h:us <:+ ts) (hP:∀t∈ts,P t):∀t∈us,P t:=fun t ht=>hP t (h.subset ht)
end Go.Proofs.YtpejpbbdgblbeaaGreatDoor
