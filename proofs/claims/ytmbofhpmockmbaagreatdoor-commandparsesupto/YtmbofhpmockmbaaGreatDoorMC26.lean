import Derived.Test.YtmbofhpmockmbaaGreatDoorMC25
import Derived.Deep.RegionWith
import Derived.Deep.CutRange
import Derived.Test.YtmbofhpmockmbaaGreatDoorMC30
namespace Go.Proofs.YtmbofhpmockmbaaGreatDoor
open Go.RowKit Go.Shelf
set_option maxHeartbeats 16000000
set_option maxRecDepth 100000
def Yl (r g F:Nat):Prop:=∀k,k≤F→∀line σ q w,line≤6→yV k line σ=some q→zD r g σ w→Calls Tryz.prog 91 #[.pointer (some ⟨r,0,none⟩),.int .i64 (line:Int)] w (zN r g w q)
def xL (r g F:Nat):Prop:=∀k,k≤F→∀σ q w,ZP k σ=some q→zD r g σ w→Calls Tryz.prog 112 #[.pointer (some ⟨r,0,none⟩)] w (zN r g w q)
def XV (r g F:Nat):Prop:=∀k,k≤F→∀σ q w,ye k σ=some q→zD r g σ w→Calls Tryz.prog 135 #[.pointer (some ⟨r,0,none⟩)] w (zN r g w q)
def UB (r g F:Nat):Prop:=∀k,k≤F→∀s b σ q w,ZR k s b σ=some q→zD r g σ w→Calls Tryz.prog 151 #[.pointer (some ⟨r,0,none⟩),.string (za s),.bool b] w (xA r g w q)
theorem zD.as {r g:Nat} {σ:RS} {w W:World} (h:zD r g σ w) (e:W.heap=w.heap):zD r g σ W:=h.keep (by rw [e]) (by rw [e])
theorem zc.as {r:Nat} {w W w':World} (h:zc r W w') (e1:W.heap=w.heap) (e2:W.os=w.os) (e3:W.tape=w.tape) (e4:W.output=w.output):zc r w w' :=
 ⟨h.os.trans e2,h.tape.trans e3,h.output.trans e4,by rw [←e1];exact h.size,fun k hk hr=>by rw [←e1];exact h.block k (by rw [e1];exact hk) hr⟩
theorem qO (r g F:Nat) (σ:RS) (w:World) (q:Ex × RS) (h:zD r g σ w) (hq:ZP F σ=some q) (hun:xL r g F) :
  Calls Tryz.prog 91 #[.pointer (some ⟨r,0,none⟩),.int .i64 6] w (zN r g w q):=by
 obtain ⟨w0,o⟩:∃w0,w0=w.alloc zL:=⟨_,rfl⟩;have N:=hun F (Nat.le_refl _) σ q w0 hq (by rw [o];exact h.alloc _)
 have D:=o.symm;have z:w0.heap.size=w.heap.size+1:=by rw [o];simp
 have E:w0.heap[w.heap.size]?=some zL:=by rw [o];exact World.alloc_heap_new w _
 have y:zc r w w0:=by rw [o];exact (zc.refl r w).alloc _
 obtain ⟨X,W⟩:=h.lt;have G:Hid (zc r w w0∧w0.heap.size=w.heap.size+1∧w0.heap[w.heap.size]?=some zL):=⟨y,z,E⟩;clear o z E y h hq hun
 go_enter Tryz.func91,Tryz.ntmps91
 go_wp2_with fail
 refine N.mono ?_;clear N;rintro e O ⟨A,v,rfl,L,H⟩;obtain ⟨a,b,c,K,I,J,l,rfl⟩:=L.agg;obtain ⟨y,z,E⟩:=G.out;have M:O.heap[w.heap.size]?=some zL:=(A.block _ (by omega) (by omega)).trans E
 obtain ⟨q0,q1,q2,q3,q4,Z⟩:=ze M;obtain ⟨V,Y,T,U,R⟩:=zj M (.int .i64 a) (.string b) (.int .i64 c) (.slice K I J) (.int .i64 l)
 have Q:Hid (zN r g w q (.returned (.agg #[.int .i64 a,.string b,.int .i64 c,.slice K I J,.int .i64 l])) (set5 O w.heap.size (.int .i64 a) (.string b) (.int .i64 c) (.slice K I J) (.int .i64 l))) :=
  zN.of_set5' (y.trans A) (Nat.le_refl _) X W L (by omega) H
 clear A L H y z E M G D;go_wp2
 exact bodyPost_ret (v:=.agg #[.int .i64 a,.string b,.int .i64 c,.slice K I J,.int .i64 l]) (by simp [results,Tryz.results91,go_sem,V,Y,T,U,R]) rfl Q.out
theorem UC (r g F line:Nat) (σ:RS) (w:World) (q:Ex × RS) (h:zD r g σ w) (hl:line≤5) (hq:((yV F (line+1) σ).bind fun q=>yz F line q.1 q.2)=some q) (hex:Yl r g F) :
  Calls Tryz.prog 91 #[.pointer (some ⟨r,0,none⟩),.int .i64 (line:Int)] w (zN r g w q):=by
 obtain ⟨q1,aC,aA⟩:=Option.bind_eq_some_iff.1 hq;obtain ⟨w0,L⟩:∃w0,w0=w.alloc zL:=⟨_,rfl⟩;have c1:=hex F (Nat.le_refl _) (line+1) σ q1 w0 (by omega) aC (by rw [L];exact h.alloc _)
 simp only [Int.natCast_add,Int.cast_ofNat_Int] at c1;have aq:=L.symm;have ak:w0.heap.size=w.heap.size+1:=by rw [L];simp
 have p0:w0.heap[w.heap.size]?=some zL:=by rw [L];exact World.alloc_heap_new w _
 have aa:zc r w w0:=by rw [L];exact (zc.refl r w).alloc _
 obtain ⟨hr,hg⟩:=h.lt;have aE:¬ (line:Int)=6:=by omega
 have al:((line:Int)==6)=false:=by rw [beq_eq_false_iff_ne];exact aE
 have a4:decide ((line:Int)=6)=false:=decide_eq_false aE;have an:Hid (zc r w w0∧w0.heap.size=w.heap.size+1∧w0.heap[w.heap.size]?=some zL):=⟨aa,ak,p0⟩;have ay:Hid (Yl r g F):=hex;clear L ak p0 aa h hq aC hex
 go_enter Tryz.func91,Tryz.ntmps91
 go_wp2_with fail
 refine c1.mono ?_;clear c1;rintro e w1 ⟨ao,v,rfl,hx,ab⟩;obtain ⟨a,b,c,d0,d1,d2,l,rfl⟩:=hx.agg
 have HJ:Hid (YY r g w1.heap.size F w q (fun f e σ=>yz f line e σ) (w1.alloc (.cells #[.int .i64 a,.string b,.int .i64 c,.slice d0 d1 d2,.int .i64 l] 90))):=by
  obtain ⟨aa,ak,p0⟩:=an.out;exact ⟨q1.1,q1.2,F,a,b,c,d0,d1,d2,l,Nat.le_refl _,aA,ZN.start (by omega) p0 aa hr ao hx ab⟩
 have Z:w.heap.size<w1.heap.size:=by have:=ao.size;have:=an.out.2.1;omega
 obtain ⟨N,af⟩:∃N,N=w1.heap.size:=⟨_,rfl⟩;rw [←af] at HJ Z;clear hx ab ao an aq aA;go_wp2_with fail
 rw [←af];generalize hW0:w1.alloc (.cells #[.int .i64 a,.string b,.int .i64 c,.slice d0 d1 d2,.int .i64 l] 90)=W0 at *;clear hW0 af
 go_loopw [6] (fun _ wr=>YY r g N F w q (fun f e σ=>yz f line e σ) wr) (fun _ wr=>ZH r wr)
 case atStart=>exact HJ.out
 case round =>
  clear HJ;obtain ⟨e,σ2,f2,z,E,G,A,D,y,l2,a5,M,U⟩:=hrel;obtain rfl:l2=(e.line:Int):=U.ex.line_eq;obtain ⟨bd,ts⟩:=σ2;have K:=U.rd.left;have HC:Hid (ZN r g N w e (bd,ts) z E G A D y (e.line:Int) wr):=U;have am:Hid (ZH r wr=ts.length):=K
  obtain ⟨V,rfl⟩:∃V,f2=V+1:=by
   cases f2 with
   | zero=>simp [yz] at M
   | succ V=>exact ⟨V,rfl⟩
  replace M:yz (V+1) line e (bd,ts)=some q:=M;rw [yz] at M
  -- what is done where the rounds end
  have o:Hid (¬ (bd=false∧(zx ts).k=4∧levelOf (zx ts).s=line+1)→∀W,zc r wr W→zD r g (bd,ts) W→W.heap[N]?=some (.cells #[.int .i64 z,.string E,.int .i64 G,.slice A D y,.int .i64 (e.line:Int)] 90 (0,0))∧W.heap[w.heap.size]?=some zL ∧
    zN r g w q (.returned (.agg #[.int .i64 z,.string E,.int .i64 G,.slice A D y,.int .i64 (e.line:Int)])) (set5 W w.heap.size (.int .i64 z) (.string E) (.int .i64 G) (.slice A D y) (.int .i64 (e.line:Int)))):=by
   intro hc W hK hR;rw [if_neg hc] at M;obtain rfl:=Option.some.inj M;exact HC.out.leave hr hg Z hK hR
  cases bd
  ·have cT:=fun W (hW:zD r g (false,ts) W)=>Xi r g (false,ts) W hW
   simp only at cT;obtain ⟨t,ht⟩:∃t,t=zx ts:=⟨_,rfl⟩;rw [←ht] at cT M o;have aM:Hid (t=zx ts):=ht;clear ht;have cA:=cT wr U.rd;have R:Hid (zD r g (false,ts) wr):=U.rd;obtain ⟨pp,az,TS,T⟩:=U.rd;obtain ⟨m0,m1,m2,mf⟩:=Zb T.blk;clear T U K;have a8:=YC;have a7:=XP
   by_cases h4:t.k=4
   ·have aN:(t.k:Int)=4:=by omega
    go_wp2_with fail
    refine cA.mono ?_;clear cA m0 m1 m2 mf;rintro e' wA ⟨rfl,H⟩;have cB:=cT wA (R.out.below H);simp only [YQ];go_wp2_with fail
    refine cB.mono ?_;clear cB;rintro e' wB ⟨rfl,ai⟩;have kB:zc r wr wB:=(zc.of H).trans (zc.of ai);have rB:zD r g (false,ts) wB:=(R.out.below H).below ai;have cL:=uy t.s wB;clear H ai R;simp only [YQ];go_wp2_with fail
    refine cL.mono ?_;clear cL;rintro e' wC ⟨rfl,ah⟩;have kC:zc r wr wC:=kB.trans (zc.of ah);have rC:zD r g (false,ts) wC:=rB.below ah;clear ah kB rB
    by_cases hlv:levelOf t.s=line+1
    ·rw [if_pos ⟨by first | rfl | trivial,h4,hlv⟩] at M
     have I:(levelOf t.s:Int)-1=(line:Int):=by omega
     rw [I];have cD:=cT wC rC;go_wp2_with fail
     refine cD.mono ?_;clear cD;rintro e' wD ⟨rfl,aj⟩;have kD:zc r wr wD:=kC.trans (zc.of aj);have rD:zD r g (false,ts) wD:=rC.below aj;clear kC rC aj cT o hlv I;have Q:(zx ts).k≠0:=by rw [←aM.out];omega
     obtain ⟨q3,ap,av⟩:=Option.bind_eq_some_iff.1 M;obtain ⟨pp,az,TS,T⟩:=rD;obtain ⟨m0,m1,m2,mf⟩:=Zb T.blk;have aZ:pp≤1099511627776:=by have:=T.lt;have:=T.few;omega
     have a6:IntKind.i64.wrap ((pp:Int)+1)=(pp:Int)+1:=by rw [IntKind.wrap_i64];omega
     obtain ⟨wE,Y⟩:∃wE,wE=wD.setCell ⟨r,1,none⟩ (.int .i64 ((pp:Int)+1)):=⟨_,rfl⟩;have kE:zc r wr wE:=by rw [Y];exact kD.setCell 1 _
     have rE:zD r g (false,ts.tail) wE:=by rw [Y];exact ⟨_,_,_,T.step Q⟩
     have aX:=Y.symm;have ax:Hid (zc r wr wE):=kE;have a0:=yB Q;have ad:=(QF V).1 _ _ _ ap;have X:=HC.out.moved hr Z kE rE;have aB:Hid (wE.heap[N]?=some (.cells #[.int .i64 z,.string E,.int .i64 G,.slice A D y,.int .i64 (e.line:Int)] 90 (0,0))):=X.blk;obtain ⟨n0,n1,n2,n3,n4,nf⟩:=ze X.blk;have aH:N<wE.heap.size:=(Array.getElem?_eq_some_iff.1 X.blk).1
     have cb:∀W:World,W.heap=wE.heap→W.os=wE.os→W.tape=wE.tape→W.output=wE.output→Calls Tryz.prog 91 #[.pointer (some ⟨r,0,none⟩),.int .i64 ((line:Int)+1)] W fun e' w'=>∃(a3:Int) (b3:ByteArray) (c3:Int) (u0:Option Addr) (u1 u2:Nat) (l3:Int),e'=.returned (.agg #[.int .i64 a3,.string b3,.int .i64 c3,.slice u0 u1 u2,.int .i64 l3]) ∧
       w'.heap[N]?=some (.cells #[.int .i64 z,.string E,.int .i64 G,.slice A D y,.int .i64 (e.line:Int)] 90 (0,0))∧Hid (zc r wE w'∧zO wE.heap.size w' q3.1 (.agg #[.int .i64 a3,.string b3,.int .i64 c3,.slice u0 u1 u2,.int .i64 l3])∧zD r g q3.2 w'):=fun W e1 e2 e3 e4=>by
      refine (show Calls Tryz.prog 91 #[.pointer (some ⟨r,0,none⟩),.int .i64 ((line:Int)+1)] W _ from ay.out V (by omega) (line+1) _ q3 W (by omega) ap (rE.as e1)).mono ?_
      rintro e' w' ⟨hk,v,rfl,hx,ab⟩;obtain ⟨a3,b3,c3,u0,u1,u2,l3,rfl⟩:=hx.agg;have au:=hk.as e1 e2 e3 e4;rw [e1] at hx;exact ⟨a3,b3,c3,u0,u1,u2,l3,rfl,(au.block N aH (by omega)).trans aB.out,au,hx,ab⟩
     have al:q3.2.2.length<ZH r wr:=by rw [am.out];simp only at ad;omega
     have aL:IntKind.i64.wrap ((line:Int)+1)=(line:Int)+1:=by rw [IntKind.wrap_i64];omega
     have HT:Hid (yz V line (.mk 7 t.s 0 [e,q3.1] e.line) q3.2=some q):=av;have aR:V≤F:=by omega
     clear T kD kE rE Y X M ap av ad Q ay;simp only [YQ];go_wp2_with fail
     go_region_with (go_at_call 91;refine (cb _ (by rfl) (by rfl) (by rfl) (by rfl)).mono ?_;rintro e' w7 ⟨a3,b3,c3,u0,u1,u2,l3,rfl,p7,H7⟩;have aS:N<w7.heap.size:=(Array.getElem?_eq_some_iff.1 p7).1;have aI:=(fun ob=>(Below.heap_alloc w7 ob N aS).trans p7);obtain ⟨m0,m1,m2,m3,m4,mf⟩:=ze p7;have aV:=zd m0;have aQ:=zd m1;have aO:=zd m2;have aW:=zd m3;have aU:=zd m4;have aT:=(fun ob j=>(ze (aI ob)).2.2.2.2.2 j))
     all_goals
      obtain ⟨aK,aJ,ae⟩:=H7.out;obtain ⟨W,hW⟩:∃W,W=(set5 w7 N (.int .i64 7) (.string (za t.s)) (.int .i64 0) (.slice (some ⟨w7.heap.size,0,none⟩) 2 2) (.int .i64 (e.line:Int))).alloc (.cells #[.int .i64 z,.string E,.int .i64 G,.slice A D y,.int .i64 (e.line:Int),.int .i64 a3,.string b3,.int .i64 c3,.slice u0 u1 u2,.int .i64 l3] 90):=⟨_,rfl⟩;have ag:=ZN.two 7 t.s HC.out hr hg Z ax.out aK aJ ae (.int .i64 7) rfl W hW;have aP:Hid (YY r g N F w q (fun f e σ=>yz f line e σ) W∧ZH r W<ZH r wr):=show _∧_<_ from ⟨⟨_,_,V,_,_,_,_,_,_,_,aR,HT.out,ag⟩,by rw [ag.rd.left];exact al⟩
      change Exit.inBlock _ _ _ _ ((set5 w7 N (.int .i64 7) (.string (za t.s)) (.int .i64 0) (.slice (some ⟨w7.heap.size,0,none⟩) 2 2) (.int .i64 (e.line:Int))).alloc (.cells #[.int .i64 z,.string E,.int .i64 G,.slice A D y,.int .i64 (e.line:Int),.int .i64 a3,.string b3,.int .i64 c3,.slice u0 u1 u2,.int .i64 l3] 90))
      rw [←hW];clear hW ag ae aJ aK p7 aI m0 m1 m2 m3 m4 mf aV aQ aO aW aU aT n0 n1 n2 n3 n4 nf cb H7 aB HT ax HC al aL;go_wp2
      exact aP.out
    ·obtain ⟨pN,pz,J⟩:=o.out (fun h=>hlv h.2.2) wC kC rC
     have I:¬ ((levelOf t.s:Int)-1=(line:Int)):=by omega
     generalize (levelOf t.s:Int)-1=LV at *;have aY:(LV==(line:Int))=false:=by rw [beq_eq_false_iff_ne];exact I
     have a1:decide (LV=(line:Int))=false:=decide_eq_false I;obtain ⟨n0,n1,n2,n3,n4,nf⟩:=ze pN;obtain ⟨aF,ar,aw,aD,aG,zf⟩:=ze pz;obtain ⟨z0,z1,z2,z3,z4⟩:=zj pz (.int .i64 z) (.string E) (.int .i64 G) (.slice A D y) (.int .i64 (e.line:Int));have O:Hid (zN r g w q (.returned (.agg #[.int .i64 z,.string E,.int .i64 G,.slice A D y,.int .i64 (e.line:Int)])) (set5 wC w.heap.size (.int .i64 z) (.string E) (.int .i64 G) (.slice A D y) (.int .i64 (e.line:Int)))):=J;clear o HC J pN pz kC rC cT M hlv;go_wp2
     exact bodyPost_ret (v:=.agg #[.int .i64 z,.string E,.int .i64 G,.slice A D y,.int .i64 (e.line:Int)]) (by simp [results,Tryz.results91,go_sem,z0,z1,z2,z3,z4]) rfl O.out
   ·have aN:¬(t.k:Int)=4:=by omega
    go_wp2_with fail
    refine cA.mono ?_;clear cA m0 m1 m2 mf;rintro e' wA ⟨rfl,H⟩;obtain ⟨pN,pz,J⟩:=o.out (fun h=>h4 h.2.1) wA (zc.of H) (R.out.below H)
    clear o HC H R cT M;simp only [YQ];obtain ⟨n0,n1,n2,n3,n4,nf⟩:=ze pN;obtain ⟨aF,ar,aw,aD,aG,zf⟩:=ze pz;obtain ⟨z0,z1,z2,z3,z4⟩:=zj pz (.int .i64 z) (.string E) (.int .i64 G) (.slice A D y) (.int .i64 (e.line:Int));have O:Hid (zN r g w q (.returned (.agg #[.int .i64 z,.string E,.int .i64 G,.slice A D y,.int .i64 (e.line:Int)])) (set5 wA w.heap.size (.int .i64 z) (.string E) (.int .i64 G) (.slice A D y) (.int .i64 (e.line:Int)))):=J;clear J pN pz;go_wp2
    exact bodyPost_ret (v:=.agg #[.int .i64 z,.string E,.int .i64 G,.slice A D y,.int .i64 (e.line:Int)]) (by simp [results,Tryz.results91,go_sem,z0,z1,z2,z3,z4]) rfl O.out
  ·obtain ⟨pp,az,TS,T⟩:=U.rd
   obtain ⟨m0,m1,m2,mf⟩:=Zb T.blk;obtain ⟨pN,pz,J⟩:=o.out (fun h=>by cases h.1) wr (zc.refl _ _) U.rd
   obtain ⟨n0,n1,n2,n3,n4,nf⟩:=ze pN;obtain ⟨aF,ar,aw,aD,aG,zf⟩:=ze pz;obtain ⟨z0,z1,z2,z3,z4⟩:=zj pz (.int .i64 z) (.string E) (.int .i64 G) (.slice A D y) (.int .i64 (e.line:Int));have O:Hid (zN r g w q (.returned (.agg #[.int .i64 z,.string E,.int .i64 G,.slice A D y,.int .i64 (e.line:Int)])) (set5 wr w.heap.size (.int .i64 z) (.string E) (.int .i64 G) (.slice A D y) (.int .i64 (e.line:Int)))):=J;clear o HC J pN pz U T M K;go_wp2
   exact bodyPost_ret (v:=.agg #[.int .i64 z,.string E,.int .i64 G,.slice A D y,.int .i64 (e.line:Int)]) (by simp [results,Tryz.results91,go_sem,z0,z1,z2,z3,z4]) rfl O.out
theorem Yw.exs {ty B:Nat} {w:World} {l:List Ex} {v:Value} (h:Yw uC 5 ty B w l v):Zw B w l v:=by
 rcases h with h | ⟨g,e,o,h⟩
 ·exact .inl h
 ·exact h.row
theorem yD {s:List UInt8} {σ:RS} (h:zW s σ=false):ZG s σ=σ:=by unfold ZG;rw [if_neg (by simp [h])]
theorem ya {s:List UInt8} {σ:RS} (h:zW s σ=true):ZG s σ=(false,σ.2.tail):=by unfold ZG;rw [if_pos h]
theorem UD {F:Nat} {s:List UInt8} {b:Bool} {σ:RS} {q:List Ex × RS} (h:ZR (F+1) s b σ=some q) (hc:¬ (b=false∧zW s σ=true)):∃l,xe F [] σ=some l∧q=(l.1,Zd s l.2):=by
 rw [ZR,if_neg hc] at h;obtain ⟨y,o,e⟩:=Option.bind_eq_some_iff.1 h;exact ⟨y,o,(Option.some.inj e).symm⟩
theorem qP (r g F:Nat) (s:List UInt8) (σ:RS) (w:World) (q:List Ex × RS) (h:zD r g σ w) (hs:zW s σ=true) (hq:ZR (F+1) s false σ=some q) :
  Calls Tryz.prog 151 #[.pointer (some ⟨r,0,none⟩),.string (za s),.bool false] w (xA r g w q):=by
 rw [ZR,if_pos ⟨rfl,hs⟩] at hq;obtain rfl:=Option.some.inj hq;have z:=yp r g σ s w h;rw [hs,ya hs] at z;clear h hq hs
 go_enter Tryz.func151,Tryz.ntmps151
 go_wp2_with fail
 refine z.mono ?_;clear z;rintro e D ⟨rfl,y,o⟩;have A:Hid (xA r g w ([],(false,σ.2.tail)) (.returned (.slice none 0 0)) D):=⟨y,_,rfl,.inl ⟨rfl,rfl⟩,o⟩;clear y o;go_wp2
 exact bodyPost_ret (v:=.slice none 0 0) (by simp [results,Tryz.results151,go_sem]) rfl A.out
theorem qQ (r g F:Nat) (s:List UInt8) (b:Bool) (σ:RS) (w wA:World) (q:List Ex × RS) (hk:zc r w wA) (hr:r<w.heap.size) (hg:g<w.heap.size) (h:zD r g σ wA) (hc:¬ (b=false∧zW s σ=true)) (hq:ZR (F+1) s b σ=some q) (hex:Yl r g F) :
  Calls Tryz.prog 151 #[.pointer (some ⟨r,0,none⟩),.string (za s),.bool b] wA (xA r g w q):=by
 obtain ⟨i0,aL,aO,aP,aK⟩:=info_parts Vp;obtain ⟨l0,O,rfl⟩:=UD hq hc;have HQ:Hid (xe F [] σ=some l0):=O;have aQ:Hid (Yl r g F):=hex;have HK:Hid (zc r w wA):=hk;have cs:=yp r g σ s wA h;have HR:Hid (zD r g σ wA):=h;have aI:=h.few;clear O hq hex hk h;cases b
 case' false =>
  have hs:zW s σ=false:=by simpa using hc
  rw [hs,yD hs] at cs;clear hc HR hs
  go_enter Tryz.func151,Tryz.ntmps151
  go_wp2_with fail
  refine cs.mono ?_;clear cs;rintro e w1 ⟨rfl,aw,ar⟩;have ao:Hid (zD r g σ w1):=ar;have ap:Hid (zc r w w1):=HK.out.trans aw;clear aw ar HK;go_wp2_with fail
 case' true =>
  clear hc cs;have ao:Hid (zD r g σ wA):=HR.out;have ap:Hid (zc r w wA):=HK.out;clear HR HK
  go_enter Tryz.func151,Tryz.ntmps151
  go_wp2_with fail
 all_goals
  go_loopw [7] (fun v wr=>∃(L:List Ex) (U:RS) (f2:Nat),f2≤F∧xe f2 L U=some l0∧L.length+U.2.length≤1099511627776∧Yw uC 5 90 w.heap.size wr L v∧zD r g U wr∧zc r w wr) (fun _ wr=>ZH r wr)
  case atStart=>exact ⟨[],σ,F,Nat.le_refl _,HQ.out,by simpa using aI,Yw.nil _ _ _ _ _,ao.out,ap.out⟩
  case round =>
   obtain ⟨L,U,f2,aV,hT,aT,V,J,au⟩:=hrel;clear ao ap HQ;obtain ⟨bd,ts⟩:=U;have al:Hid (ZH r wr=ts.length):=J.left;have A:Hid (Yw uC 5 90 w.heap.size wr L _):=V;have X:Hid (zc r w wr):=au;have az:Hid (zD r g (bd,ts) wr):=J;obtain ⟨lb,lc,aF⟩:=V.slice;subst aF
   obtain ⟨f3,rfl⟩:∃f3,f2=f3+1:=by
    cases f2 with
    | zero=>simp [xe] at hT
    | succ f3=>exact ⟨f3,rfl⟩
   rw [xe] at hT;have cm:=fun (W:World) (hW:zD r g l0.2 W)=>VP r g l0.2 s W hW
   have G:=J;obtain ⟨pp,aW,TS,hb⟩:=J;obtain ⟨m0,m1,m2,mf⟩:=Zb hb.blk;clear hb V au;cases bd
   ·rw [if_neg (by simp)] at hT
    obtain ⟨H,am,M⟩:=Option.bind_eq_some_iff.1 hT;have ag:=(QF f3).1 _ _ _ am;have c3:=aQ.out f3 (by omega) 0 _ H wr (by omega) am G
    have aG:Calls Tryz.prog 91 #[.pointer (some ⟨r,0,none⟩),.int .i64 0] wr (zN r g wr H):=c3;clear c3 G am hT;go_wp2_with fail
    refine aG.mono ?_;clear aG m0 m1 m2 mf;rintro e w4 ⟨aa,v,rfl,hx,ax⟩;have an:Hid (zc r w w4):=X.out.trans aa;obtain ⟨a4,b4,c4,p4,q4,s4,l4,rfl⟩:=hx.agg;have Z:=A.out.kept yN aa.size fun k hB hlt=>aa.block k hlt (by omega)
    have aE:w.heap.size≤wr.heap.size:=X.out.size;have aS:w.heap.size≤w4.heap.size:=an.out.size;obtain ⟨us,ai,Y⟩:=Z.more yN;have av:Hid (uC (fun k=>wr.heap.size≤k) w4 H.1 [.int .i64 a4,.string b4,.int .i64 c4,.slice p4 q4 s4,.int .i64 l4]):=hx
    have aB:Hid (∀q,(Value.slice lb L.length lc).ownBlock=some q→q<wr.heap.size):=fun q hq=>(A.out.block q hq).2
    have ae:Hid (∀q,(Value.slice lb L.length lc).ownBlock=some q→w.heap.size≤q):=fun q hq=>(A.out.block q hq).1
    have ay:Hid (∀{w':World} {v':Value} {x:Ex} {c:List Value} {ob:Obj} {N:Nat},uC (fun k=>N≤k) w4 x c→w.heap.size≤N→(∀q,(Value.slice lb L.length lc).ownBlock=some q→q<N)→c.length=5→w'.ownsRow w.heap.size 90 5 v' (L.length+1) (us.flatten++c)→(w4.alloc ob).grownBy w' (Value.slice lb L.length lc).ownBlock→(v'.ownBlock=(Value.slice lb L.length lc).ownBlock∨v'.ownBlock=some (w4.alloc ob).heap.size)→Yw uC 5 90 w.heap.size w' (L++[x]) v'):=Y
    have aD:Hid (zD r g H.2 w4):=ax;have aj:=(ai.alloc (.cells #[.int .i64 a4,.string b4,.int .i64 c4,.slice p4 q4 s4,.int .i64 l4] 90));have aU:L.length≤1099511627776:=by omega
    clear Z hx ax aa ai Y
    go_wp2_with (at_builtin;refine wpList_append_own_at _ rfl _ _ 88 rfl w.heap.size 90 i0 _ 5 64 Tryz.underlying88 aL aO aP aK rfl (by decide) _ _ _ rfl aj ⟨w4.heap.size,0,none⟩ 1 1 [.int .i64 a4,.string b4,.int .i64 c4,.slice p4 q4 s4,.int .i64 l4] rfl rfl (ZW _ _ _) (by simp [Value.oneCell']) (by unfold maxLen;omega) (by omega) (by simp;omega) ?_;intro v' w5 Q z _ aH)
    have I:=ay.out (ob:=.cells #[.int .i64 a4,.string b4,.int .i64 c4,.slice p4 q4 s4,.int .i64 l4] 90) av.out aE aB.out rfl Q z aH
    have aC:zc r w w5:=(an.out.alloc _).grown z ae.out;have ak:zD r g H.2 w5:=aD.out.keep ((z.block r (by simp;omega) (fun e=>by have:=ae.out r e.symm;omega)).trans (Below.heap_alloc _ _ _ (by omega))) ((z.block g (by simp;omega) (fun e=>by have:=ae.out g e.symm;omega)).trans (Below.heap_alloc _ _ _ (by omega)))
    have y:Hid (Yw uC 5 90 w.heap.size w5 (L++[H.1]) v'):=I;have ab:Hid (zc r w w5):=aC;have ct:=yp r g H.2 [44] w5 ak;obtain ⟨af,ad,aq⟩:=I.slice;subst aq;clear I aC ak Q z aH ay av aB ae aD aj A X an az;cases hi:zW [44] H.2
    ·rw [hi,yD hi] at ct
     rw [if_neg (by simp [hi])] at M
     have O:=Option.some.inj M;go_wp2_with fail
     refine ct.mono ?_;clear ct;rintro e w6 ⟨rfl,D,K⟩;have T:=cm w6 (by rw [←O];exact K)
     have aA:Hid (zc r w w6):=ab.out.trans D;have o:Hid (Zw w.heap.size w6 l0.1 (.slice af (L++[H.1]).length ad)):=by rw [←O];exact (y.out.kept yN D.size fun k hB hlt=>D.block k hlt (by omega)).exs
     generalize (L++[H.1]).length=LN at *;clear D K y ab cm O M;go_wp2_with fail
     refine T.mono ?_;clear T;rintro e w8 ⟨rfl,E,R⟩;have HP:Hid (xA r g w (l0.1,Zd s l0.2) (.returned (.slice af LN ad)) w8):=⟨aA.out.trans E,_,rfl,o.out.kept E.size fun k hB hlt=>E.block k hlt (by omega),R⟩
     clear E R o aA;go_wp2
     exact bodyPost_ret (v:=.slice af LN ad) (by simp [results,Tryz.results151,go_sem]) rfl HP.out
    ·rw [hi,ya hi] at ct
     rw [if_pos hi] at M;obtain ⟨-,-,aN⟩:=xK hi;have aR:=yB aN;have aM:Hid (xe f3 (L++[H.1]) (false,H.2.2.tail)=some l0):=M;have ah:(L++[H.1]).length=L.length+1:=by simp
     rw [ah] at y ⊢;clear M cm;go_wp2_with fail
     refine ct.mono ?_;clear ct;rintro e w6 ⟨rfl,D,K⟩;have HJ:Hid (Yw uC 5 90 w.heap.size w6 (L++[H.1]) (.slice af (L.length+1) ad)∧zD r g (false,H.2.2.tail) w6∧zc r w w6):=⟨y.out.kept yN D.size fun k hB hlt=>D.block k hlt (by omega),K,ab.out.trans D⟩
     have aJ:ZH r w6=H.2.2.tail.length:=K.left;clear D K y ab;go_wp2
     refine ⟨⟨L++[H.1],_,f3,by omega,aM.out,?_,HJ.out⟩,?_⟩
     ·rw [ah];show L.length+1+H.2.2.tail.length≤_;(try simp only at ag);omega
     ·rw [aJ,al.out];(try simp only at ag);omega
   ·rw [if_pos rfl] at hT
    obtain rfl:=Option.some.inj hT;have T:=cm wr G;have o:Hid (Zw w.heap.size wr L (.slice lb L.length lc)):=A.out.exs;generalize L.length=LN at *;clear G cm hT A az;go_wp2_with fail
    refine T.mono ?_;clear T;rintro e w8 ⟨rfl,E,R⟩;have HP:Hid (xA r g w (L,Zd s (true,ts)) (.returned (.slice lb LN lc)) w8):=⟨X.out.trans E,_,rfl,o.out.kept E.size fun k hB hlt=>E.block k hlt (by omega),R⟩
    clear E R o X;go_wp2
    exact bodyPost_ret (v:=.slice lb LN lc) (by simp [results,Tryz.results151,go_sem]) rfl HP.out
theorem zaw (r g F:Nat) (s:List UInt8) (b:Bool) (σ:RS) (w:World) (q:List Ex × RS) (h:zD r g σ w) (hq:ZR (F+1) s b σ=some q) (hex:Yl r g F) :
  Calls Tryz.prog 151 #[.pointer (some ⟨r,0,none⟩),.string (za s),.bool b] w (xA r g w q):=by
 by_cases hc:b=false∧zW s σ=true
 ·obtain ⟨rfl,e⟩:=hc
  exact qP r g F s σ w q h e hq
 ·exact qQ r g F s b σ w w q (zc.refl r w) h.lt.1 h.lt.2 h hc hq hex
end Go.Proofs.YtmbofhpmockmbaaGreatDoor
