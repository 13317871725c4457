import Derived.Test.YtmbofhpmockmbaaGreatDoorMC26
import Derived.Deep.RegionWith
import Derived.Deep.CutRange
import Derived.Test.YtmbofhpmockmbaaGreatDoorMC31
namespace Go.Proofs.YtmbofhpmockmbaaGreatDoor
open Go.RowKit Go.Shelf
set_option maxHeartbeats 16000000
set_option maxRecDepth 100000
def Yd (r g F:Nat):Prop:=∀k,k≤F→∀line σ q w,line≤6→yO k line σ=some q→zB r g σ w→Calls Tryz.prog 91 #[.pointer (some ⟨r,0,none⟩),.int .i64 (line:Int)] w (zL r g w q)
def xA (r g F:Nat):Prop:=∀k,k≤F→∀σ q w,ZL k σ=some q→zB r g σ w→Calls Tryz.prog 112 #[.pointer (some ⟨r,0,none⟩)] w (zL r g w q)
def XH (r g F:Nat):Prop:=∀k,k≤F→∀σ q w,yb k σ=some q→zB r g σ w→Calls Tryz.prog 135 #[.pointer (some ⟨r,0,none⟩)] w (zL r g w q)
def Ue (r g F:Nat):Prop:=∀k,k≤F→∀s b σ q w,ZN k s b σ=some q→zB r g σ w→Calls Tryz.prog 151 #[.pointer (some ⟨r,0,none⟩),.string (za s),.bool b] w (xn r g w q)
theorem zB.as {r g:Nat} {σ:RS} {w W:World} (h:zB r g σ w) (e:W.heap=w.heap):zB r g σ W:=h.keep (by rw [e]) (by rw [e])
theorem zb.as {r:Nat} {w W w':World} (h:zb r W w') (e1:W.heap=w.heap) (e2:W.os=w.os) (e3:W.tape=w.tape) (e4:W.output=w.output):zb r w w' :=
 ⟨h.os.trans e2,h.tape.trans e3,h.output.trans e4,by rw [←e1];exact h.size,fun k hk hr=>by rw [←e1];exact h.block k (by rw [e1];exact hk) hr⟩
theorem qq (r g F:Nat) (σ:RS) (w:World) (q:Ex × RS) (h:zB r g σ w) (hq:ZL F σ=some q) (hun:xA r g F) :
  Calls Tryz.prog 91 #[.pointer (some ⟨r,0,none⟩),.int .i64 6] w (zL r g w q):=by
 obtain ⟨w0,o⟩:∃w0,w0=w.alloc zJ:=⟨_,rfl⟩;have O:=hun F (Nat.le_refl _) σ q w0 hq (by rw [o];exact h.alloc _)
 have E:=o.symm;have z:w0.heap.size=w.heap.size+1:=by rw [o];simp
 have H:w0.heap[w.heap.size]?=some zJ:=by rw [o];exact World.alloc_heap_new w _
 have y:zb r w w0:=by rw [o];exact (zb.refl r w).alloc _
 obtain ⟨X,R⟩:=h.lt;have G:Hid (zb r w w0∧w0.heap.size=w.heap.size+1∧w0.heap[w.heap.size]?=some zJ):=⟨y,z,H⟩;clear o z H y h hq hun
 go_enter Tryz.func91,Tryz.ntmps91
 go_wp2_with fail
 refine O.mono ?_;clear O;rintro e N ⟨A,v,rfl,L,D⟩;obtain ⟨a,b,c,I,J,K,l,rfl⟩:=L.agg;obtain ⟨y,z,H⟩:=G.out;have M:N.heap[w.heap.size]?=some zJ:=(A.block _ (by omega) (by omega)).trans H
 obtain ⟨q0,q1,q2,q3,Z,qf⟩:=zd M;obtain ⟨W,T,Y,U,Q⟩:=zi M (.int .i64 a) (.string b) (.int .i64 c) (.slice I J K) (.int .i64 l)
 have V:Hid (zL r g w q (.returned (.agg #[.int .i64 a,.string b,.int .i64 c,.slice I J K,.int .i64 l])) (set5 N w.heap.size (.int .i64 a) (.string b) (.int .i64 c) (.slice I J K) (.int .i64 l))) :=
  zL.of_set5' (y.trans A) (Nat.le_refl _) X R L (by omega) D
 clear A L D y z H M G E;go_wp2
 exact bodyPost_ret (v:=.agg #[.int .i64 a,.string b,.int .i64 c,.slice I J K,.int .i64 l]) (by simp [results,Tryz.results91,go_sem,W,T,Y,U,Q]) rfl V.out
theorem Uf (r g F line:Nat) (σ:RS) (w:World) (q:Ex × RS) (h:zB r g σ w) (hl:line≤5) (hq:((yO F (line+1) σ).bind fun q=>yu F line q.1 q.2)=some q) (hex:Yd r g F) :
  Calls Tryz.prog 91 #[.pointer (some ⟨r,0,none⟩),.int .i64 (line:Int)] w (zL r g w q):=by
 obtain ⟨q1,aA,aD⟩:=Option.bind_eq_some_iff.1 hq;obtain ⟨w0,M⟩:∃w0,w0=w.alloc zJ:=⟨_,rfl⟩;have c1:=hex F (Nat.le_refl _) (line+1) σ q1 w0 (by omega) aA (by rw [M];exact h.alloc _)
 simp only [Int.natCast_add,Int.cast_ofNat_Int] at c1;have au:=M.symm;have aj:w0.heap.size=w.heap.size+1:=by rw [M];simp
 have p0:w0.heap[w.heap.size]?=some zJ:=by rw [M];exact World.alloc_heap_new w _
 have aa:zb r w w0:=by rw [M];exact (zb.refl r w).alloc _
 obtain ⟨hr,hg⟩:=h.lt;have ax:¬ (line:Int)=6:=by omega
 have an:((line:Int)==6)=false:=by rw [beq_eq_false_iff_ne];exact ax
 have a8:decide ((line:Int)=6)=false:=decide_eq_false ax;have ag:Hid (zb r w w0∧w0.heap.size=w.heap.size+1∧w0.heap[w.heap.size]?=some zJ):=⟨aa,aj,p0⟩;have aI:Hid (Yd r g F):=hex;clear M aj p0 aa h hq aA hex
 go_enter Tryz.func91,Tryz.ntmps91
 go_wp2_with fail
 refine c1.mono ?_;clear c1;rintro e w1 ⟨ai,v,rfl,hx,ab⟩;obtain ⟨a,b,c,d0,d1,d2,l,rfl⟩:=hx.agg
 have HJ:Hid (YQ r g w1.heap.size F w q (fun f e σ=>yu f line e σ) (w1.alloc (.cells #[.int .i64 a,.string b,.int .i64 c,.slice d0 d1 d2,.int .i64 l] 90))):=by
  obtain ⟨aa,aj,p0⟩:=ag.out;exact ⟨q1.1,q1.2,F,a,b,c,d0,d1,d2,l,Nat.le_refl _,aD,ZJ.start (by omega) p0 aa hr ai hx ab⟩
 have X:w.heap.size<w1.heap.size:=by have:=ai.size;have:=ag.out.2.1;omega
 obtain ⟨N,ap⟩:∃N,N=w1.heap.size:=⟨_,rfl⟩;rw [←ap] at HJ X;clear hx ab ai ag au aD;go_wp2_with fail
 rw [←ap];generalize hW0:w1.alloc (.cells #[.int .i64 a,.string b,.int .i64 c,.slice d0 d1 d2,.int .i64 l] 90)=W0 at *;clear hW0 ap
 go_loopw [6] (fun _ wr=>YQ r g N F w q (fun f e σ=>yu f line e σ) wr) (fun _ wr=>ZC r wr)
 case atStart=>exact HJ.out
 case round =>
  clear HJ;obtain ⟨e,σ2,f2,z,E,G,D,y,A,l2,a7,L,V⟩:=hrel;obtain rfl:l2=(e.line:Int):=V.ex.line_eq;obtain ⟨bd,ts⟩:=σ2;have K:=V.rd.left;have HC:Hid (ZJ r g N w e (bd,ts) z E G D y A (e.line:Int) wr):=V;have am:Hid (ZC r wr=ts.length):=K
  obtain ⟨U,rfl⟩:∃U,f2=U+1:=by
   cases f2 with
   | zero=>simp [yu] at L
   | succ U=>exact ⟨U,rfl⟩
  replace L:yu (U+1) line e (bd,ts)=some q:=L;rw [yu] at L
  -- what is done where the rounds end
  have o:Hid (¬ (bd=false∧(zu ts).k=4∧levelOf (zu ts).s=line+1)→∀W,zb r wr W→zB r g (bd,ts) W→W.heap[N]?=some (.cells #[.int .i64 z,.string E,.int .i64 G,.slice D y A,.int .i64 (e.line:Int)] 90 (0,0))∧W.heap[w.heap.size]?=some zJ ∧
    zL r g w q (.returned (.agg #[.int .i64 z,.string E,.int .i64 G,.slice D y A,.int .i64 (e.line:Int)])) (set5 W w.heap.size (.int .i64 z) (.string E) (.int .i64 G) (.slice D y A) (.int .i64 (e.line:Int)))):=by
   intro hc W hK hR;rw [if_neg hc] at L;obtain rfl:=Option.some.inj L;exact HC.out.leave hr hg X hK hR
  cases bd
  ·have cT:=fun W (hW:zB r g (false,ts) W)=>x8 r g (false,ts) W hW
   simp only at cT;obtain ⟨t,ht⟩:∃t,t=zu ts:=⟨_,rfl⟩;rw [←ht] at cT L o;have aU:Hid (t=zu ts):=ht;clear ht;have cA:=cT wr V.rd;have R:Hid (zB r g (false,ts) wr):=V.rd;obtain ⟨pp,aC,TS,O⟩:=V.rd;obtain ⟨m0,m1,m2,mf⟩:=z7 O.blk;clear O V K;have a5:=Yv;have a4:=XB
   by_cases h4:t.k=4
   ·have aS:(t.k:Int)=4:=by omega
    go_wp2_with fail
    refine cA.mono ?_;clear cA m0 m1 m2 mf;rintro e' wA ⟨rfl,I⟩;have cB:=cT wA (R.out.below I);simp only [YH];go_wp2_with fail
    refine cB.mono ?_;clear cB;rintro e' wB ⟨rfl,ao⟩;have kB:zb r wr wB:=(zb.of I).trans (zb.of ao);have rB:zB r g (false,ts) wB:=(R.out.below I).below ao;have cL:=V7 t.s wB;clear I ao R;simp only [YH];go_wp2_with fail
    refine cL.mono ?_;clear cL;rintro e' wC ⟨rfl,ah⟩;have kC:zb r wr wC:=kB.trans (zb.of ah);have rC:zB r g (false,ts) wC:=rB.below ah;clear ah kB rB
    by_cases hlv:levelOf t.s=line+1
    ·rw [if_pos ⟨by first | rfl | trivial,h4,hlv⟩] at L
     have H:(levelOf t.s:Int)-1=(line:Int):=by omega
     rw [H];have cD:=cT wC rC;go_wp2_with fail
     refine cD.mono ?_;clear cD;rintro e' wD ⟨rfl,al⟩;have kD:zb r wr wD:=kC.trans (zb.of al);have rD:zB r g (false,ts) wD:=rC.below al;clear kC rC al cT o hlv H;have T:(zu ts).k≠0:=by rw [←aU.out];omega
     obtain ⟨q3,ak,aH⟩:=Option.bind_eq_some_iff.1 L;obtain ⟨pp,aC,TS,O⟩:=rD;obtain ⟨m0,m1,m2,mf⟩:=z7 O.blk;have a1:pp≤1099511627776:=by have:=O.lt;have:=O.few;omega
     have a6:IntKind.i64.wrap ((pp:Int)+1)=(pp:Int)+1:=by rw [IntKind.wrap_i64];omega
     obtain ⟨wE,Y⟩:∃wE,wE=wD.setCell ⟨r,1,none⟩ (.int .i64 ((pp:Int)+1)):=⟨_,rfl⟩;have kE:zb r wr wE:=by rw [Y];exact kD.setCell 1 _
     have rE:zB r g (false,ts.tail) wE:=by rw [Y];exact ⟨_,_,_,O.step T⟩
     have aZ:=Y.symm;have aq:Hid (zb r wr wE):=kE;have a0:=yw T;have ae:=(Qi U).1 _ _ _ ak;have Z:=HC.out.moved hr X kE rE;have av:Hid (wE.heap[N]?=some (.cells #[.int .i64 z,.string E,.int .i64 G,.slice D y A,.int .i64 (e.line:Int)] 90 (0,0))):=Z.blk;obtain ⟨n0,n1,n2,n3,n4,nf⟩:=zd Z.blk;have aF:N<wE.heap.size:=(Array.getElem?_eq_some_iff.1 Z.blk).1
     have cb:∀W:World,W.heap=wE.heap→W.os=wE.os→W.tape=wE.tape→W.output=wE.output→Calls Tryz.prog 91 #[.pointer (some ⟨r,0,none⟩),.int .i64 ((line:Int)+1)] W fun e' w'=>∃(a3:Int) (b3:ByteArray) (c3:Int) (u0:Option Addr) (u1 u2:Nat) (l3:Int),e'=.returned (.agg #[.int .i64 a3,.string b3,.int .i64 c3,.slice u0 u1 u2,.int .i64 l3]) ∧
       w'.heap[N]?=some (.cells #[.int .i64 z,.string E,.int .i64 G,.slice D y A,.int .i64 (e.line:Int)] 90 (0,0))∧Hid (zb r wE w'∧zM wE.heap.size w' q3.1 (.agg #[.int .i64 a3,.string b3,.int .i64 c3,.slice u0 u1 u2,.int .i64 l3])∧zB r g q3.2 w'):=fun W e1 e2 e3 e4=>by
      refine (show Calls Tryz.prog 91 #[.pointer (some ⟨r,0,none⟩),.int .i64 ((line:Int)+1)] W _ from aI.out U (by omega) (line+1) _ q3 W (by omega) ak (rE.as e1)).mono ?_
      rintro e' w' ⟨hk,v,rfl,hx,ab⟩;obtain ⟨a3,b3,c3,u0,u1,u2,l3,rfl⟩:=hx.agg;have aw:=hk.as e1 e2 e3 e4;rw [e1] at hx;exact ⟨a3,b3,c3,u0,u1,u2,l3,rfl,(aw.block N aF (by omega)).trans av.out,aw,hx,ab⟩
     have an:q3.2.2.length<ZC r wr:=by rw [am.out];simp only at ae;omega
     have aO:IntKind.i64.wrap ((line:Int)+1)=(line:Int)+1:=by rw [IntKind.wrap_i64];omega
     have HT:Hid (yu U line (.mk 7 t.s 0 [e,q3.1] e.line) q3.2=some q):=aH;have aV:U≤F:=by omega
     clear O kD kE rE Y Z L ak aH ae T aI;simp only [YH];go_wp2_with fail
     go_region_with (go_at_call 91;refine (cb _ (by rfl) (by rfl) (by rfl) (by rfl)).mono ?_;rintro e' w7 ⟨a3,b3,c3,u0,u1,u2,l3,rfl,p7,H7⟩;have aL:N<w7.heap.size:=(Array.getElem?_eq_some_iff.1 p7).1;have aG:=(fun ob=>(Below.heap_alloc w7 ob N aL).trans p7);obtain ⟨m0,m1,m2,m3,m4,mf⟩:=zd p7;have aR:=zc m0;have aN:=zc m1;have aM:=zc m2;have aW:=zc m3;have aT:=zc m4;have aP:=(fun ob j=>(zd (aG ob)).2.2.2.2.2 j))
     all_goals
      obtain ⟨az,aK,ad⟩:=H7.out;obtain ⟨W,hW⟩:∃W,W=(set5 w7 N (.int .i64 7) (.string (za t.s)) (.int .i64 0) (.slice (some ⟨w7.heap.size,0,none⟩) 2 2) (.int .i64 (e.line:Int))).alloc (.cells #[.int .i64 z,.string E,.int .i64 G,.slice D y A,.int .i64 (e.line:Int),.int .i64 a3,.string b3,.int .i64 c3,.slice u0 u1 u2,.int .i64 l3] 90):=⟨_,rfl⟩;have af:=ZJ.two 7 t.s HC.out hr hg X aq.out az aK ad (.int .i64 7) rfl W hW;have aQ:Hid (YQ r g N F w q (fun f e σ=>yu f line e σ) W∧ZC r W<ZC r wr):=show _∧_<_ from ⟨⟨_,_,U,_,_,_,_,_,_,_,aV,HT.out,af⟩,by rw [af.rd.left];exact an⟩
      change Exit.inBlock _ _ _ _ ((set5 w7 N (.int .i64 7) (.string (za t.s)) (.int .i64 0) (.slice (some ⟨w7.heap.size,0,none⟩) 2 2) (.int .i64 (e.line:Int))).alloc (.cells #[.int .i64 z,.string E,.int .i64 G,.slice D y A,.int .i64 (e.line:Int),.int .i64 a3,.string b3,.int .i64 c3,.slice u0 u1 u2,.int .i64 l3] 90))
      rw [←hW];clear hW af ad aK az p7 aG m0 m1 m2 m3 m4 mf aR aN aM aW aT aP n0 n1 n2 n3 n4 nf cb H7 av HT aq HC an aO;go_wp2
      exact aQ.out
    ·obtain ⟨pN,pz,J⟩:=o.out (fun h=>hlv h.2.2) wC kC rC
     have H:¬ ((levelOf t.s:Int)-1=(line:Int)):=by omega
     generalize (levelOf t.s:Int)-1=LV at *;have aY:(LV==(line:Int))=false:=by rw [beq_eq_false_iff_ne];exact H
     have aX:decide (LV=(line:Int))=false:=decide_eq_false H;obtain ⟨n0,n1,n2,n3,n4,nf⟩:=zd pN;obtain ⟨aJ,ar,aE,aB,ay,zf⟩:=zd pz;obtain ⟨z0,z1,z2,z3,z4⟩:=zi pz (.int .i64 z) (.string E) (.int .i64 G) (.slice D y A) (.int .i64 (e.line:Int));have Q:Hid (zL r g w q (.returned (.agg #[.int .i64 z,.string E,.int .i64 G,.slice D y A,.int .i64 (e.line:Int)])) (set5 wC w.heap.size (.int .i64 z) (.string E) (.int .i64 G) (.slice D y A) (.int .i64 (e.line:Int)))):=J;clear o HC J pN pz kC rC cT L hlv;go_wp2
     exact bodyPost_ret (v:=.agg #[.int .i64 z,.string E,.int .i64 G,.slice D y A,.int .i64 (e.line:Int)]) (by simp [results,Tryz.results91,go_sem,z0,z1,z2,z3,z4]) rfl Q.out
   ·have aS:¬(t.k:Int)=4:=by omega
    go_wp2_with fail
    refine cA.mono ?_;clear cA m0 m1 m2 mf;rintro e' wA ⟨rfl,I⟩;obtain ⟨pN,pz,J⟩:=o.out (fun h=>h4 h.2.1) wA (zb.of I) (R.out.below I)
    clear o HC I R cT L;simp only [YH];obtain ⟨n0,n1,n2,n3,n4,nf⟩:=zd pN;obtain ⟨aJ,ar,aE,aB,ay,zf⟩:=zd pz;obtain ⟨z0,z1,z2,z3,z4⟩:=zi pz (.int .i64 z) (.string E) (.int .i64 G) (.slice D y A) (.int .i64 (e.line:Int));have Q:Hid (zL r g w q (.returned (.agg #[.int .i64 z,.string E,.int .i64 G,.slice D y A,.int .i64 (e.line:Int)])) (set5 wA w.heap.size (.int .i64 z) (.string E) (.int .i64 G) (.slice D y A) (.int .i64 (e.line:Int)))):=J;clear J pN pz;go_wp2
    exact bodyPost_ret (v:=.agg #[.int .i64 z,.string E,.int .i64 G,.slice D y A,.int .i64 (e.line:Int)]) (by simp [results,Tryz.results91,go_sem,z0,z1,z2,z3,z4]) rfl Q.out
  ·obtain ⟨pp,aC,TS,O⟩:=V.rd
   obtain ⟨m0,m1,m2,mf⟩:=z7 O.blk;obtain ⟨pN,pz,J⟩:=o.out (fun h=>by cases h.1) wr (zb.refl _ _) V.rd
   obtain ⟨n0,n1,n2,n3,n4,nf⟩:=zd pN;obtain ⟨aJ,ar,aE,aB,ay,zf⟩:=zd pz;obtain ⟨z0,z1,z2,z3,z4⟩:=zi pz (.int .i64 z) (.string E) (.int .i64 G) (.slice D y A) (.int .i64 (e.line:Int));have Q:Hid (zL r g w q (.returned (.agg #[.int .i64 z,.string E,.int .i64 G,.slice D y A,.int .i64 (e.line:Int)])) (set5 wr w.heap.size (.int .i64 z) (.string E) (.int .i64 G) (.slice D y A) (.int .i64 (e.line:Int)))):=J;clear o HC J pN pz V O L K;go_wp2
   exact bodyPost_ret (v:=.agg #[.int .i64 z,.string E,.int .i64 G,.slice D y A,.int .i64 (e.line:Int)]) (by simp [results,Tryz.results91,go_sem,z0,z1,z2,z3,z4]) rfl Q.out
theorem Yp.exs {ty B:Nat} {w:World} {l:List Ex} {v:Value} (h:Yp uc 5 ty B w l v):Zr B w l v:=by
 rcases h with h | ⟨g,e,o,h⟩
 ·exact .inl h
 ·exact h.row
theorem yy {s:List UInt8} {σ:RS} (h:zU s σ=false):ZB s σ=σ:=by unfold ZB;rw [if_neg (by simp [h])]
theorem Z7 {s:List UInt8} {σ:RS} (h:zU s σ=true):ZB s σ=(false,σ.2.tail):=by unfold ZB;rw [if_pos h]
theorem Ug {F:Nat} {s:List UInt8} {b:Bool} {σ:RS} {q:List Ex × RS} (h:ZN (F+1) s b σ=some q) (hc:¬ (b=false∧zU s σ=true)):∃l,Y2 F [] σ=some l∧q=(l.1,Za s l.2):=by
 rw [ZN,if_neg hc] at h;obtain ⟨y,e,o⟩:=Option.bind_eq_some_iff.1 h;exact ⟨y,e,(Option.some.inj o).symm⟩
theorem qs (r g F:Nat) (s:List UInt8) (σ:RS) (w:World) (q:List Ex × RS) (h:zB r g σ w) (hs:zU s σ=true) (hq:ZN (F+1) s false σ=some q) :
  Calls Tryz.prog 151 #[.pointer (some ⟨r,0,none⟩),.string (za s),.bool false] w (xn r g w q):=by
 rw [ZN,if_pos ⟨rfl,hs⟩] at hq;obtain rfl:=Option.some.inj hq;have z:=ym r g σ s w h;rw [hs,Z7 hs] at z;clear h hq hs
 go_enter Tryz.func151,Tryz.ntmps151
 go_wp2_with fail
 refine z.mono ?_;clear z;rintro e A ⟨rfl,y,o⟩;have D:Hid (xn r g w ([],(false,σ.2.tail)) (.returned (.slice none 0 0)) A):=⟨y,_,rfl,.inl ⟨rfl,rfl⟩,o⟩;clear y o;go_wp2
 exact bodyPost_ret (v:=.slice none 0 0) (by simp [results,Tryz.results151,go_sem]) rfl D.out
theorem qt (r g F:Nat) (s:List UInt8) (b:Bool) (σ:RS) (w wA:World) (q:List Ex × RS) (hk:zb r w wA) (hr:r<w.heap.size) (hg:g<w.heap.size) (h:zB r g σ wA) (hc:¬ (b=false∧zU s σ=true)) (hq:ZN (F+1) s b σ=some q) (hex:Yd r g F) :
  Calls Tryz.prog 151 #[.pointer (some ⟨r,0,none⟩),.string (za s),.bool b] wA (xn r g w q):=by
 obtain ⟨i0,aN,aJ,aM,aP⟩:=info_parts vZ;obtain ⟨l0,K,rfl⟩:=Ug hq hc;have HQ:Hid (Y2 F [] σ=some l0):=K;have aQ:Hid (Yd r g F):=hex;have HK:Hid (zb r w wA):=hk;have cs:=ym r g σ s wA h;have HR:Hid (zB r g σ wA):=h;have aA:=h.few;clear K hq hex hk h;cases b
 case' false =>
  have hs:zU s σ=false:=by simpa using hc
  rw [hs,yy hs] at cs;clear hc HR hs
  go_enter Tryz.func151,Tryz.ntmps151
  go_wp2_with fail
  refine cs.mono ?_;clear cs;rintro e w1 ⟨rfl,aF,aC⟩;have ao:Hid (zB r g σ w1):=aC;have an:Hid (zb r w w1):=HK.out.trans aF;clear aF aC HK;go_wp2_with fail
 case' true =>
  clear hc cs;have ao:Hid (zB r g σ wA):=HR.out;have an:Hid (zb r w wA):=HK.out;clear HR HK
  go_enter Tryz.func151,Tryz.ntmps151
  go_wp2_with fail
 all_goals
  go_loopw [7] (fun v wr=>∃(L:List Ex) (V:RS) (f2:Nat),f2≤F∧Y2 f2 L V=some l0∧L.length+V.2.length≤1099511627776∧Yp uc 5 90 w.heap.size wr L v∧zB r g V wr∧zb r w wr) (fun _ wr=>ZC r wr)
  case atStart=>exact ⟨[],σ,F,Nat.le_refl _,HQ.out,by simpa using aA,Yp.nil _ _ _ _ _,ao.out,an.out⟩
  case round =>
   obtain ⟨L,V,f2,aU,hT,aW,Y,J,aD⟩:=hrel;clear ao an HQ;obtain ⟨bd,ts⟩:=V;have al:Hid (ZC r wr=ts.length):=J.left;have A:Hid (Yp uc 5 90 w.heap.size wr L _):=Y;have U:Hid (zb r w wr):=aD;have aH:Hid (zB r g (bd,ts) wr):=J;obtain ⟨lb,lc,ay⟩:=Y.slice;subst ay
   obtain ⟨f3,rfl⟩:∃f3,f2=f3+1:=by
    cases f2 with
    | zero=>simp [Y2] at hT
    | succ f3=>exact ⟨f3,rfl⟩
   rw [Y2] at hT;have cm:=fun (W:World) (hW:zB r g l0.2 W)=>Vu r g l0.2 s W hW
   have D:=J;obtain ⟨pp,aT,TS,hb⟩:=J;obtain ⟨m0,m1,m2,mf⟩:=z7 hb.blk;clear hb Y aD;cases bd
   ·rw [if_neg (by simp)] at hT
    obtain ⟨H,aq,M⟩:=Option.bind_eq_some_iff.1 hT;have ai:=(Qi f3).1 _ _ _ aq;have c3:=aQ.out f3 (by omega) 0 _ H wr (by omega) aq D
    have aI:Calls Tryz.prog 91 #[.pointer (some ⟨r,0,none⟩),.int .i64 0] wr (zL r g wr H):=c3;clear c3 D aq hT;go_wp2_with fail
    refine aI.mono ?_;clear aI m0 m1 m2 mf;rintro e w4 ⟨aa,v,rfl,hx,aB⟩;have ap:Hid (zb r w w4):=U.out.trans aa;obtain ⟨a4,b4,c4,p4,q4,s4,l4,rfl⟩:=hx.agg;have T:=A.out.kept yH aa.size fun k hB hlt=>aa.block k hlt (by omega)
    have az:w.heap.size≤wr.heap.size:=U.out.size;have aR:w.heap.size≤w4.heap.size:=ap.out.size;obtain ⟨us,ah,Q⟩:=T.more yH;have av:Hid (uc (fun k=>wr.heap.size≤k) w4 H.1 [.int .i64 a4,.string b4,.int .i64 c4,.slice p4 q4 s4,.int .i64 l4]):=hx
    have aw:Hid (∀q,(Value.slice lb L.length lc).ownBlock=some q→q<wr.heap.size):=fun q hq=>(A.out.block q hq).2
    have af:Hid (∀q,(Value.slice lb L.length lc).ownBlock=some q→w.heap.size≤q):=fun q hq=>(A.out.block q hq).1
    have aG:Hid (∀{w':World} {v':Value} {x:Ex} {c:List Value} {ob:Obj} {N:Nat},uc (fun k=>N≤k) w4 x c→w.heap.size≤N→(∀q,(Value.slice lb L.length lc).ownBlock=some q→q<N)→c.length=5→w'.ownsRow w.heap.size 90 5 v' (L.length+1) (us.flatten++c)→(w4.alloc ob).grownBy w' (Value.slice lb L.length lc).ownBlock→(v'.ownBlock=(Value.slice lb L.length lc).ownBlock∨v'.ownBlock=some (w4.alloc ob).heap.size)→Yp uc 5 90 w.heap.size w' (L++[x]) v'):=Q
    have au:Hid (zB r g H.2 w4):=aB;have ak:=(ah.alloc (.cells #[.int .i64 a4,.string b4,.int .i64 c4,.slice p4 q4 s4,.int .i64 l4] 90));have aV:L.length≤1099511627776:=by omega
    clear T hx aB aa ah Q
    go_wp2_with (at_builtin;refine wpList_append_own_at _ rfl _ _ 88 rfl w.heap.size 90 i0 _ 5 64 Tryz.underlying88 aN aJ aM aP rfl (by decide) _ _ _ rfl ak ⟨w4.heap.size,0,none⟩ 1 1 [.int .i64 a4,.string b4,.int .i64 c4,.slice p4 q4 s4,.int .i64 l4] rfl rfl (ZS _ _ _) (by simp [Value.oneCell']) (by unfold maxLen;omega) (by omega) (by simp;omega) ?_;intro v' w5 Z o _ ar)
    have I:=aG.out (ob:=.cells #[.int .i64 a4,.string b4,.int .i64 c4,.slice p4 q4 s4,.int .i64 l4] 90) av.out az aw.out rfl Z o ar
    have ax:zb r w w5:=(ap.out.alloc _).grown o af.out;have aj:zB r g H.2 w5:=au.out.keep ((o.block r (by simp;omega) (fun e=>by have:=af.out r e.symm;omega)).trans (Below.heap_alloc _ _ _ (by omega))) ((o.block g (by simp;omega) (fun e=>by have:=af.out g e.symm;omega)).trans (Below.heap_alloc _ _ _ (by omega)))
    have z:Hid (Yp uc 5 90 w.heap.size w5 (L++[H.1]) v'):=I;have ab:Hid (zb r w w5):=ax;have ct:=ym r g H.2 [44] w5 aj;obtain ⟨ad,ae,am⟩:=I.slice;subst am;clear I ax aj Z o ar aG av aw af au ak A U ap aH;cases hi:zU [44] H.2
    ·rw [hi,yy hi] at ct
     rw [if_neg (by simp [hi])] at M
     have K:=Option.some.inj M;go_wp2_with fail
     refine ct.mono ?_;clear ct;rintro e w6 ⟨rfl,E,O⟩;have R:=cm w6 (by rw [←K];exact O)
     have aE:Hid (zb r w w6):=ab.out.trans E;have y:Hid (Zr w.heap.size w6 l0.1 (.slice ad (L++[H.1]).length ae)):=by rw [←K];exact (z.out.kept yH E.size fun k hB hlt=>E.block k hlt (by omega)).exs
     generalize (L++[H.1]).length=LN at *;clear E O z ab cm K M;go_wp2_with fail
     refine R.mono ?_;clear R;rintro e w8 ⟨rfl,G,X⟩;have HP:Hid (xn r g w (l0.1,Za s l0.2) (.returned (.slice ad LN ae)) w8):=⟨aE.out.trans G,_,rfl,y.out.kept G.size fun k hB hlt=>G.block k hlt (by omega),X⟩
     clear G X y aE;go_wp2
     exact bodyPost_ret (v:=.slice ad LN ae) (by simp [results,Tryz.results151,go_sem]) rfl HP.out
    ·rw [hi,Z7 hi] at ct
     rw [if_pos hi] at M;obtain ⟨-,-,aK⟩:=xz hi;have aS:=yw aK;have aO:Hid (Y2 f3 (L++[H.1]) (false,H.2.2.tail)=some l0):=M;have ag:(L++[H.1]).length=L.length+1:=by simp
     rw [ag] at z ⊢;clear M cm;go_wp2_with fail
     refine ct.mono ?_;clear ct;rintro e w6 ⟨rfl,E,O⟩;have HJ:Hid (Yp uc 5 90 w.heap.size w6 (L++[H.1]) (.slice ad (L.length+1) ae)∧zB r g (false,H.2.2.tail) w6∧zb r w w6):=⟨z.out.kept yH E.size fun k hB hlt=>E.block k hlt (by omega),O,ab.out.trans E⟩
     have aL:ZC r w6=H.2.2.tail.length:=O.left;clear E O z ab;go_wp2
     refine ⟨⟨L++[H.1],_,f3,by omega,aO.out,?_,HJ.out⟩,?_⟩
     ·rw [ag];show L.length+1+H.2.2.tail.length≤_;(try simp only at ai);omega
     ·rw [aL,al.out];(try simp only at ai);omega
   ·rw [if_pos rfl] at hT
    obtain rfl:=Option.some.inj hT;have R:=cm wr D;have y:Hid (Zr w.heap.size wr L (.slice lb L.length lc)):=A.out.exs;generalize L.length=LN at *;clear D cm hT A aH;go_wp2_with fail
    refine R.mono ?_;clear R;rintro e w8 ⟨rfl,G,X⟩;have HP:Hid (xn r g w (L,Za s (true,ts)) (.returned (.slice lb LN lc)) w8):=⟨U.out.trans G,_,rfl,y.out.kept G.size fun k hB hlt=>G.block k hlt (by omega),X⟩
    clear G X y U;go_wp2
    exact bodyPost_ret (v:=.slice lb LN lc) (by simp [results,Tryz.results151,go_sem]) rfl HP.out
theorem Q6 (r g F:Nat) (s:List UInt8) (b:Bool) (σ:RS) (w:World) (q:List Ex × RS) (h:zB r g σ w) (hq:ZN (F+1) s b σ=some q) (hex:Yd r g F) :
  Calls Tryz.prog 151 #[.pointer (some ⟨r,0,none⟩),.string (za s),.bool b] w (xn r g w q):=by
 by_cases hc:b=false∧zU s σ=true
 ·obtain ⟨rfl,e⟩:=hc
  exact qs r g F s σ w q h e hq
 ·exact qt r g F s b σ w w q (zb.refl r w) h.lt.1 h.lt.2 h hc hq hex
end Go.Proofs.YtmbofhpmockmbaaGreatDoor
