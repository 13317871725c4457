import Derived.Test.YtcphojjpapgblaaGreatDoorMC50
import Derived.Test.YtcphojjpapgblaaGreatDoorMC27
import Derived.Test.YtcphojjpapgblaaGreatDoorMC32
import Derived.Test.YtcphojjpapgblaaGreatDoorMC12
import Derived.Test.YtcphojjpapgblaaGreatDoorMC47
import Derived.Test.YtcphojjpapgblaaGreatDoorMC11
namespace Go.Proofs.YtcphojjpapgblaaGreatDoor
open Go.RowKit Go.Shelf
set_option maxHeartbeats 16000000
set_option maxRecDepth 100000
theorem Ye {α:Type} {P:α→Prop}:∀x∈([]:List α),P x:=fun x hx=>by cases hx
theorem zbR {d:Nat} {k:Int} {s:List UInt8} {n:Int} {kids:List Ez} {line:Int} {t:List UInt8} (h:prE (d+1) (.mk k s n kids line)=some t):0≤k∧∀x∈kids,∃u,prE d x=some u:=by
 rcases zah h with ⟨rfl,-,rfl,-⟩ | ⟨rfl,-,rfl,-⟩ | ⟨rfl,-,rfl,-⟩ | ⟨rfl,-,rfl,-⟩ | ⟨rfl,-,u,v,-,y,-⟩ | ⟨rfl,-,u,v,-,y,-⟩ | ⟨rfl,-,-,-,v,y,-⟩ | ⟨rfl,-,-,a,u,rfl,z,-⟩ | ⟨rfl,-,-,a,b,u,v,rfl,z,y,-⟩ | ⟨rfl,-,-,a,b,u,v,rfl,z,y,-⟩ | ⟨rfl,-,a,u,v,rfl,z,y,-⟩
 ·exact ⟨by omega,Ye⟩
 ·exact ⟨by omega,Ye⟩
 ·exact ⟨by omega,Ye⟩
 ·exact ⟨by omega,Ye⟩
 ·exact ⟨by omega,VN y⟩
 ·exact ⟨by omega,VN y⟩
 ·exact ⟨by omega,VN y⟩
 ·obtain ⟨w,A,-⟩:=y9 z
  exact ⟨by omega,fun x o=>by obtain rfl:=List.mem_singleton.1 o;exact ⟨w,A⟩⟩
 ·obtain ⟨w,A,-⟩:=y9 z
  obtain ⟨w',D,-⟩:=y9 y;refine ⟨by omega,fun x o=>?_⟩
  rcases List.mem_cons.1 o with rfl | o
  ·exact ⟨w,A⟩
  ·obtain rfl:=List.mem_singleton.1 o;exact ⟨w',D⟩
 ·obtain ⟨w,A,-⟩:=y9 z
  refine ⟨by omega,fun x o=>?_⟩
  rcases List.mem_cons.1 o with rfl | o
  ·exact ⟨w,A⟩
  ·obtain rfl:=List.mem_singleton.1 o;exact ⟨v,y⟩
 ·obtain ⟨w,A,-⟩:=y9 z
  exact ⟨by omega,fun x o=>by obtain rfl:=List.mem_singleton.1 o;exact ⟨w,A⟩⟩
theorem zc3 {P:Ez→Prop} (ih:∀y x,P y→vF y=Xb (fun _=>0) x→smE y (XO x)):∀(l:List Ez) (m:List Ex),(∀y∈l,P y)→zzL l=YD (fun _=>0) m→qR l (yC m)
 | [],[],_,_=>by rw [yC,qR];trivial
 | [],_::_,_,h=>by rw [zzL,YD] at h;cases h
 | _::_,[],_,h=>by rw [zzL,YD] at h;cases h
 | y::ys,x::xs,hP,h=>by
  rw [zzL,YD] at h
  injection h with h1 h2
  rw [yC,qR];exact ⟨ih y x (hP y (List.mem_cons_self ..)) h1,zc3 ih ys xs (fun z hz=>hP z (List.mem_cons_of_mem _ hz)) h2⟩
theorem zc4:∀(d:Nat) (y:Ez) (x:Ex),(∃t,prE d y=some t)→vF y=Xb (fun _=>0) x→smE y (XO x)
 | 0,y,x,⟨t,h⟩,_=>by rw [prE] at h;cases h
 | d+1,.mk k s n kids line,.mk k' s' n' kids' line',⟨t,h⟩,he=>by
  obtain ⟨z,o⟩:=zbR h;rw [vF,Xb] at he
  injection he with h1 h2 h3 h4 h5
  rw [XO,smE];exact ⟨by omega,h2,h3,zc3 (zc4 d) kids kids' o h4⟩
theorem uB {P:Ez→Prop} {d:Nat} (ih:∀y,P y→zN (vF y)≤d):∀l:List Ez,(∀y∈l,P y)→depthL (zzL l)≤d
 | [],_=>by rw [zzL,depthL];exact Nat.zero_le _
 | y::ys,hP=>by
  have o:=ih y (hP y (List.mem_cons_self ..));have h:=uB ih ys fun z hz=>hP z (List.mem_cons_of_mem _ hz)
  rw [zzL,depthL];omega
theorem uC:∀(d:Nat) (y:Ez),(∃t,prE d y=some t)→zN (vF y)≤d
 | 0,y,⟨t,h⟩=>by rw [prE] at h;cases h
 | d+1,.mk k s n kids line,⟨t,h⟩=>by
  have:=uB (uC d) kids (zbR h).2
  rw [vF,zN];omega
theorem zbS {d:Nat} {k:Int} {s:List UInt8} {es:List Ez} {body els:List Sz} {line:Int} {t:List UInt8} (h:prS (d+1) (.mk k s es body els line)=some t):0≤k∧(∀x∈es,∃u,prE d x=some u)∧(∀x∈body,∃u,prS d x=some u)∧∀x∈els,∃u,prS d x=some u:=by
 rcases zal h with ⟨rfl,rfl,rfl,a,u,v,rfl,y,A,-⟩ | ⟨rfl,rfl,rfl,rfl,a,b,u,v,rfl,G,y,A,-⟩ | ⟨rfl,rfl,rfl,rfl,rfl,-⟩ | ⟨rfl,rfl,rfl,rfl,a,u,rfl,y,-⟩ | ⟨rfl,rfl,rfl,rfl,a,u,rfl,y,-⟩ | ⟨rfl,rfl,a,u,b,c,rfl,y,z,D,-⟩ | ⟨H,rfl,rfl,a,u,b,rfl,y,z,-⟩
 ·exact ⟨by omega,fun x o=>by obtain rfl:=List.mem_singleton.1 o;exact ⟨v,A⟩,Ye,Ye⟩
 ·refine ⟨by omega,fun x o=>?_,Ye,Ye⟩
  rcases List.mem_cons.1 o with rfl | o
  ·exact ⟨u,y⟩
  ·obtain rfl:=List.mem_singleton.1 o;exact ⟨v,A⟩
 ·exact ⟨by omega,Ye,Ye,Ye⟩
 ·exact ⟨by omega,fun x o=>by obtain rfl:=List.mem_singleton.1 o;exact ⟨u,y⟩,Ye,Ye⟩
 ·exact ⟨by omega,fun x o=>by obtain rfl:=List.mem_singleton.1 o;exact ⟨u,y⟩,Ye,Ye⟩
 ·exact ⟨by omega,fun x o=>by obtain rfl:=List.mem_singleton.1 o;exact ⟨u,y⟩,vH z,vH D⟩
 ·exact ⟨by omega,fun x o=>by obtain rfl:=List.mem_singleton.1 o;exact ⟨u,y⟩,vH z,Ye⟩
theorem Up {P:Sz→Prop} (ih:∀y x,P y→zzS y=V1 (fun _=>0) x→smS y (uP x)):∀(l:List Sz) (m:List St),(∀y∈l,P y)→Ul l=yg (fun _=>0) m→xJ l (yY m)
 | [],[],_,_=>by rw [yY,xJ];trivial
 | [],_::_,_,h=>by rw [Ul,yg] at h;cases h
 | _::_,[],_,h=>by rw [Ul,yg] at h;cases h
 | y::ys,x::xs,hP,h=>by
  rw [Ul,yg] at h
  injection h with h1 h2
  rw [yY,xJ];exact ⟨ih y x (hP y (List.mem_cons_self ..)) h1,Up ih ys xs (fun z hz=>hP z (List.mem_cons_of_mem _ hz)) h2⟩
theorem zc5:∀(d:Nat) (y:Sz) (x:St),(∃t,prS d y=some t)→zzS y=V1 (fun _=>0) x→smS y (uP x)
 | 0,y,x,⟨t,h⟩,_=>by rw [prS] at h;cases h
 | d+1,.mk k s es b c line,.mk k' s' es' b' c' line',⟨t,h⟩,he=>by
  obtain ⟨D,z,o,A⟩:=zbS h;rw [zzS,V1] at he
  injection he with h1 h2 h3 h4 h5 h6
  rw [uP,smS];rw [←Uk] at h3;exact ⟨by omega,h2,zc3 (zc4 d) es es' z h3,Up (zc5 d) b b' o h4,Up (zc5 d) c c' A h5⟩
theorem XI {P:Sz→Prop} {d:Nat} (ih:∀y,P y→Zn (zzS y)≤d):∀l:List Sz,(∀y∈l,P y)→depthSs (Ul l)≤d
 | [],_=>by rw [Ul,depthSs];exact Nat.zero_le _
 | y::ys,hP=>by
  have o:=ih y (hP y (List.mem_cons_self ..));have h:=XI ih ys fun z hz=>hP z (List.mem_cons_of_mem _ hz)
  rw [Ul,depthSs];omega
theorem uD:∀(d:Nat) (y:Sz),(∃t,prS d y=some t)→Zn (zzS y)≤d
 | 0,y,⟨t,h⟩=>by rw [prS] at h;cases h
 | d+1,.mk k s es b c line,⟨t,h⟩=>by
  obtain ⟨-,A,o,z⟩:=zbS h;have H:=uB (uC d) es A;have G:=XI (uD d) b o;have D:=XI (uD d) c z;rw [zzS,Zn,←Uk];omega
theorem QK {y:Pz} {t:List UInt8} (h:XN y=some t):∀x∈y.funs,∀z∈x.body,∃u,prS 24 z=some u:=by
 unfold XN at h
 obtain ⟨a,b,U,J,rfl⟩:=zj h;intro x I z H;obtain ⟨j,A,rfl⟩:=List.getElem_of_mem I;obtain ⟨u,o⟩:=vt J j A;rw [List.getElem?_map,List.getElem?_eq_getElem A] at o;have o:funO y.funs[j]=some u:=o
 unfold funO at o
 obtain ⟨_,_,_,G,-⟩:=zj o;obtain ⟨_,_,_,R,-⟩:=zj G;obtain ⟨_,_,_,T,-⟩:=zj R;obtain ⟨_,_,_,L,-⟩:=zj T;obtain ⟨_,_,_,D,-⟩:=zj L;obtain ⟨_,_,_,N,-⟩:=zj D;obtain ⟨_,_,_,O,-⟩:=zj N;obtain ⟨_,_,Q,_,-⟩:=zj O;exact vH Q z H
theorem qu:∀l:List Fz,(∀x∈l,∀z∈x.body,∃u,prS 24 z=some u)→depthFs (l.map zzF)≤24
 | [],_=>Nat.zero_le _
 | x::xs,h=>by
  have A:=XI (uD 24) x.body (h x (List.mem_cons_self ..));have o:=qu xs fun y hy=>h y (List.mem_cons_of_mem _ hy)
  rw [List.map_cons,depthFs,show (zzF x).body=Ul x.body from rfl]
  omega
theorem ziK {y:Pz} {x:Pg} {t:List UInt8} (h:XN y=some t) (he:zzG y=zg7 (fun _=>0) x):SmP y (pgz x):=by
 unfold zzG zg7 at he
 injection he with h1 h2
 refine ⟨?_,?_,fun i a b ha hb=>?_,fun i a b ha hb=>?_⟩
 ·have:=congrArg List.length h1
  simpa [pgz] using this
 ·have:=congrArg List.length h2
  simpa [pgz] using this
 ·unfold pgz at hb
  simp only [List.getElem?_map,Option.map_eq_some_iff] at hb;obtain ⟨v,z,rfl⟩:=hb;have o:=congrArg (fun l=>l[i]?) h1
  simp only [List.getElem?_map,ha,z,Option.map_some,Option.some.injEq] at o
  unfold zg6 zzR at o
  injection o with h4 h5 h6
  exact ⟨h4,h5⟩
 ·unfold pgz at hb
  simp only [List.getElem?_map,Option.map_eq_some_iff] at hb;obtain ⟨v,z,rfl⟩:=hb;have o:=congrArg (fun l=>l[i]?) h2
  simp only [List.getElem?_map,ha,z,Option.map_some,Option.some.injEq] at o
  unfold zfC zzF at o
  injection o with h4 h5 h6 h7 h8
  exact ⟨h4,h6,h5,Up (zc5 24) _ _ (QK h a (List.mem_of_getElem? ha)) h7⟩
theorem zeJ {t:List UInt8} {y:Pz} {x':Pg} {a' e':Nat} (ht:XN y=some t) (hl:t.length≤4096) (h':yM t x' a' e'):e'=0∧a'=0∧SmP y (pgz x'):=by
 obtain ⟨⟨X,U⟩,⟨W,G⟩⟩:=zeu ht;obtain ⟨D,H⟩:=Qw hl U
 unfold yM at h'
 rw [if_neg (by rw [D];decide)] at h'
 have V:=xB t D;obtain ⟨f,r,J,A⟩:=h';have o:=zad (fun _=>0) (fun _=>0) f [] [] _ V
 have N:(zW t).1.map (Xa (fun _=>0) (fun _=>0))=ktG y++[eoT]:=H
 rw [N,J] at o;rcases r with b | ⟨z,I⟩
 ·have h:=Vu G o
  cases h
 ·have h:=Vu G o
  injection h with h5
  injection h5 with h6 h7
  have Q:=VZ h7.symm;have T:yx (.ok (z,I))=.ok z:=by unfold yx;simp only [if_pos Q]
  simp only [T] at A
  have R:depthFs z.funs≤24:=by
   have L:depthFs (zg7 (fun _=>0) z).funs=depthFs z.funs:=qs _ _
   have O:depthFs (zzG y).funs≤24:=qu y.funs (QK ht);rw [←L,←h6];exact O
  rw [if_neg (by omega)] at A
  obtain ⟨rfl,rfl,rfl⟩:=A;exact ⟨rfl,rfl,ziK ht h6⟩
theorem zeK {t:List UInt8} {y:Ez} {x':Ex} {a' e':Nat} (ht:prE 24 y=some t) (hl:t.length≤4096) (h':yK t x' a' e'):e'=0∧a'=0∧smE y (XO x'):=by
 have D:=(VO 24 y t ht).lx [] 1 [eoT] (fun c hc=>by cases hc) zdz
 rw [List.append_nil] at D;obtain ⟨W,T⟩:=D;obtain ⟨V,H⟩:=(YP 24 y t ht).full (rest:=[eoT]) ⟨rfl,rfl,rfl⟩ rfl;obtain ⟨G,I⟩:=Qw hl T
 unfold yK at h'
 rw [if_neg (by rw [G];decide)] at h'
 have U:=xB t G;obtain ⟨f,r,L,A⟩:=h';have o:=(zbu (fun _=>0) (fun _=>0) f).1 1 _ U
 have N:(zW t).1.map (Xa (fun _=>0) (fun _=>0))=Yd y++[eoT]:=I
 rw [N,L] at o;rcases r with b | ⟨z,J⟩
 ·have h:=YQ H o
  cases h
 ·have h:=YQ H o
  injection h with h5
  injection h5 with h6 h7
  have O:=VZ h7.symm;have R:yB (.ok (z,J))=.ok z:=by unfold yB;simp only [if_pos O]
  simp only [R] at A
  have Q:zN z≤24:=by
   rw [←QJ (fun _=>0) z,←h6]
   exact uC 24 y ⟨t,ht⟩
  rw [if_neg (by omega)] at A
  obtain ⟨rfl,rfl,rfl⟩:=A;exact ⟨rfl,rfl,zc4 24 y _ ⟨t,ht⟩ h6⟩
theorem zgl {c:Nat} {w W:World} {n:Int} (hk:zc c w W) (hc:W.heap[c]?=some (Xs n)) (v:Int):zc c w (W.setCell ⟨c,0,none⟩ (.int .i64 v))∧(W.setCell ⟨c,0,none⟩ (.int .i64 v)).heap[c]?=some (Xs v):=by
 refine ⟨hk.trans ⟨rfl,rfl,rfl,by simp,fun k _ hk=>Below.heap_setCell _ _ _ _ (by simpa using hk)⟩,?_⟩
 rw [YI _ hc]
 rfl
theorem uE (f:Nat) (x:Pz) (v:Value) (w:World) (hx:Xn w.heap.size w f x v) :
  Calls Tryz.prog 12 #[v] w fun e w'=>(e=.returned (.bool true)∨e=.returned (.bool false))∧Below w.heap.size w w':=by
 obtain ⟨b,m,G,b2,m2,z,rfl,r1,f1⟩:=hx;obtain ⟨rs,fs⟩:=x;simp only at r1 f1;obtain ⟨c,hc⟩:∃c,c=w.heap.size+1:=⟨_,rfl⟩;obtain ⟨w1,I⟩:∃w1,w1=(w.alloc (VV b m G b2 m2 z)).alloc (Xs m):=⟨_,rfl⟩;have aC:Hid (w1=(w.alloc (VV b m G b2 m2 z)).alloc (Xs m)):=I;have ab:Below w.heap.size w w1:=by rw [I];exact ((Below.refl _ w).alloc (Nat.le_refl _) _).alloc (by simp) _
 have ar:w1.heap.size=w.heap.size+2:=by rw [I];simp
 have av:Hid (w1.heap[w.heap.size]?=some (VV b m G b2 m2 z)):=by
  show _=_
  rw [I,Below.heap_alloc _ _ _ (by simp)]
  exact World.alloc_heap_new w _
 have ao:Hid (w1.heap[c]?=some (Xs m)):=by
  have h:=World.alloc_heap_new (w.alloc (VV b m G b2 m2 z)) (Xs m);have e:(w.alloc (VV b m G b2 m2 z)).heap.size=c:=by rw [hc];simp
  rw [e] at h;rw [I];exact h
 have an:Hid (zc c w1 w1):=⟨rfl,rfl,rfl,Nat.le_refl _,fun _ _ _=>rfl⟩
 have D:Hid (∀W,zc c w1 W→Below w.heap.size w W):=fun W hW=>ab.trans (hW.toBelow (by omega) (by omega))
 have aa:Hid (∀W,zc c w1 W→W.heap[w.heap.size]?=some (VV b m G b2 m2 z)):=fun W hW=>(hW.block w.heap.size (by omega) (by omega)).trans av.out
 have aF:m≤9223372036854775807:=by have:=r1.1;have:=r1.2.1;have:=r1.2.2.1;unfold maxLen at this;omega
 have aD:m2≤9223372036854775807:=by have:=f1.1;have:=f1.2.1;have:=f1.2.2.1;unfold maxLen at this;omega
 have HR:Hid (Zj (xD w.heap.size w) 3 w.heap.size w rs b m G):=r1;have HF:Hid (Zj (xE w.heap.size w f) 5 w.heap.size w fs b2 m2 z):=f1;clear I ab r1 f1
 go_enter Tryz.func12,Tryz.ntmps12
 go_upto_region 3 with fail
 rw [←aC.out,←hc];have aG:w.heap.size<c:=by omega
 have aE:c<w1.heap.size:=by omega
 clear hc ar
 go_loopw [4] (fun vi wr=>∃(i:Nat) (X:Int),i≤m∧vi=.int .i64 (i:Int)∧zc c w1 wr∧wr.heap[c]?=some (Xs X)) (fun vi _=>m-(intOf vi).toNat)
 case atStart=>exact ⟨0,m,Nat.zero_le _,rfl,an.out,ao.out⟩
 case round =>
  obtain ⟨i,X,hi,rfl,R,N⟩:=hrel;have ah:Hid (zc c w1 wr):=R;have ak:Hid (wr.heap[c]?=some (Xs X)):=N;obtain ⟨c0,c1⟩:=yE (aa.out wr R);have n0:=ze N;have O:wr.frozen? ⟨c,0,none⟩=false:=by simp only [World.frozen?,N];rfl
  have A:=D.out wr R;clear R N
  by_cases hlt:i<m
  ·have ae:(i:Int)<(m:Int):=by omega
   obtain ⟨y,hy⟩:∃y,rs[i]?=some y:=⟨rs[i]'(by rw [←HR.out.1];exact hlt),List.getElem?_eq_getElem (by rw [←HR.out.1];exact hlt)⟩
   obtain ⟨bb,o,s,bf,mf,cf,line,rfl,V,-,q0,q1,q2⟩:=HR.out.rz i y hy;have m1:=(A.cell (p:=⟨bb,o+i*3+1,none⟩) V).trans q1;clear q0 q1 q2 hy A;go_wp2_with fail
   go_region
   have Y:=zgl ah.out ak.out (wrap64 (X+(mf:Int)));have ap:Hid (zc c w1 (wr.setCell ⟨c,0,none⟩ (.int .i64 (wrap64 (X+(mf:Int))))).drew):=Y.1.trans ⟨rfl,rfl,rfl,Nat.le_refl _,fun _ _ _=>rfl⟩
   have au:Hid ((wr.setCell ⟨c,0,none⟩ (.int .i64 (wrap64 (X+(mf:Int))))).drew.heap[c]?=some (Xs (wrap64 (X+(mf:Int))))):=Y.2;clear Y;go_wp2
   exact ⟨⟨i+1,_,by omega,by go_num,ap.out,au.out⟩,by simp [intOf];omega⟩
  ·obtain rfl:i=m:=by omega
   have ae:¬ (i:Int)<(i:Int):=by omega
   go_upto_region 7 with fail
   clear c0 c1 n0 O A
   go_loopw [5] (fun vi wq=>∃(j:Nat) (nj:Int),j≤m2∧vi=.int .i64 (j:Int)∧zc c w1 wq∧wq.heap[c]?=some (Xs nj)) (fun vi _=>m2-(intOf vi).toNat)
   case atStart=>exact ⟨0,X,Nat.zero_le _,rfl,ah.out,ak.out⟩
   case round =>
    obtain ⟨j,nj,hj,rfl,T,Q⟩:=hrel;have ay:Hid (zc c w1 wr):=T;have aB:Hid (wr.heap[c]?=some (Xs nj)):=Q;obtain ⟨c0,c1⟩:=yE (aa.out wr T);have n0:=ze Q;have O:wr.frozen? ⟨c,0,none⟩=false:=by simp only [World.frozen?,Q];rfl
    have A:=D.out wr T;clear T Q
    by_cases hjl:j<m2
    ·have ad:(j:Int)<(m2:Int):=by omega
     obtain ⟨y,hy⟩:∃y,fs[j]?=some y:=⟨fs[j]'(by rw [←HF.out.1];exact hjl),List.getElem?_eq_getElem (by rw [←HF.out.1];exact hjl)⟩
     obtain ⟨bb,o,cs,rfl,V,-,-,hz,H⟩:=HF.out.2.2.2 j y hy;obtain ⟨bp,mp,cp,bo,mo,co,rfl,-,-,-,J⟩:=hz;have m1:=(A.cell (p:=⟨bb,o+j*5+1,none⟩) V).trans (H 1 _ rfl);have aA:Hid (∀W,zc c w1 W→W.cell? ⟨bb,o+j*5+3,none⟩=some (.slice bo mo co)):=fun W hW=>((D.out W hW).cell (p:=⟨bb,o+j*5+3,none⟩) V).trans (H 3 _ rfl)
     have ax:Hid (∀W n,zc c w1 W→W.heap[c]?=some (Xs n)→Calls Tryz.prog 31 #[.pointer (some ⟨c,0,none⟩),.slice bo mo co,.int .i64 0] W (vM c W)):=fun W n hW hc =>
      xI c w.heap.size (by omega) f y.body bo mo co n 0 W (by omega) (D.out W hW).size hc (J.kept (D.out W hW) fun x c h=>ZE.kept (D.out W hW) f x c h)
     clear hy A H J;go_wp2_with fail
     go_region
     have Y:=zgl ay.out aB.out (wrap64 (nj+(mp:Int)));obtain ⟨w3,U⟩:∃w3,w3=(wr.setCell ⟨c,0,none⟩ (.int .i64 (wrap64 (nj+(mp:Int))))).drew:=⟨_,rfl⟩
     have aw:Hid (zc c w1 w3):=by
      show zc c w1 w3
      rw [U];exact Y.1.trans ⟨rfl,rfl,rfl,Nat.le_refl _,fun _ _ _=>rfl⟩
     have am:w3.heap[c]?=some (Xs (wrap64 (nj+(mp:Int)))):=by rw [U];exact Y.2
     rw [←U];have cm:=ql c _ 0 w3 am;clear Y U m1 c0 c1 n0 O am;go_wp2_with fail
     refine cm.mono ?_;clear cm;rintro e Z ⟨⟨b',rfl,-⟩,af,n4,aj⟩;have L:Hid (zc c w1 Z):=aw.out.trans af;have aq:Hid (Z.heap[c]?=some (Xs n4)):=aj;clear af aj;cases b' with
     | false =>
      have HP:Hid (Below w.heap.size w Z):=D.out Z L.out;go_wp2
      exact bodyPost_ret (v:=.bool false) (by simp [results,Tryz.results12,go_sem]) rfl ⟨.inr rfl,HP.out⟩
     | true =>
      obtain ⟨c0,c1⟩:=yE (aa.out Z L.out);have m3:=aA.out Z L.out;have ch:=ax.out Z n4 L.out aq.out;go_wp2_with fail
      refine ch.mono ?_;clear ch c0 c1 m3;rintro e w5 ⟨⟨b',rfl⟩,ai,n5,al⟩;have ag:Hid (zc c w1 w5):=L.out.trans ai;have az:Hid (w5.heap[c]?=some (Xs n5)):=al;have HP:Hid (Below w.heap.size w w5):=D.out w5 ag.out;clear ai al;cases b' with
      | false =>
       go_wp2
       exact bodyPost_ret (v:=.bool false) (by simp [results,Tryz.results12,go_sem]) rfl ⟨.inr rfl,HP.out⟩
      | true =>
       go_wp2
       exact ⟨⟨j+1,n5,by omega,by go_num,ag.out,az.out⟩,by simp [intOf];omega⟩
    ·obtain rfl:j=m2:=by omega
     have ad:¬ (j:Int)<(j:Int):=by omega
     have HP:Hid (Below w.heap.size w wr):=A;clear O A
     by_cases h4:nj≤4096
     ·go_wp2
      go_ret
      exact ⟨.inl rfl,HP.out⟩
     ·go_wp2
      go_ret
      exact ⟨.inr rfl,HP.out⟩
theorem zeL {l:List UInt8} {x:Ex} {a e:Nat} (h:yK l x a e):VB x=true:=by
 unfold yK at h
 have z:VB Xm=true:=rfl
 by_cases hc:(zW l).2.2≠0
 ·rw [if_pos hc] at h
  rw [h.1];exact z
 ·rw [if_neg hc] at h
  obtain ⟨f,r,G,o⟩:=h;rcases r with b | ⟨y,D⟩
  ·simp only [yB] at o
   rw [o.1];exact z
  ·have A:=(uV f).1 1 _ y D G fun t ht=>(uW l t ht).1
   unfold yB at o
   by_cases hk:(zu D).k=0
   ·simp only [if_pos hk] at o
    by_cases h24:24<zN y
    ·rw [if_pos h24] at o;rw [o.1];exact z
    ·rw [if_neg h24] at o;rw [o.1];exact A
   ·simp only [if_neg hk] at o
    rw [o.1];exact z
theorem zbT {R:Option (List UInt8)} (h:(prR R).2=0):R=some (prR R).1∧(prR R).1.length≤4096:=by
 cases R with
 | none=>simp [prR] at h
 | some t =>
  by_cases hl:4096<t.length
  ·simp [prR,hl] at h
  ·simp [prR,hl];omega
theorem zgm {R:Option (List UInt8)} (h:(prR R).2≠0):(prR R).1=[]:=by
 cases R with
 | none=>rfl
 | some t =>
  by_cases hl:4096<t.length
  ·simp [prR,hl]
  ·simp [prR,hl] at h
theorem zgn (f:Nat) (x:Pz) (v:Value) (z:Ez) (u:Value) (w:World) (hx:Xn w.heap.size w f x v) (hz:Zl w.heap.size w z u) (hS:Vw w) :
  Calls Tryz.prog 5 #[v,u] w fun e w'=>e=.returned (.bool true)∧Below w.heap.size w w':=by
 have aP:=hx;have av:=hz;obtain ⟨b,m,A,b2,m2,o,rfl,-,-⟩:=hx;obtain ⟨k,s,n,kids,line⟩:=z;obtain ⟨base,y,rfl,-⟩:=hz.kid;obtain ⟨Q,aM⟩:∃Q,Q=kids.length:=⟨_,rfl⟩;rw [←aM] at av ⊢;obtain ⟨z,aT⟩:∃z,z=Ez.mk k s n kids line:=⟨_,rfl⟩;rw [←aT] at av;obtain ⟨w1,ae⟩:∃w1,w1=(w.alloc (VV b m A b2 m2 o)).alloc (yW k s n base Q y line):=⟨_,rfl⟩;have a4:Hid (w1=(w.alloc (VV b m A b2 m2 o)).alloc (yW k s n base Q y line)):=ae;have aG:Below w.heap.size w w1:=by rw [ae];exact ((Below.refl _ w).alloc (Nat.le_refl _) _).alloc (by simp) _
 have aC:Hid (Below w.heap.size w w1):=aG
 have aO:Hid (w1.heap[w.heap.size]?=some (VV b m A b2 m2 o)):=by
  show _=_
  rw [ae,Below.heap_alloc _ _ _ (by simp)]
  exact World.alloc_heap_new w _
 have aH:Hid (w1.heap[w.heap.size+1]?=some (yW k s n base Q y line)):=by
  have h:=World.alloc_heap_new (w.alloc (VV b m A b2 m2 o)) (yW k s n base Q y line);have e:(w.alloc (VV b m A b2 m2 o)).heap.size=w.heap.size+1:=by simp
  rw [e] at h;show _=_
  rw [ae];exact h
 have HS:Hid (∀W,Below w.heap.size w W→Vw W):=fun W hW=>hS.below hW
 have ax:Hid (∀W,Below w.heap.size w W→Xn W.heap.size W f x (.agg #[.slice b m A,.slice b2 m2 o])):=fun W hW=>(aP.kept hW).wide hW.size
 have ay:Hid (∀W,Below w.heap.size w W→Zl W.heap.size W z (yp k s n base Q y line)):=fun W hW=>(av.kept hW).wide hW.size
 have a2:Hid (∀W,Below w.heap.size w W→Calls Tryz.prog 12 #[.agg #[.slice b m A,.slice b2 m2 o]] W fun e w'=>(e=.returned (.bool true)∨e=.returned (.bool false))∧Below W.heap.size W w'):=fun W hW=>uE f x _ W (ax W hW)
 have a3:Hid (∀W,Below w.heap.size w W→Calls Tryz.prog 15 #[yp k s n base Q y line] W fun e w'=>(e=.returned (.bool true)∨e=.returned (.bool false))∧Below W.heap.size W w'):=fun W hW=>zez z _ W (ay W hW)
 have an:Hid (∀W,Below w.heap.size w W→Calls Tryz.prog 11 #[] W fun e w'=>e=.returned (.bool true)∧Below W.heap.size W w'):=fun W hW=>zbL W (HS W hW)
 clear ae aG hS hz aT aM aP av;have c1:=a2.out w1 aC.out
 go_enter Tryz.func5,Tryz.ntmps5
 go_wp2_with fail
 rw [←a4.out];refine c1.mono ?_;clear c1;rintro e w2 ⟨hb,aj⟩;have V:Hid (Below w.heap.size w w2):=aC.out.trans (aj.mono aC.out.size);have aV:Hid (w2.heap[w.heap.size]?=some (VV b m A b2 m2 o)):=(aj.block _ (Array.getElem?_eq_some_iff.1 aO.out).1).trans aO.out;have az:Hid (w2.heap[w.heap.size+1]?=some (yW k s n base Q y line)):=(aj.block _ (Array.getElem?_eq_some_iff.1 aH.out).1).trans aH.out;clear aj;obtain ⟨e0,e1,e2,e3,e4⟩:=zF az.out;rcases hb with rfl | rfl
 case inr =>
  have cv:=an.out w2 V.out;go_wp2_with fail
  refine cv.mono ?_;clear cv;rintro e D ⟨rfl,H⟩;have I:Hid (Below w.heap.size w D):=V.out.trans (H.mono V.out.size);clear H;go_wp2
  go_ret
  exact ⟨rfl,I.out⟩
 have c2:=a3.out w2 V.out;go_wp2_with fail
 refine c2.mono ?_;clear c2 e0 e1 e2 e3 e4;rintro e w3 ⟨hb,ap⟩;have N:Hid (Below w.heap.size w w3):=V.out.trans (ap.mono V.out.size);have aD:Hid (w3.heap[w.heap.size]?=some (VV b m A b2 m2 o)):=(ap.block _ (Array.getElem?_eq_some_iff.1 aV.out).1).trans aV.out;have aS:Hid (w3.heap[w.heap.size+1]?=some (yW k s n base Q y line)):=(ap.block _ (Array.getElem?_eq_some_iff.1 az.out).1).trans az.out;clear ap;rcases hb with rfl | rfl
 case inr =>
  have cv:=an.out w3 N.out;go_wp2_with fail
  refine cv.mono ?_;clear cv;rintro e D ⟨rfl,H⟩;have I:Hid (Below w.heap.size w D):=N.out.trans (H.mono N.out.size);clear H;go_wp2
  go_ret
  exact ⟨rfl,I.out⟩
 have hT:=HS.out w3 N.out;have cp:=QG f x _ w3 (ax.out w3 N.out) hT.1 hT.2.1 hT.2.2;obtain ⟨T,al⟩:∃T,T=(prR (XN x)).1:=⟨_,rfl⟩;obtain ⟨E,au⟩:∃E,E=(prR (XN x)).2:=⟨_,rfl⟩
 have a5:Hid (E=0→XN x=some T∧T.length≤4096):=fun h=>by
  rw [au] at h;rw [al];exact zbT h
 have aY:Hid (E≠0→T=[]):=fun h=>by
  rw [au] at h;rw [al];exact zgm h
 rw [←al,←au] at cp;obtain ⟨p0,p1⟩:=yE aD.out;clear hT al au;go_wp2_with fail
 refine cp.mono ?_;clear cp p0 p1;rintro e D ⟨rfl,H⟩;have I:Hid (Below w.heap.size w D):=N.out.trans (H.mono N.out.size);have aK:Hid (D.heap[w.heap.size]?=some (VV b m A b2 m2 o)):=(H.block _ (Array.getElem?_eq_some_iff.1 aD.out).1).trans aD.out;have aR:Hid (D.heap[w.heap.size+1]?=some (yW k s n base Q y line)):=(H.block _ (Array.getElem?_eq_some_iff.1 aS.out).1).trans aS.out;clear H
 go_upto_if 30 with fail
 go_cut [6] (fun _ wx=>Below D.heap.size D wx)
 case first =>
  by_cases h0:E=0
  ·obtain ⟨ht,ah⟩:=a5.out h0
   subst h0;have ai:Hid (XN x=some T∧T.length≤4096):=⟨ht,ah⟩;have aq:=HS.out D I.out;have c3:=zcx T D aq.1.1 aq.2.1 aq.2.2;clear ht ah aq;go_wp2_with fail
   refine c3.mono ?_;clear c3;rintro e w5 ⟨x',at0,a9,v',rfl,hI,aB,O⟩;obtain ⟨s0,s1,s2,d0,d1,d2,rfl⟩:=Xl.agg aB;obtain ⟨ad,-,-⟩:=zaw hI;obtain ⟨rfl,rfl,ag⟩:=zeJ ai.out.1 ai.out.2 hI;obtain ⟨w6,X⟩:∃w6,w6=w5.alloc (.cells #[.slice s0 s1 s2,.slice d0 d1 d2] 25):=⟨_,rfl⟩;have ba:Hid (w6=w5.alloc (.cells #[.slice s0 s1 s2,.slice d0 d1 d2] 25)):=X;have J:Below D.heap.size D w6:=by rw [X];exact O.alloc O.size _
   have aI:Hid (Below D.heap.size D w6):=J
   have aW:Hid (w6.heap[w5.heap.size]?=some (.cells #[.slice s0 s1 s2,.slice d0 d1 d2] 25 (0,0))):=by
    show _=_
    rw [X];exact World.alloc_heap_new _ _
   have Z:Yz D.heap.size w6 x' (.agg #[.slice s0 s1 s2,.slice d0 d1 d2]):=by rw [X];exact Yz.kept aB (by simp) fun i _ hi=>Below.heap_alloc _ _ _ hi
   have aa:Xn w6.heap.size w6 (zbn x') (pgz x') (.agg #[.slice s0 s1 s2,.slice d0 d1 d2]):=Xl.pz Z (fun i _ hi=>hi) ad
   have aw:Below w.heap.size w w6:=I.out.trans (J.mono I.out.size)
   have CS:Hid (Calls Tryz.prog 8 #[.agg #[.slice b m A,.slice b2 m2 o],.agg #[.slice s0 s1 s2,.slice d0 d1 d2]] w6 fun e w'=>e=.returned (.bool true)∧Below w6.heap.size w6 w') :=
    Ua (max f (zbn x')) _ _ _ _ w6 ((ax.out w6 aw).more (Nat.le_max_left _ _)) (aa.more (Nat.le_max_right _ _)) ag
   obtain ⟨m0,m1,-⟩:=ZJ aW.out;obtain ⟨q0,q1⟩:=yE ((J.block _ (Array.getElem?_eq_some_iff.1 aK.out).1).trans aK.out);have aJ:=X.symm;clear X J O aB hI ad ag Z aa aw;go_wp2_with fail
   refine CS.out.mono ?_;clear CS m0 m1 q0 q1 aJ;rintro e w7 ⟨rfl,Y⟩;have L:Hid (Below D.heap.size D w7):=aI.out.trans (Y.mono aI.out.size);clear Y;go_wp2_with fail
   go_meet
   exact L.out
  ·have aX:=aY.out h0
   subst aX;have r0:((E:Int)==0)=false:=by rw [beq_eq_false_iff_ne];omega
   have hE:zb []=⟨#[]⟩:=rfl;have L:Hid (Below D.heap.size D D):=Below.refl _ _;clear h0;go_wp2_with fail
   go_meet
   exact L.out
 case rest =>
  have ak:Hid (Below w.heap.size w wc):=I.out.trans (hcut.mono I.out.size);have aE:Hid (wc.heap[w.heap.size+1]?=some (yW k s n base Q y line)):=(hcut.block _ (Array.getElem?_eq_some_iff.1 aR.out).1).trans aR.out;have hT:=HS.out wc ak.out;have cp:=vR z _ wc (ay.out wc ak.out) hT.1 hT.2.1 hT.2.2;obtain ⟨U,ao⟩:∃U,U=(prR (prE 24 z)).1:=⟨_,rfl⟩;obtain ⟨G,am⟩:∃G,G=(prR (prE 24 z)).2:=⟨_,rfl⟩
  have a1:Hid (G=0→prE 24 z=some U∧U.length≤4096):=fun h=>by
   rw [am] at h;rw [ao];exact zbT h
  have a0:Hid (G≠0→U=[]):=fun h=>by
   rw [am] at h;rw [ao];exact zgm h
  rw [←ao,←am] at cp;obtain ⟨e0,e1,e2,e3,e4⟩:=zF aE.out;clear hT ao am hcut;go_wp2_with fail
  refine cp.mono ?_;clear cp e0 e1 e2 e3 e4;rintro e w5 ⟨rfl,O⟩;have R:Hid (Below w.heap.size w w5):=ak.out.trans (O.mono ak.out.size);have aL:Hid (w5.heap[w.heap.size+1]?=some (yW k s n base Q y line)):=(O.block _ (Array.getElem?_eq_some_iff.1 aE.out).1).trans aE.out;clear O
  by_cases h0:G=0
  ·obtain ⟨ht,ah⟩:=a1.out h0
   subst h0;have ai:Hid (prE 24 z=some U∧U.length≤4096):=⟨ht,ah⟩;have ar:=HS.out w5 R.out;have c3:=zfs U w5 ar.1.1 ar.2.1 ar.2.2;clear ht ah ar;go_wp2_with fail
   refine c3.mono ?_;clear c3;rintro e w6 ⟨x',at0,a8,v',rfl,hI,Z,J⟩;obtain ⟨a',b',c',d0,d1,d2,k',rfl⟩:=zX.agg Z;have ad:=zeL hI;obtain ⟨rfl,rfl,ag⟩:=zeK ai.out.1 ai.out.2 hI;obtain ⟨w7,ab⟩:∃w7,w7=w6.alloc (.cells #[.int .i64 a',.string b',.int .i64 c',.slice d0 d1 d2,.int .i64 k'] 45):=⟨_,rfl⟩;have Y:Below w5.heap.size w5 w7:=by rw [ab];exact J.alloc J.size _
   have L:Hid (Below w.heap.size w w7):=R.out.trans (Y.mono R.out.size)
   have aZ:Hid (w7.heap[w6.heap.size]?=some (.cells #[.int .i64 a',.string b',.int .i64 c',.slice d0 d1 d2,.int .i64 k'] 45 (0,0))):=by
    show _=_
    rw [ab];exact World.alloc_heap_new _ _
   have aN:ZI w5.heap.size w7 x' (.agg #[.int .i64 a',.string b',.int .i64 c',.slice d0 d1 d2,.int .i64 k']):=by rw [ab];exact ZI.kept Z (by simp) fun i _ hi=>Below.heap_alloc _ _ _ hi
   have aa:Zl w7.heap.size w7 (XO x') (.agg #[.int .i64 a',.string b',.int .i64 c',.slice d0 d1 d2,.int .i64 k']):=zX.ez aN (fun i _ hi=>hi) ad
   have CS:Hid (Calls Tryz.prog 18 #[yp k s n base Q y line,.agg #[.int .i64 a',.string b',.int .i64 c',.slice d0 d1 d2,.int .i64 k']] w7 fun e w'=>e=.returned (.bool true)∧Below w7.heap.size w7 w') :=
    uw (qw z) _ _ _ _ w7 (Nat.le_refl _) ag (ay.out w7 L.out) aa
   obtain ⟨m0,m1,a7,m3,m4,-⟩:=zU aZ.out;obtain ⟨e0,e1,e2,e3,e4⟩:=zF ((Y.block _ (Array.getElem?_eq_some_iff.1 aL.out).1).trans aL.out);have aU:=ab.symm;clear ab Y J Z hI ad ag aN aa;go_wp2_with fail
   refine CS.out.mono ?_;clear CS m0 m1 a7 m3 m4 e0 e1 e2 e3 e4 aU;rintro e w8 ⟨rfl,aQ⟩;have aF:Hid (Below w.heap.size w w8):=L.out.trans (aQ.mono L.out.size);clear aQ;have cv:=an.out w8 aF.out;go_wp2_with fail
   refine cv.mono ?_;clear cv;rintro e w9 ⟨rfl,af⟩;have aA:Hid (Below w.heap.size w w9):=aF.out.trans (af.mono aF.out.size);clear af;go_wp2
   go_ret
   exact ⟨rfl,aA.out⟩
  ·have a6:=a0.out h0
   subst a6;have r0:((G:Int)==0)=false:=by rw [beq_eq_false_iff_ne];omega
   have v0:((G:Int) != 0)=true:=by simp [bne,r0]
   have hE:zb []=⟨#[]⟩:=rfl;have cv:=an.out w5 R.out;clear h0;go_wp2_with fail
   refine cv.mono ?_;clear cv;rintro e w9 ⟨rfl,af⟩;have aA:Hid (Below w.heap.size w w9):=R.out.trans (af.mono R.out.size);clear af;go_wp2
   go_ret
   exact ⟨rfl,aA.out⟩
end Go.Proofs.YtcphojjpapgblaaGreatDoor
